import Derived.Test.YtcddpmappmjilaaGreatDoorJLDifLFld
namespace Go.Proofs.YtcddpmappmjilaaGreatDoor
open Go.RowKit Go.Sort
theorem Tryz.infoStr:(Tryz.prog.info? 9).map (fun i=>(i.zero,i.size,i.bytes))=some (some (.string ⟨#[]⟩),1,16):=by kernel_rfl
theorem Tryz.infoTarg:(Tryz.prog.info? 67).map (fun i=>(i.zero,i.size,i.bytes))=some (some (.agg #[.int .i64 0,.int .i64 0]),2,16):=by kernel_rfl
theorem heap_set {W:World} {k j t:Nat} {cs:Array Value} {fr:Nat×Nat} (h:W.heap[k]? =some (.cells cs t fr)) (v:Value):(W.setCell ⟨k,j,none⟩ v).heap[k]? =some (.cells (cs.setIfInBounds j v) t fr):=by
 simp [World.setCell,Array.getElem?_modify,h]
theorem own_set {w:World} {B e size g cap n:Nat} {xs:List Value} (h:w.ownsRow B e size (.slice (some ⟨g,0,none⟩) n cap) n xs) (j:Nat) (v:Value):(w.setCell ⟨g,j,none⟩ v).ownsRow B e size (.slice (some ⟨g,0,none⟩) n cap) n (xs.set j v):=by
 refine ⟨by rw [List.length_set];exact h.1,?_⟩
 rcases h.2 with ⟨e,_⟩ | ⟨g',cap',cur,e,hB,hb,hc,hm,hs,ht⟩
 ·
  cases e
 cases e
 refine Or.inr ⟨g,cap,cur.setIfInBounds j v,rfl,hB,heap_set hb v,hc,hm,by simpa using hs,?_⟩
 rw [<-ht]
 simp [List.take_set]
theorem own_types {w:World} {B B' e e' n n' k k':Nat} {v v':Value} {xs xs':List Value} (h:w.ownsRow B e n v k xs) (h':w.ownsRow B' e' n' v' k' xs') (hne:e≠e'):v.ownBlock=none\/v.ownBlock≠v'.ownBlock:=by
 rcases h.2 with ⟨rfl,_⟩ | ⟨g,cap,cur,rfl,_,hb,_⟩
 ·
  exact Or.inl rfl
 rcases h'.2 with ⟨rfl,_⟩ | ⟨g',cap',cur',rfl,_,hb',_⟩
 ·
  exact Or.inr (by simp [Value.ownBlock])
 refine Or.inr fun e=>?_
 simp [Value.ownBlock]at e
 subst e
 rw [hb]at hb'
 cases hb'
 exact hne rfl
def scells (ns:List ByteArray):List Value:=ns.map Value.string
def tcell (t:TargD):List Value:=[.int .i64 t.cls,.int .i64 t.meth]
theorem tlen (ts:List TargD):(ts.flatMap tcell).length=ts.length*2:=by
 induction ts with
 | nil=>rfl
 | cons x l ih=>rw [List.flatMap_cons,List.length_append,ih,List.length_cons];simp [tcell];omega
theorem flat_one (ns:List ByteArray):ns.flatMap (fun s=>[Value.string s])=scells ns:=by
 induction ns with
 | nil=>rfl
 | cons x l ih=>rw [List.flatMap_cons,ih];rfl
theorem own_names {w:World} {B:Nat} {v:Value} {ns:List ByteArray} (h:w.ownsRow B 9 1 v ns.length (scells ns)) (hs:∀s∈ns,s.size<=maxLen) (hl:ns.length<=1000):SL 1 RS (MT B [9] w) w v ns:=by
 have hz:(ns.map fun s=>([Value.string s],s)).length=ns.length:=by simp
 have hf:(ns.map fun s=>([Value.string s],s)).flatMap (·.1)=scells ns:=by rw [List.flatMap_map];exact flat_one ns
 have:=own_SL (n:=1) (R:=RS) (T:=[9]) (zs:=ns.map fun s=>([Value.string s],s)) (by rw [hz,hf];exact h) (fun z hz=>by
  obtain ⟨s,hs',rfl⟩:=List.mem_map.1 hz
  exact ⟨rfl,rfl,hs s hs'⟩) (by simp) (by rw [hz];unfold maxLen;omega)
 rwa [List.map_map,show ((·.2)∘fun s:ByteArray=>([Value.string s],s))=id from rfl,List.map_id]at this
theorem own_targs {w:World} {B:Nat} {v:Value} {ts:List TargD} (h:w.ownsRow B 67 2 v ts.length (ts.flatMap tcell)) (hl:ts.length<=1000):SL 2 RT (MT B [67] w) w v ts:=by
 have hz:(ts.map fun s=>(tcell s,s)).length=ts.length:=by simp
 have hf:(ts.map fun s=>(tcell s,s)).flatMap (·.1)=ts.flatMap tcell:=by rw [List.flatMap_map]
 have:=own_SL (n:=2) (R:=RT) (T:=[67]) (zs:=ts.map fun s=>(tcell s,s)) (by rw [hz,hf];exact h) (fun z hz=>by
  obtain ⟨s,hs',rfl⟩:=List.mem_map.1 hz
  exact ⟨rfl,rfl⟩) (by simp) (by rw [hz];unfold maxLen;omega)
 rwa [List.map_map,show ((·.2)∘fun s:TargD=>(tcell s,s))=id from rfl,List.map_id]at this
theorem set_targs (ts:List TargD) (k:Nat) (t:TargD):((ts.flatMap tcell).set (k*2) (.int .i64 t.cls)).set (k*2+1) (.int .i64 t.meth)=(ts.set k t).flatMap tcell:=by
 induction ts generalizing k with
 | nil=>simp
 | cons x l ih=>
   cases k with
   | zero=>simp [tcell]
   | succ k=>
     rw [List.set_cons_succ,List.flatMap_cons,List.flatMap_cons,<-ih k]
     have e1:(k+1)*2=k*2+1+1:=by omega
     rw [e1]
     simp [tcell]
theorem tab_len (P:List (ByteArray×TargD)):∀acc:List ByteArray×List TargD,acc.1.length=acc.2.length->(P.foldl tabStep acc).1.length=(P.foldl tabStep acc).2.length:=by
 induction P with
 | nil=>exact fun _ h=>h
 | cons x P ih=>
   intro acc h
   refine ih _ ?_
   unfold tabStep
   split
   ·
    simpa using h
   simp [h]
theorem tab_snoc (P:List (ByteArray×TargD)) (x:ByteArray×TargD):(P++ [x]).foldl tabStep ([],[])=tabStep (P.foldl tabStep ([],[])) x:=by rw [List.foldl_append];rfl
theorem idxS_lt (l:List ByteArray) (s:ByteArray):idxS l s<l.length:=by
 unfold idxS
 split
 ·
  rename_i i h
  have:=(List.findIdx?_eq_some_iff_getElem.1 h).1
  omega
 omega
theorem ownT_len (l:List ClassD) (n:Nat):(ownT l n).length=(clsAt l n).meths.length:=by simp [ownT]
theorem ownT_get (l:List ClassD) (n j:Nat) (h:j<(ownT l n).length) (h':j<(clsAt l n).meths.length):(ownT l n)[j]=((clsAt l n).meths[j].name,⟨n,j⟩):=by simp [ownT]
set_option maxRecDepth 100000 in
set_option maxHeartbeats 8000000 in
theorem namesOf_any (w:World) (B b:Nat) (l:List ClassD) (n:Nat) (hn:n<l.length) (ao:Option Addr) (cl:Nat) (c0:w.cell? ⟨b,0,none⟩=some (.slice ao l.length cl)) (sC:SL 4 RC (· <B) w (.slice ao l.length cl) l)
 (vL:Value) (LL:List (List Nat)) (c6:w.cell? ⟨b,6,none⟩=some vL) (sL:SL 1 (RSl 1 RO) (MT B [3,23] w) w vL LL) (hnL:n<LL.length) (hLL:LL[n]=lineOf l n) (hB:B<=w.heap.size) (hN:l.length<=10) (hF:∀c∈l,c.meths.length<=8):
 Calls Tryz.prog 88 #[.pointer (some ⟨b,0,none⟩),.int .i64 n] w fun r w'=>Below w.heap.size w w'/\∃v u,r=.returned (.tuple #[v,u])/\SL 1 RS (MT w.heap.size [9] w') w' v (namesOf l n)/\SL 2 RT (MT w.heap.size [67] w') w' u (targetsOf l n):=by
 obtain ⟨iS,hiS,hzS0,hzS1,hzS2⟩:=info_parts Tryz.infoStr
 obtain ⟨iT,hiT,hzT0,hzT1,hzT2⟩:=info_parts Tryz.infoTarg
 have hbl:b<w.heap.size:=World.block_lt_of_cell? w _ c0
 have HLL:=mkHid hLL
 have HC:=mkHid sC
 have sL':=sL
 obtain ⟨aL,cL,rfl,-⟩:=sL'
 obtain ⟨bL,oL,aI,cI,rfl,hbL,eL,sI⟩:=sL.atSl n hnL
 rw [HLL.out]at eL sI
 have hkL:=line_lt hn
 have hlL:=line_len l n
 have HTO:Hid (tableOf l n=((lineOf l n).flatMap (ownT l)).foldl tabStep ([],[])):=rfl
 generalize lineOf l n=ln at*
 have HI:=mkHid sI
 have HK:=mkHid hkL
 have HFF:=mkHid hF
 have hn0:(0:Int)<=n:=by omega
 have hn1:(n:Int)<LL.length:=by omega
 clear sC sL sI hLL hkL hF
 go_enter Tryz.func88,Tryz.ntmps88
 go_wp2_with fail
 go_loopw [6,7,22] (fun v u i wr=>∃(k:Nat) (ns:List ByteArray) (ts:List TargD),k<=ln.length/\i=.int .i64 k/\Hid ((ns,ts)=((ln.take k).flatMap (ownT l)).foldl tabStep ([],[]))/\ns.length<=8*k/\Hid (ts.length=ns.length)/\Hid (∀s∈ns,s.size<=maxLen)/\
  wr.ownsRow w.heap.size 9 1 v ns.length (scells ns)/\wr.ownsRow w.heap.size 67 2 u ts.length (ts.flatMap tcell)/\Below w.heap.size w wr) (fun _ _ i _=>ln.length - (intOf i).toNat)
 case atStart=>exact ⟨0,[],[],Nat.zero_le _,rfl,rfl,by simp,rfl,(fun f hf=>by cases hf),World.ownsRow_nil _ _ _ _,World.ownsRow_nil _ _ _ _,Below.refl _ _⟩
 case round=>
  obtain ⟨k,ns,ts,hk,rfl,HP,hfl,HTS,HSZ,hown,hownT,hBr⟩:=hrel
  obtain ⟨a6,c6,rfl⟩:=own_shape hown
  obtain ⟨a7,c7,rfl⟩:=own_shape hownT
  have hsr:=hBr.size
  by_cases hlt:k<ln.length
  ·
   obtain ⟨bi,oi,rfl,hbi,ei⟩:=HI.out.atO k hlt
   have ei':=(hBr.cell (p:=⟨bi,oi+k,none⟩) hbi).trans ei
   have hmk:=HK.out ln[k] (List.getElem_mem hlt)
   have d0:wr.cell? ⟨b,0,none⟩=some (.slice ao l.length cl):=(hBr.cell (p:=⟨b,0,none⟩) hbl).trans c0
   obtain ⟨bc,oc,vf,vm,rfl,hbc,e0,e1,e2,e3,ef,em,es1,es2⟩:=HC.out.atC ln[k] hmk
   have e3':=(hBr.cell (p:=⟨bc,oc+ln[k]*4+3,none⟩) hbc).trans e3
   have hcf':=HFF.out l[ln[k]] (List.getElem_mem hmk)
   have HNX:Hid ((ln.take (k+1)).flatMap (ownT l)=(ln.take k).flatMap (ownT l)++ownT l ln[k]):=by
    show _=_
    rw [List.take_succ_eq_append_getElem hlt,List.flatMap_append]
    simp
   clear e0 e1 e2 e3 ef es1 es2 ei hbc
   rw [<-clsAt_eq hmk]at em hcf'
   obtain ⟨mo,cm,rfl,-⟩:=id em
   have EM':=mkHid em
   have e4:=e3'
   clear em e3'
   generalize ln[k]=m at*
   have HOT:=mkHid (ownT_len l m)
   generalize hms:(clsAt l m).meths=ms at*
   have HMS:=mkHid hms
   clear hms
   have hm0:(0:Int)<=m:=by omega
   have hm1:(m:Int)<l.length:=by omega
   have HPK:=mkHid HP.out
   obtain ⟨PK,hPK⟩:∃PK,PK=(ln.take k).flatMap (ownT l):=⟨_,rfl⟩
   rw [<-hPK]at HP HNX HPK
   have HPP:=mkHid hPK
   clear hPK
   go_wp2_with fail
   go_loopw [6,7,36] (fun v u i wq=>∃(j:Nat) (ns:List ByteArray) (ts:List TargD),j<=ms.length/\i=.int .i64 j/\Hid ((ns,ts)=(PK++(ownT l m).take j).foldl tabStep ([],[]))/\ns.length<=8*k+j/\Hid (ts.length=ns.length)/\Hid (∀s∈ns,s.size<=maxLen)/\
    wq.ownsRow w.heap.size 9 1 v ns.length (scells ns)/\wq.ownsRow w.heap.size 67 2 u ts.length (ts.flatMap tcell)/\Below w.heap.size w wq) (fun _ _ i _=>ms.length - (intOf i).toNat)
   case atStart=>exact ⟨0,ns,ts,Nat.zero_le _,rfl,by show _=_;rw [List.take_zero,List.append_nil];exact HP.out,by omega,HTS.out,HSZ.out,hown,hownT,hBr⟩
   case round=>
    clear hown hownT hBr HP HSZ hfl HTS hsr d0 ei' e4
    rename World=>wq
    obtain ⟨j,ns,ts,hj,rfl,HP,hfl,HTS,HSZ,hown,hownT,hBr⟩:=hrel
    obtain ⟨a6,c6,rfl⟩:=own_shape hown
    obtain ⟨a7,c7,rfl⟩:=own_shape hownT
    have hsr:=hBr.size
    by_cases hjt:j<ms.length
    ·
     obtain ⟨bm,om,va,vh,hmo,hbm,q0,q1,q2,q3,q4,q5,q6,q7,q8,sa,sh,sz1,sz2,sz3⟩:=(EM'.out.keptM (Kp.below (hBr.mono hB))).atM j hjt
     subst hmo
     obtain ⟨aa,ca,rfl,-⟩:=sa
     obtain ⟨ah,ch,rfl,-⟩:=sh
     have HNJ:Hid (PK++(ownT l m).take (j+1)=(PK++(ownT l m).take j)++ [(ms[j].name,⟨m,j⟩)]):=by
      show _=_
      have hjo:j<(ownT l m).length:=by rw [HOT.out];exact hjt
      rw [List.take_succ_eq_append_getElem hjo,List.append_assoc,ownT_get l m j hjo (by rw [HMS.out];exact hjt)]
      congr 3
      simp [HMS.out]
     have HON:=mkHid hown
     have HOTT:=mkHid hownT
     have hBa:=(hBr.alloc hsr (.cells #[.string ms[j].name,.bool ms[j].static,.slice aa ms[j].args.length ca,.int .i64 ms[j].ret.kind,.string ms[j].ret.cls,.int .i64 ms[j].stack,.int .i64 ms[j].locals,.string ms[j].code,.slice ah ms[j].hands.length ch] 83))
     have HB2:=mkHid (hBa.alloc hBa.size (.cells #[.int .i64 m,.int .i64 j] 67))
     generalize hmj:ms[j]=mj at*
     clear hmj hBa
     have SN:Hid (SL 1 RS (MT w.heap.size [9] ((wq.alloc (.cells #[.string mj.name,.bool mj.static,.slice aa mj.args.length ca,.int .i64 mj.ret.kind,.string mj.ret.cls,.int .i64 mj.stack,.int .i64 mj.locals,.string mj.code,.slice ah mj.hands.length ch] 83)).alloc (.cells #[.int .i64 m,.int .i64 j] 67))) ((wq.alloc (.cells #[.string mj.name,.bool mj.static,.slice aa mj.args.length ca,.int .i64 mj.ret.kind,.string mj.ret.cls,.int .i64 mj.stack,.int .i64 mj.locals,.string mj.code,.slice ah mj.hands.length ch] 83)).alloc (.cells #[.int .i64 m,.int .i64 j] 67)) (.slice a6 ns.length c6) ns):=own_names ((hown.alloc _).alloc _) HSZ.out (by omega)
     clear hown hownT
     go_wp2_with fail
     refine (indexStr_any _ _ _ ns mj.name SN.out).mono ?_
     rintro r w1 ⟨rfl,rfl⟩
     have hix:=idxS_lt ns mj.name
     by_cases hat:0<=idxS ns mj.name
     ·
      obtain ⟨at_,hat2⟩:=Int.eq_ofNat_of_zero_le hat
      have HST:Hid (tabStep (ns,ts) (mj.name,⟨m,j⟩)=(ns,ts.set at_ ⟨m,j⟩)):=by
       show _=_
       rw [tabStep,if_pos hat]
       show (ns,ts.set (idxS ns mj.name).toNat _)=_
       rw [hat2]
       rfl
      rw [hat2]at hix ⊢
      clear hat hat2
      obtain ⟨g7,hg7,hgc7⟩:∃g7,a7=some ⟨g7,0,none⟩/\ts.length<=c7:=by
       obtain ⟨h1,h2⟩:=own_app HOTT.out
       rcases h2 with rfl | ⟨g,rfl⟩
       ·
        rcases HOTT.out.2 with ⟨e,h0⟩ | ⟨g,_,_,e,_⟩
        ·
         have:=HTS.out
         omega
        cases e
       exact ⟨g,rfl,h1⟩
      subst hg7
      have hgl:=HOTT.out.lt g7 rfl
      have k0:wq.cell? ⟨g7,at_*2,none⟩=(ts.flatMap tcell)[at_*2]? :=HOTT.out.cellAt _ (by have:=HTS.out;omega)
      have k1:wq.cell? ⟨g7,at_*2+1,none⟩=(ts.flatMap tcell)[at_*2+1]? :=HOTT.out.cellAt _ (by have:=HTS.out;omega)
      have hat3:at_<ts.length:=by have:=HTS.out;omega
      have k0':wq.cell? ⟨g7,at_*2,none⟩=some (.int .i64 (ts[at_]).cls):=by rw [k0];have:=flat_get (n:=2) tcell ts at_ 0 (fun _ _=>rfl) hat3 (by decide);simpa [tcell]using this
      have k1':wq.cell? ⟨g7,at_*2+1,none⟩=some (.int .i64 (ts[at_]).meth):=by rw [k1];have:=flat_get (n:=2) tcell ts at_ 1 (fun _ _=>rfl) hat3 (by decide);simpa [tcell]using this
      obtain ⟨cur7,hb7⟩:∃cur7,wq.heap[g7]? =some (.cells cur7 67 (0,0)):=by
       rcases HOTT.out.2 with ⟨e,_⟩ | ⟨g,_,cur,e,_,hb,_⟩
       ·
        cases e
       cases e;exact ⟨cur,hb⟩
      have z0:∀q,wq.frozen? ⟨g7,q,none⟩=false:=fun q=>by simp [World.frozen?,hb7]
      have HF7:=mkHid hb7
      have ht0:(0:Int)<=at_:=by omega
      have ht1:(at_:Int)<ts.length:=by have:=HTS.out;omega
      have hg7s:g7<wq.heap.size:=hgl.2
      clear k0 k1 hb7
      go_wp2_with fail
      go_roundw
      case rel=>
       have hB3:=((((hBr.setCell (p:=⟨g7,at_*2,none⟩) hgl.1 (.int .i64 m)).setCell (p:=⟨g7,at_*2+1,none⟩) hgl.1 (.int .i64 j)).alloc (by simpa [World.setCell]using hsr) (.cells #[.string mj.name,.bool mj.static,.slice aa mj.args.length ca,.int .i64 mj.ret.kind,.string mj.ret.cls,.int .i64 mj.stack,.int .i64 mj.locals,.string mj.code,.slice ah mj.hands.length ch] 83)).alloc (by simp [World.setCell];omega) (.cells #[.int .i64 m,.int .i64 j] 67))
       refine ⟨j+1,ns,ts.set at_ ⟨m,j⟩,by omega,by go_num,?_,by omega,by show _=_;have:=HTS.out;simpa using this,HSZ.out,?_,?_,hB3⟩
       ·
        show _=_
        rw [HNJ.out,tab_snoc,<-HP.out,HST.out]
       ·
        refine ((HON.out.kept (row:=some g7) ?_ ?_).alloc _).alloc _
        ·
         exact grown_set (grown_set (World.grownBy.refl _ _) _ _ (Or.inl rfl)) _ _ (Or.inl rfl)
        rcases own_types HON.out HOTT.out (by decide)with h | h
        ·
         exact Or.inl h
        exact Or.inr h
       have:=own_set (own_set HOTT.out (at_*2) (.int .i64 m)) (at_*2+1) (.int .i64 j)
       rw [set_targs ts at_ ⟨m,j⟩]at this
       rw [List.length_set]
       exact (this.alloc _).alloc _
      case measure=>simp [intOf];omega
     have HST:Hid (tabStep (ns,ts) (mj.name,⟨m,j⟩)=(ns++ [mj.name],ts++ [⟨m,j⟩])):=by
      show _=_
      rw [tabStep,if_neg hat]
     have hON2:=(HON.out.alloc (.cells #[.string mj.name,.bool mj.static,.slice aa mj.args.length ca,.int .i64 mj.ret.kind,.string mj.ret.cls,.int .i64 mj.stack,.int .i64 mj.locals,.string mj.code,.slice ah mj.hands.length ch] 83)).alloc (.cells #[.int .i64 m,.int .i64 j] 67)
     have hOT2:=(HOTT.out.alloc (.cells #[.string mj.name,.bool mj.static,.slice aa mj.args.length ca,.int .i64 mj.ret.kind,.string mj.ret.cls,.int .i64 mj.stack,.int .i64 mj.locals,.string mj.code,.slice ah mj.hands.length ch] 83)).alloc (.cells #[.int .i64 m,.int .i64 j] 67)
     have k0:((wq.alloc (.cells #[.string mj.name,.bool mj.static,.slice aa mj.args.length ca,.int .i64 mj.ret.kind,.string mj.ret.cls,.int .i64 mj.stack,.int .i64 mj.locals,.string mj.code,.slice ah mj.hands.length ch] 83)).alloc (.cells #[.int .i64 m,.int .i64 j] 67)).cell? ⟨wq.heap.size,0,none⟩=some (.string mj.name):=by simp [go_sem]
     have kt:((wq.alloc (.cells #[.string mj.name,.bool mj.static,.slice aa mj.args.length ca,.int .i64 mj.ret.kind,.string mj.ret.cls,.int .i64 mj.stack,.int .i64 mj.locals,.string mj.code,.slice ah mj.hands.length ch] 83)).alloc (.cells #[.int .i64 m,.int .i64 j] 67)).heap[wq.heap.size+1]? =some (.cells #[.int .i64 m,.int .i64 j] 67 (0,0)):=by
      have:=heap_alloc_new (wq.alloc (.cells #[.string mj.name,.bool mj.static,.slice aa mj.args.length ca,.int .i64 mj.ret.kind,.string mj.ret.cls,.int .i64 mj.stack,.int .i64 mj.locals,.string mj.code,.slice ah mj.hands.length ch] 83)) (.cells #[.int .i64 m,.int .i64 j] 67)
      simpa using this
     have hzz:wq.heap.size+1<((wq.alloc (.cells #[.string mj.name,.bool mj.static,.slice aa mj.args.length ca,.int .i64 mj.ret.kind,.string mj.ret.cls,.int .i64 mj.stack,.int .i64 mj.locals,.string mj.code,.slice ah mj.hands.length ch] 83)).alloc (.cells #[.int .i64 m,.int .i64 j] 67)).heap.size:=by simp
     have hB2:=HB2.out
     generalize ((wq.alloc (.cells #[.string mj.name,.bool mj.static,.slice aa mj.args.length ca,.int .i64 mj.ret.kind,.string mj.ret.cls,.int .i64 mj.stack,.int .i64 mj.locals,.string mj.code,.slice ah mj.hands.length ch] 83)).alloc (.cells #[.int .i64 m,.int .i64 j] 67))=W2 at*
     generalize idxS ns mj.name=ix at*
     have hlq6:∀q,(Value.slice a6 ns.length c6).ownBlock=some q->w.heap.size<=q/\q<wq.heap.size:=fun q e=>HON.out.lt q e
     have HBB:Hid (ns.length+1<=maxLen/\(ns.length+1)*16<=140737488355328/\w.heap.size<=(W2.alloc (.cells #[.string mj.name] 9)).heap.size):=⟨by unfold maxLen;omega,by omega,by have:=hB2.size;simp;omega⟩
     have HO2:=mkHid hON2
     have HT2:=mkHid hOT2
     have HKT:=mkHid kt
     have HLQ:=mkHid hlq6
     have HBW:=mkHid hB2
     clear hON2 hOT2 kt hlq6 hB2 HB2 SN q0 q1 q2 q3 q4 q5 q6 q7 q8
     go_wp2_with (at_builtin;refine wpList_append_lies _ rfl _ _ 56 rfl w.heap.size 9 iS (.string ⟨#[]⟩) 1 16 Tryz.underlying56 hiS hzS0 hzS1 hzS2 rfl (by decide) (.slice a6 ns.length c6) ns.length (scells ns) rfl (HO2.out.alloc _) ⟨W2.heap.size,0,none⟩ 1 1 [.string mj.name] rfl rfl (World.news_of_block (heap_alloc_new W2 _)) (by intro u hu;simp at hu;subst hu;rfl) (by omega) HBB.out.1 HBB.out.2.1 HBB.out.2.2 _ rfl ?_)
     intro g6 cp6 w3 hown3 hgr3 _ hlt3
     have hsz3:W2.heap.size+1<=w3.heap.size:=by have:=hgr3.size;simpa using this
     have hblk3:w3.heap[wq.heap.size+1]? =some (.cells #[.int .i64 m,.int .i64 j] 67 (0,0)):=by
      rw [hgr3.block (wq.heap.size+1) (by simp;omega) (fun e=>by have:=(HLQ.out _ e.symm).2;omega),Below.heap_alloc _ _ _ hzz]
      exact HKT.out
     have hT3:=(HT2.out.alloc (.cells #[.string mj.name] 9)).kept hgr3 (own_types HOTT.out HON.out (by decide))
     have hB3:Below w.heap.size w w3:=(HBW.out.alloc HBW.out.size _).grown hgr3 (by have:=HBW.out.size;simp;omega) (fun q e=>(HLQ.out q e).1)
     have k3:=cell_of hblk3 0 (x:=.int .i64 m) rfl
     have k4:=cell_of hblk3 1 (x:=.int .i64 j) rfl
     have HBC:Hid (ts.length+1<=maxLen/\(ts.length+1)*16<=140737488355328/\w.heap.size<=(w3.alloc (.cells #[.int .i64 m,.int .i64 j] 67)).heap.size):=⟨by have:=HTS.out;unfold maxLen;omega,by have:=HTS.out;omega,by have:=hB3.size;simp;omega⟩
     have HT3:=mkHid hT3
     have HN3:=mkHid hown3
     have HB3:=mkHid hB3
     clear hown3 hgr3 hblk3 hT3 hB3 k0
     go_wp2_with (at_builtin;refine wpList_append_lies _ rfl _ _ 57 rfl w.heap.size 67 iT (.agg #[.int .i64 0,.int .i64 0]) 2 16 Tryz.underlying57 hiT hzT0 hzT1 hzT2 rfl (by decide) (.slice a7 ts.length c7) ts.length (ts.flatMap tcell) rfl (HT3.out.alloc _) ⟨w3.heap.size,0,none⟩ 1 1 [.int .i64 m,.int .i64 j] rfl rfl (World.news_of_block (heap_alloc_new w3 _)) (by intro u hu;simp at hu;rcases hu with rfl | rfl<;>rfl) (by omega) HBC.out.1 HBC.out.2.1 HBC.out.2.2 _ rfl ?_)
     intro g7 cp7 w4 hown4 hgr4 _ hlt4
     have hN4:=(HN3.out.alloc (.cells #[.int .i64 m,.int .i64 j] 67)).kept hgr4 (own_types HN3.out HT3.out (by decide))
     have hB4:Below w.heap.size w w4:=(HB3.out.alloc HB3.out.size _).grown hgr4 (by have:=HB3.out.size;simp;omega) (fun q e=>(HT3.out.lt q e).1)
     have HFIN:=mkHid (And.intro hN4 (And.intro hown4 hB4))
     clear hown4 hgr4 hN4 hB4 k3 k4
     go_wp2_with fail
     go_roundw
     case rel=>
      obtain ⟨hN4,hT4,hB4⟩:=HFIN.out
      refine ⟨j+1,ns++ [mj.name],ts++ [⟨m,j⟩],by omega,by go_num,?_,by simp;omega,by show _=_;have:=HTS.out;simp;omega,?_,?_,?_,hB4⟩
      ·
       show _=_
       rw [HNJ.out,tab_snoc,<-HP.out,HST.out]
      ·
       show ∀s∈_,_
       intro s hs
       rcases List.mem_append.1 hs with hs | hs
       ·
        exact HSZ.out s hs
       rw [List.mem_singleton]at hs
       rw [hs]
       exact sz1
      ·
       rw [List.length_append,show scells (ns++ [mj.name])=scells ns++ [.string mj.name] by simp [scells]]
       exact hN4
      rw [List.length_append,List.flatMap_append]
      exact hT4
     case measure=>simp [intOf];omega
    have HX:Hid ((ns,ts)=((ln.take (k+1)).flatMap (ownT l)).foldl tabStep ([],[])):=by
     show _=_
     rw [HNX.out,HP.out,List.take_of_length_le (by rw [HOT.out];omega)]
    have HN5:=mkHid hown
    have HT5:=mkHid hownT
    clear hown hownT
    go_wp2_with fail
    go_roundw
    case rel=>exact ⟨k+1,ns,ts,by omega,by go_num,HX.out,by omega,HTS.out,HSZ.out,HN5.out,HT5.out,hBr⟩
    case measure=>simp [intOf];omega
  have HX:Hid (tableOf l n=(ns,ts)):=by
   show _=_
   rw [HTO.out,HP.out,List.take_of_length_le (by omega)]
  have SN:=mkHid (own_names hown HSZ.out (by omega))
  have ST:=mkHid (own_targs hownT (by have:=HTS.out;omega))
  clear hown hownT
  go_wp2_with fail
  go_ret2
  exact ⟨hBr,_,_,rfl,by rw [namesOf,HX.out];exact SN.out,by rw [targetsOf,HX.out];exact ST.out⟩
end Go.Proofs.YtcddpmappmjilaaGreatDoor
