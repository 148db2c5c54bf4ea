import Derived.Test.YtcddpmappmjilaaGreatDoorJLRf1LRf2
import Derived.Test.YtcddpmappmjilaaGreatDoorLNam
import Derived.Test.YtcddpmappmjilaaGreatDoorLRf4
namespace Go.Proofs.YtcddpmappmjilaaGreatDoor
open Go.RowKit Go.Sort
def tabF (l:List ClassD) (n:Nat):List ByteArray×List TargD:=((upOf l n).flatMap (ownT l)).foldl tabStep ([],[])
theorem idxS_hit {l:List ByteArray} {s:ByteArray} {k:Nat} (hk:k<l.length) (h:l[k]=s) (hb:∀(j:Nat) (hj:j<l.length),j<k->l[j]≠s):idxS l s=k:=by
 have:l.findIdx? (fun x=>decide (x=s))=some k:=by
  rw [List.findIdx?_eq_some_iff_getElem]
  exact ⟨hk,by simp [h],fun j hj=>by simp [hb j (by omega) hj]⟩
 rw [idxS,this]
theorem idxS_none {l:List ByteArray} {s:ByteArray} (hb:∀(j:Nat) (hj:j<l.length),l[j]≠s):idxS l s= -1:=by
 have:l.findIdx? (fun x=>decide (x=s))=none:=by
  rw [List.findIdx?_eq_none_iff]
  intro c hc
  obtain ⟨j,hj,rfl⟩:=List.getElem_of_mem hc
  simp [hb j hj]
 rw [idxS,this]
theorem set_last (ts:List TargD) (t t':TargD):(ts++ [t]).set ts.length t'=ts++ [t']:=by simp
set_option maxRecDepth 100000 in
set_option maxHeartbeats 8000000 in
theorem TableOf_any (w:World) (B:Nat) (v:Value) (l:List ClassD) (n:Nat) (hn:n<l.length) (hv:SL 4 RC (· <B) w v l) (hB:B<=w.heap.size) (hN:l.length<=10) (hF:∀c∈l,c.meths.length<=8):
 Calls Tryz.prog 18 #[v,.int .i64 n] w fun r w'=>Below w.heap.size w w'/\∃v u,r=.returned (.tuple #[v,u])/\SL 1 RS (MT w.heap.size [9] w') w' v (tabF l n).1/\SL 2 RT (MT w.heap.size [67] w') w' u (tabF l n).2:=by
 obtain ⟨iS,hiS,hzS0,hzS1,hzS2⟩:=info_parts Tryz.infoStr
 obtain ⟨iT,hiT,hzT0,hzT1,hzT2⟩:=info_parts Tryz.infoTarg
 have HC:=mkHid hv
 obtain ⟨ao,cl,rfl,-⟩:=hv
 obtain ⟨hkL,hlL⟩:=upOf_ok hn
 have HU:=mkHid (UpFrom_any w B _ l n hn HC.out hB hN)
 have HTO:Hid (tabF l n=((upOf l n).flatMap (ownT l)).foldl tabStep ([],[])):=rfl
 generalize upOf l n=ln at*
 have HK:=mkHid hkL
 have HFF:=mkHid hF
 clear hkL hF
 go_enter Tryz.func18,Tryz.ntmps18
 go_wp2_with (first | (go_at_call 36;refine HU.out.mono ?_;rintro r w0 ⟨hb0,u0,rfl,su0⟩;have HI:=mkHid su0;have HB0:=mkHid hb0;obtain ⟨aI,cI,rfl,-⟩:=su0;clear hb0))
 go_loopw [6,7,9] (fun v u i wr=>∃(k:Nat) (ns:List ByteArray) (ts:List TargD),k<=ln.length/\i=.int .i64 k/\Hid ((ns,ts)=((ln.take k).flatMap (ownT l)).foldl tabStep ([],[]))/\ns.length<=8*k/\Hid (ts.length=ns.length)/\Hid (∀s∈ns,s.size<=maxLen)/\
  wr.ownsRow w0.heap.size 9 1 v ns.length (scells ns)/\wr.ownsRow w0.heap.size 67 2 u ts.length (ts.flatMap tcell)/\Below w0.heap.size w0 wr) (fun _ _ i _=>ln.length - (intOf i).toNat)
 case atStart=>exact ⟨0,[],[],Nat.zero_le _,rfl,rfl,by simp,rfl,(fun f hf=>by cases hf),World.ownsRow_nil _ _ _ _,World.ownsRow_nil _ _ _ _,Below.refl _ _⟩
 case round=>
  obtain ⟨k,ns,ts,hk,rfl,HP,hfl,HTS,HSZ,hown,hownT,hBr⟩:=hrel
  obtain ⟨a6,c6,rfl⟩:=own_shape hown
  obtain ⟨a7,c7,rfl⟩:=own_shape hownT
  have hsr:=hBr.size
  by_cases hlt:k<ln.length
  ·
   obtain ⟨bi,oi,rfl,hbi,ei⟩:=HI.out.atO k hlt
   have hmk:=HK.out ln[k] (List.getElem_mem hlt)
   have hB0:=HB0.out
   obtain ⟨bc,oc,vf,vm,rfl,hbc,e0,e1,e2,e3,ef,em,es1,es2⟩:=(HC.out.keptC (Kp.below (hB0.mono hB))).atC ln[k] hmk
   have hcf':=HFF.out l[ln[k]] (List.getElem_mem hmk)
   have HNX:Hid ((ln.take (k+1)).flatMap (ownT l)=(ln.take k).flatMap (ownT l)++ownT l ln[k]):=by
    show _=_
    rw [List.take_succ_eq_append_getElem hlt,List.flatMap_append]
    simp
   clear e0 e1 e2 ef es1 es2 hB0
   rw [<-clsAt_eq hmk]at em hcf'
   obtain ⟨mo,cm,rfl,-⟩:=id em
   have EM':=mkHid em
   have HEI:=mkHid (And.intro hbi ei)
   have HE3:=mkHid (And.intro hbc e3)
   clear em hbi ei hbc e3
   generalize ln[k]=m at*
   have HOT:=mkHid (ownT_len l m)
   generalize hms:(clsAt l m).meths=ms at*
   have HMS:=mkHid hms
   clear hms
   have hm0:(0:Int)<=m:=by omega
   have hm1:(m:Int)<l.length:=by omega
   obtain ⟨PK,hPK⟩:∃PK,PK=(ln.take k).flatMap (ownT l):=⟨_,rfl⟩
   rw [<-hPK]at HP HNX
   have HPP:=mkHid hPK
   clear hPK
   go_wp2_with fail
   go_loopw [6,7,10] (fun v u i wq=>∃(j:Nat) (ns:List ByteArray) (ts:List TargD),j<=ms.length/\i=.int .i64 j/\Hid ((ns,ts)=(PK++(ownT l m).take j).foldl tabStep ([],[]))/\ns.length<=8*k+j/\Hid (ts.length=ns.length)/\Hid (∀s∈ns,s.size<=maxLen)/\
    wq.ownsRow w0.heap.size 9 1 v ns.length (scells ns)/\wq.ownsRow w0.heap.size 67 2 u ts.length (ts.flatMap tcell)/\Below w0.heap.size w0 wq) (fun _ _ i _=>ms.length - (intOf i).toNat)
   case atStart=>exact ⟨0,ns,ts,Nat.zero_le _,rfl,by show _=_;rw [List.take_zero,List.append_nil];exact HP.out,by omega,HTS.out,HSZ.out,hown,hownT,hBr⟩
   case round=>
    clear hown hownT hBr HP HSZ hfl HTS hsr
    rename World=>wq
    obtain ⟨j,ns,ts,hj,rfl,HP,hfl,HTS,HSZ,hown,hownT,hBr⟩:=hrel
    obtain ⟨a6,c6,rfl⟩:=own_shape hown
    obtain ⟨a7,c7,rfl⟩:=own_shape hownT
    have hsr:=hBr.size
    have ei:=(hBr.cell (p:=⟨bi,oi+k,none⟩) HEI.out.1).trans HEI.out.2
    have e3:=(hBr.cell (p:=⟨bc,oc+m*4+3,none⟩) HE3.out.1).trans HE3.out.2
    by_cases hjt:j<ms.length
    ·
     obtain ⟨bm,om,va,vh,hmo,hbm,q0,q1,q2,q3,q4,q5,q6,q7,q8,sa,sh,sz1,sz2,sz3⟩:=(EM'.out.keptM (Kp.below (B:=B) (hBr.mono (Nat.le_trans hB HB0.out.size)))).atM j hjt
     subst hmo
     have HNJ:Hid (PK++(ownT l m).take (j+1)=(PK++(ownT l m).take j)++ [(ms[j].name,⟨m,j⟩)]):=by
      show _=_
      have hjo:j<(ownT l m).length:=by rw [HOT.out];exact hjt
      rw [List.take_succ_eq_append_getElem hjo,List.append_assoc,ownT_get l m j hjo (by rw [HMS.out];exact hjt)]
      congr 3
      simp [HMS.out]
     have HON:=mkHid hown
     have HOTT:=mkHid hownT
     have HBr:=mkHid hBr
     generalize hmj:ms[j].name=nm at*
     have SN:Hid (SL 1 RS (MT w0.heap.size [9] wq) wq (.slice a6 ns.length c6) ns):=own_names hown HSZ.out (by omega)
     clear hown hownT hmj sa sh q1 q2 q3 q4 q5 q6 q7 q8 hBr
     go_wp2_with fail
     go_loopw [12] (fun i wx=>∃q:Nat,q<=ns.length/\i=.int .i64 q/\Hid (∀(j:Nat) (hj:j<ns.length),j<q->ns[j]≠nm)/\wx=wq) (fun i _=>ns.length - (intOf i).toNat)
     case atStart=>exact ⟨0,Nat.zero_le _,rfl,(fun j _ h=>by omega),rfl⟩
     case round=>
      obtain ⟨q,hq,rfl,HQ,rfl⟩:=hrel
      rename World=>wq
      by_cases hlt3:q<ns.length
      ·
       obtain ⟨b6,o6,rfl,hb6,d6,_⟩:=SN.out.atS q hlt3
       by_cases hs:ns[q]=nm
       ·
        have hs':(ns[q].toList==nm.toList)=true:=by rw [hs];simp
        have hat2:=idxS_hit hlt3 hs HQ.out
        have HST:Hid (tabStep (ns,ts) (nm,⟨m,j⟩)=(ns,ts.set q ⟨m,j⟩)):=by
         show _=_
         have h0:0<=idxS ns nm:=by omega
         rw [tabStep,if_pos h0]
         show (ns,ts.set (idxS ns nm).toNat _)=_
         rw [hat2]
         rfl
        clear hs hat2 HQ
        obtain ⟨g7,hg7,hgc7⟩:∃g7,a7=some ⟨g7,0,none⟩/\ts.length<=c7:=by
         obtain ⟨h1,h2⟩:=own_app HOTT.out
         rcases h2 with rfl | ⟨g,rfl⟩
         ·
          rcases HOTT.out.2 with ⟨e,h0⟩ | ⟨g,_,_,e,_⟩
          ·
           have:=HTS.out
           omega
          cases e
         exact ⟨g,rfl,h1⟩
        subst hg7
        have hgl:=HOTT.out.lt g7 rfl
        have k0:wq.cell? ⟨g7,q*2,none⟩=(ts.flatMap tcell)[q*2]? :=HOTT.out.cellAt _ (by have:=HTS.out;omega)
        have k1:wq.cell? ⟨g7,q*2+1,none⟩=(ts.flatMap tcell)[q*2+1]? :=HOTT.out.cellAt _ (by have:=HTS.out;omega)
        have hat3:q<ts.length:=by have:=HTS.out;omega
        have k0':wq.cell? ⟨g7,q*2,none⟩=some (.int .i64 (ts[q]).cls):=by rw [k0];have:=flat_get (n:=2) tcell ts q 0 (fun _ _=>rfl) hat3 (by decide);simpa [tcell]using this
        have k1':wq.cell? ⟨g7,q*2+1,none⟩=some (.int .i64 (ts[q]).meth):=by rw [k1];have:=flat_get (n:=2) tcell ts q 1 (fun _ _=>rfl) hat3 (by decide);simpa [tcell]using this
        obtain ⟨cur7,hb7⟩:∃cur7,wq.heap[g7]? =some (.cells cur7 67 (0,0)):=by
         rcases HOTT.out.2 with ⟨e,_⟩ | ⟨g,_,cur,e,_,hb,_⟩
         ·
          cases e
         cases e;exact ⟨cur,hb⟩
        have z0:∀q,wq.frozen? ⟨g7,q,none⟩=false:=fun q=>by simp [World.frozen?,hb7]
        have ht0:(0:Int)<=q:=by omega
        have ht1:(q:Int)<ts.length:=by have:=HTS.out;omega
        have ht2:(q:Int)<ns.length:=by omega
        have ht3:¬(q:Int)=ns.length:=by omega
        have hg7s:g7<wq.heap.size:=hgl.2
        clear k0 k1 hb7
        go_wp2_with fail
        go_roundw
        case rel=>
         have hB3:=(HBr.out.setCell (p:=⟨g7,q*2,none⟩) hgl.1 (.int .i64 m)).setCell (p:=⟨g7,q*2+1,none⟩) hgl.1 (.int .i64 j)
         refine ⟨j+1,ns,ts.set q ⟨m,j⟩,by omega,by go_num,?_,by omega,by show _=_;have:=HTS.out;simpa using this,HSZ.out,?_,?_,hB3⟩
         ·
          show _=_
          rw [HNJ.out,tab_snoc,<-HP.out,HST.out]
         ·
          refine HON.out.kept (row:=some g7) ?_ ?_
          ·
           exact grown_set (grown_set (World.grownBy.refl _ _) _ _ (Or.inl rfl)) _ _ (Or.inl rfl)
          rcases own_types HON.out HOTT.out (by decide)with h | h
          ·
           exact Or.inl h
          exact Or.inr h
         have:=own_set (own_set HOTT.out (q*2) (.int .i64 m)) (q*2+1) (.int .i64 j)
         rw [set_targs ts q ⟨m,j⟩]at this
         rw [List.length_set]
         exact this
        case measure=>simp [intOf];omega
       have HQ':Hid (∀(j:Nat) (hj:j<ns.length),j<q+1->ns[j]≠nm):=fun j hj h=>by
        by_cases hjk:j<q
        ·
         exact HQ.out j hj hjk
        have:j=q:=by omega
        subst this
        exact hs
       have hs':(ns[q].toList==nm.toList)=false:=by
        rw [beq_eq_false_iff_ne]
        exact fun e=>hs (tl_inj e)
       have ht2:(q:Int)<ns.length:=by omega
       clear hs
       go_wp2_with fail
       go_roundw
       case rel=>exact ⟨q+1,by omega,by go_num,HQ'.out,trivial⟩
       case measure=>simp [intOf];omega
      have hqn:q=ns.length:=by omega
      subst hqn
      have hat:=idxS_none (l:=ns) (s:=nm) fun j hj=>HQ.out j hj hj
      have HST:Hid (tabStep (ns,ts) (nm,⟨m,j⟩)=(ns++ [nm],ts++ [⟨m,j⟩])):=by
       show _=_
       rw [tabStep,if_neg (by show ¬ 0<=idxS ns nm;omega)]
      have HBB:Hid (ns.length+1<=maxLen/\(ns.length+1)*16<=140737488355328/\w0.heap.size<=(wq.alloc (.cells #[.string nm] 9)).heap.size):=⟨by unfold maxLen;omega,by omega,by simp;omega⟩
      have hlq6:∀q,(Value.slice a6 ns.length c6).ownBlock=some q->w0.heap.size<=q/\q<wq.heap.size:=fun q e=>HON.out.lt q e
      have HLQ:=mkHid hlq6
      clear hat HQ hlt3 hq SN q0 hlq6
      go_wp2_with (at_builtin;refine wpList_append_lies _ rfl _ _ 56 rfl w0.heap.size 9 iS (.string ⟨#[]⟩) 1 16 Tryz.underlying56 hiS hzS0 hzS1 hzS2 rfl (by decide) (.slice a6 ns.length c6) ns.length (scells ns) rfl (HON.out.alloc _) ⟨wq.heap.size,0,none⟩ 1 1 [.string nm] rfl rfl (World.news_of_block (heap_alloc_new wq _)) (by intro u hu;simp at hu;subst hu;rfl) (by omega) HBB.out.1 HBB.out.2.1 HBB.out.2.2 _ rfl ?_)
      intro g6 cp6 w3 hown3 hgr3 _ hlt3
      have hT3:=(HOTT.out.alloc (.cells #[.string nm] 9)).kept hgr3 (own_types HOTT.out HON.out (by decide))
      have hB3:Below w0.heap.size w0 w3:=(HBr.out.alloc hsr _).grown hgr3 (by simp;omega) (fun q e=>(HLQ.out q e).1)
      have HBC:Hid (ts.length+1<=maxLen/\(ts.length+1)*16<=140737488355328/\w0.heap.size<=(w3.alloc (.cells #[.int .i64 0,.int .i64 0] 67)).heap.size):=⟨by have:=HTS.out;unfold maxLen;omega,by have:=HTS.out;omega,by have:=hB3.size;simp;omega⟩
      have HT3:=mkHid hT3
      have HN3:=mkHid hown3
      have HB3:=mkHid hB3
      clear hown3 hgr3 hT3 hB3 ei e3
      go_upto_region 16 with (at_builtin;refine wpList_append_lies _ rfl _ _ 57 rfl w0.heap.size 67 iT (.agg #[.int .i64 0,.int .i64 0]) 2 16 Tryz.underlying57 hiT hzT0 hzT1 hzT2 rfl (by decide) (.slice a7 ts.length c7) ts.length (ts.flatMap tcell) rfl (HT3.out.alloc _) ⟨w3.heap.size,0,none⟩ 1 1 [.int .i64 0,.int .i64 0] rfl rfl (World.news_of_block (heap_alloc_new w3 _)) (by intro u hu;simp at hu;subst hu;rfl) (by omega) HBC.out.1 HBC.out.2.1 HBC.out.2.2 _ rfl ?_;intro g7 cp7 w4 hown4 hgr4 _ hlt4;have HG4:=mkHid (And.intro hown4 hgr4);clear hown4 hgr4)
      obtain ⟨hown4,hgr4⟩:=HG4.out
      have hN4:=(HN3.out.alloc (.cells #[.int .i64 0,.int .i64 0] 67)).kept hgr4 (own_types HN3.out HT3.out (by decide))
      have hB4:Below w0.heap.size w0 w4:=(HB3.out.alloc HB3.out.size _).grown hgr4 (by have:=HB3.out.size;simp;omega) (fun q e=>(HT3.out.lt q e).1)
      have ei:=(hB4.cell (p:=⟨bi,oi+k,none⟩) HEI.out.1).trans HEI.out.2
      have hgl:=hown4.lt g7 rfl
      have hct:((ts++ [(⟨0,0⟩:TargD)]).flatMap tcell)=ts.flatMap tcell++ [.int .i64 0,.int .i64 0]:=by rw [List.flatMap_append];rfl
      have hk0:w4.cell? ⟨g7,ns.length*2,none⟩=some (.int .i64 0):=by
       have:=hown4.cellAt (ns.length*2) (by have:=HTS.out;omega)
       rw [this,<-HTS.out,List.getElem?_append_right (by rw [tlen];omega),tlen]
       simp
      have hk1:w4.cell? ⟨g7,ns.length*2+1,none⟩=some (.int .i64 0):=by
       have:=hown4.cellAt (ns.length*2+1) (by have:=HTS.out;omega)
       rw [this,<-HTS.out,List.getElem?_append_right (by rw [tlen];omega),tlen,show ts.length*2+1 - ts.length*2=1 by omega]
       rfl
      obtain ⟨cur7,hb7⟩:∃cur7,w4.heap[g7]? =some (.cells cur7 67 (0,0)):=by
       rcases hown4.2 with ⟨e,_⟩ | ⟨g,_,cur,e,_,hb,_⟩
       ·
        cases e
       cases e;exact ⟨cur,hb⟩
      have z0:∀q,w4.frozen? ⟨g7,q,none⟩=false:=fun q=>by simp [World.frozen?,hb7]
      have hg7s:g7<w4.heap.size:=hgl.2
      have ht0:(0:Int)<=ns.length:=by omega
      have ht1:(ns.length:Int)<(ts.length:Int)+1:=by have:=HTS.out;omega
      have ht2:(ns.length:Int)<((ts.length+1:Nat):Int):=by have:=HTS.out;omega
      have HFIN:=mkHid (And.intro hN4 (And.intro hown4 hB4))
      have HGL:=mkHid hgl
      have HCT:=mkHid hct
      clear hN4 hown4 hgr4 hB4 hgl hb7 HG4 hct
      go_wp2_with fail
      go_roundw
      case rel=>
       obtain ⟨hN4,hT4,hB4⟩:=HFIN.out
       refine ⟨j+1,ns++ [nm],ts++ [⟨m,j⟩],by omega,by go_num,?_,by simp;omega,by show _=_;have:=HTS.out;simp;omega,?_,?_,?_,(hB4.setCell (p:=⟨g7,ns.length*2,none⟩) HGL.out.1 (.int .i64 m)).setCell (p:=⟨g7,ns.length*2+1,none⟩) HGL.out.1 (.int .i64 j)⟩
       ·
        show _=_
        rw [HNJ.out,tab_snoc,<-HP.out,HST.out]
       ·
        show ∀s∈_,_
        intro s hs
        rcases List.mem_append.1 hs with hs | hs
        ·
         exact HSZ.out s hs
        rw [List.mem_singleton]at hs
        rw [hs]
        exact sz1
       ·
        rw [List.length_append,show scells (ns++ [nm])=scells ns++ [.string nm] by simp [scells]]
        refine hN4.kept (row:=some g7) ?_ ?_
        ·
         exact grown_set (grown_set (World.grownBy.refl _ _) _ _ (Or.inl rfl)) _ _ (Or.inl rfl)
        rcases own_types hN4 hT4 (by decide)with h | h
        ·
         exact Or.inl h
        exact Or.inr h
       have:=own_set (own_set hT4 (ns.length*2) (.int .i64 m)) (ns.length*2+1) (.int .i64 j)
       rw [<-HCT.out,set_targs (ts++ [(⟨0,0⟩:TargD)]) ns.length ⟨m,j⟩,show (ts++ [(⟨0,0⟩:TargD)]).set ns.length ⟨m,j⟩=ts++ [⟨m,j⟩] from by rw [<-HTS.out];exact set_last ts ⟨0,0⟩ ⟨m,j⟩]at this
       rw [List.length_append]
       exact this
      case measure=>simp [intOf];omega
    have HX:Hid ((ns,ts)=((ln.take (k+1)).flatMap (ownT l)).foldl tabStep ([],[])):=by
     show _=_
     rw [HNX.out,HP.out,List.take_of_length_le (by rw [HOT.out];omega)]
    have HN5:=mkHid hown
    have HT5:=mkHid hownT
    clear hown hownT
    go_wp2_with fail
    go_roundw
    case rel=>exact ⟨k+1,ns,ts,by omega,by go_num,HX.out,by omega,HTS.out,HSZ.out,HN5.out,HT5.out,hBr⟩
    case measure=>simp [intOf];omega
  have HX:Hid (tabF l n=(ns,ts)):=by
   show _=_
   rw [HTO.out,HP.out,List.take_of_length_le (by omega)]
  have SN:=mkHid ((own_names hown HSZ.out (by omega)).monoS (M':=MT w.heap.size [9] wr) fun _ hk=>hk.more HB0.out.size (fun _ ht=>ht))
  have ST:=mkHid ((own_targs hownT (by have:=HTS.out;omega)).monoT (M':=MT w.heap.size [67] wr) fun _ hk=>hk.more HB0.out.size (fun _ ht=>ht))
  have HBW:=mkHid (HB0.out.trans (hBr.mono HB0.out.size))
  clear hown hownT
  go_wp2_with fail
  go_ret2
  exact ⟨HBW.out,_,_,rfl,by rw [HX.out];exact SN.out,by rw [HX.out];exact ST.out⟩
end Go.Proofs.YtcddpmappmjilaaGreatDoor
namespace Go.Proofs.YtcddpmappmjilaaGreatDoor
open Go.RowKit Go.Sort
def allI (l:List ClassD) (q:Nat->Bool):Bool:=(List.range l.length).all q
theorem allI_end {l:List ClassD} {q:Nat->Bool} {k:Nat} (hk:¬k<l.length) (h:∀j,j<k->q j=true):allI l q=true:=by
 rw [allI,List.all_eq_true]
 exact fun j hj=>h j (by have:=List.mem_range.1 hj;omega)
theorem allI_bad {l:List ClassD} {q:Nat->Bool} {k:Nat} (hk:k<l.length) (h:q k=false):allI l q=false:=by
 rw [allI,List.all_eq_false]
 exact ⟨k,List.mem_range.2 hk,by simp [h]⟩
theorem upto_succ {q:Nat->Bool} {k:Nat} (h:∀j,j<k->q j=true) (hk:q k=true):∀j,j<k+1->q j=true:=fun j hj=>by
 by_cases hjk:j<k
 ·
  exact h j hjk
 have:j=k:=by omega
 subst this
 exact hk
theorem ne_nil {s:ByteArray} (h:¬s=⟨#[]⟩):s.toList.isEmpty=false:=by
 cases hq:s.toList with
 | nil=>exact absurd (tl_nil hq) h
 | cons _ _=>rfl
theorem differB_pw (l:List ByteArray):differB l=true↔l.Pairwise (· ≠ ·):=by
 induction l using snoc_ind with
 | h0=>simp [differB]
 | h1 l x ih=>
   rw [differB_snoc,Bool.and_eq_true,ih,List.pairwise_append,List.all_eq_true]
   constructor
   ·
    rintro ⟨h1,h2⟩
    refine ⟨h1,List.pairwise_singleton _ _,fun a ha b hb=>?_⟩
    rw [List.mem_singleton]at hb
    subst hb
    have:=h2 a ha
    intro e
    simp [e]at this
   rintro ⟨h1,_,h2⟩
   refine ⟨h1,fun y hy=>?_⟩
   have h3:=h2 y hy x (by simp)
   have h4:¬x=y:=fun e=>h3 e.symm
   simp [h4]
theorem diff_of {α:Type} (f:α->ByteArray) (xs:List α) (h:∀(i j:Nat) (hi:i<xs.length) (hj:j<xs.length),i<j->f xs[i]≠f xs[j]):differB (xs.map f)=true:=by
 rw [differB_pw,List.pairwise_iff_getElem]
 intro i j hi hj hij
 have:=h i j (by simpa using hi) (by simpa using hj) hij
 simpa using this
theorem diff_no {α:Type} (f:α->ByteArray) (xs:List α) (i j:Nat) (hi:i<xs.length) (hj:j<xs.length) (hij:i<j) (h:f xs[i]=f xs[j]):differB (xs.map f)=false:=by
 rw [Bool.eq_false_iff,ne_eq,differB_pw,List.pairwise_iff_getElem]
 intro hp
 exact hp i j (by simpa using hi) (by simpa using hj) hij (by simpa using h)
def q1 (l:List ClassD) (i:Nat):Bool:=decide (firstAt l (clsAt l i).name=i)
def q2 (l:List ClassD):Bool:=decide (0<=firstAt l topName)&&decide (0<=firstAt l errName)
def q3 (l:List ClassD) (i:Nat):Bool:=upperB (clsAt l i)
def q4 (l:List ClassD) (i:Nat):Bool:=decide ((clsAt l i).super=(⟨#[]⟩:ByteArray))||decide (0<=firstAt l (clsAt l i).super)
def q5 (l:List ClassD) (i:Nat):Bool:=decide (0<(upOf l i).length)
def q6 (l:List ClassD):Bool:=decide ((clsAt l (firstAt l errName).toNat).super=topName)&&(match allF l (firstAt l errName).toNat with | []=>false | f::_=>decide (f.kind.kind=1))
def toldM (l:List ClassD) (m:MethD):Bool:=m.args.all (toldK l)&&toldK l m.ret&&m.hands.all (fun h=>decide (0<=firstAt l h.cls))
def q7 (l:List ClassD) (i:Nat):Bool:=(clsAt l i).fields.all (fun f=>toldK l f.kind)&&(clsAt l i).meths.all (toldM l)
def q8 (l:List ClassD) (i:Nat):Bool:=differB ((allF l i).map (·.name))&&differB ((clsAt l i).meths.map (·.name))
def fitM (x y:MethD):Bool:=!decide (x.name=y.name)||(!x.static&& !y.static&&eqL sameK x.args y.args&&sameK x.ret y.ret)
def q9 (l:List ClassD) (i:Nat):Bool:=(upOf l i).dropLast.all fun u=>(clsAt l i).meths.all fun x=>(clsAt l u).meths.all fun y=>fitM x y
def checkLk (l:List ClassD):Int:=
 if checkL l≠0 then checkL l else if allI l (q1 l)=false then 6 else if q2 l=false then 5 else if allI l (q3 l)=false then 4 else if allI l (q4 l)=false then 5 else if allI l (q5 l)=false then 4
 else if q6 l=false then 4 else if allI l (q7 l)=false then 5 else if allI l (q8 l)=false then 6 else if allI l (q9 l)=false then 4 else 0
theorem lk1 {l:List ClassD} (h0:checkL l=0) (h:allI l (q1 l)=false):checkLk l=6:=by simp [checkLk,h0,h]
theorem lk2 {l:List ClassD} (h0:checkL l=0) (h1:allI l (q1 l)=true) (h:q2 l=false):checkLk l=5:=by simp [checkLk,h0,h,h1]
theorem lk3 {l:List ClassD} (h0:checkL l=0) (h1:allI l (q1 l)=true) (h2:q2 l=true) (h:allI l (q3 l)=false):checkLk l=4:=by simp [checkLk,h0,h,h1,h2]
theorem lk4 {l:List ClassD} (h0:checkL l=0) (h1:allI l (q1 l)=true) (h2:q2 l=true) (h3:allI l (q3 l)=true) (h:allI l (q4 l)=false):checkLk l=5:=by simp [checkLk,h0,h,h1,h2,h3]
theorem lk5 {l:List ClassD} (h0:checkL l=0) (h1:allI l (q1 l)=true) (h2:q2 l=true) (h3:allI l (q3 l)=true) (h4:allI l (q4 l)=true) (h:allI l (q5 l)=false):checkLk l=4:=by simp [checkLk,h0,h,h1,h2,h3,h4]
theorem lk6 {l:List ClassD} (h0:checkL l=0) (h1:allI l (q1 l)=true) (h2:q2 l=true) (h3:allI l (q3 l)=true) (h4:allI l (q4 l)=true) (h5:allI l (q5 l)=true) (h:q6 l=false):checkLk l=4:=by simp [checkLk,h0,h,h1,h2,h3,h4,h5]
theorem lk7 {l:List ClassD} (h0:checkL l=0) (h1:allI l (q1 l)=true) (h2:q2 l=true) (h3:allI l (q3 l)=true) (h4:allI l (q4 l)=true) (h5:allI l (q5 l)=true) (h6:q6 l=true) (h:allI l (q7 l)=false):checkLk l=5:=by simp [checkLk,h0,h,h1,h2,h3,h4,h5,h6]
theorem lk8 {l:List ClassD} (h0:checkL l=0) (h1:allI l (q1 l)=true) (h2:q2 l=true) (h3:allI l (q3 l)=true) (h4:allI l (q4 l)=true) (h5:allI l (q5 l)=true) (h6:q6 l=true) (h7:allI l (q7 l)=true) (h:allI l (q8 l)=false):checkLk l=6:=by simp [checkLk,h0,h,h1,h2,h3,h4,h5,h6,h7]
theorem lk9 {l:List ClassD} (h0:checkL l=0) (h1:allI l (q1 l)=true) (h2:q2 l=true) (h3:allI l (q3 l)=true) (h4:allI l (q4 l)=true) (h5:allI l (q5 l)=true) (h6:q6 l=true) (h7:allI l (q7 l)=true) (h8:allI l (q8 l)=true) (h:allI l (q9 l)=false):checkLk l=4:=by simp [checkLk,h0,h,h1,h2,h3,h4,h5,h6,h7,h8]
theorem lk10 {l:List ClassD} (h0:checkL l=0) (h1:allI l (q1 l)=true) (h2:q2 l=true) (h3:allI l (q3 l)=true) (h4:allI l (q4 l)=true) (h5:allI l (q5 l)=true) (h6:q6 l=true) (h7:allI l (q7 l)=true) (h8:allI l (q8 l)=true) (h9:allI l (q9 l)=true):checkLk l=0:=by simp [checkLk,h0,h1,h2,h3,h4,h5,h6,h7,h8,h9]
end Go.Proofs.YtcddpmappmjilaaGreatDoor
