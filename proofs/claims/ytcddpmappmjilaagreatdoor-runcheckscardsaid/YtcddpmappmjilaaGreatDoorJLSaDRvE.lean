import Derived.Test.YtcddpmappmjilaaGreatDoorJLErrLEq
import Derived.Test.YtcddpmappmjilaaGreatDoorLNam
import Derived.Test.YtcddpmappmjilaaGreatDoorJLMkArgL
import Derived.Test.YtcddpmappmjilaaGreatDoorGrow
import Derived.Test.YtcddpmappmjilaaGreatDoorDies
import Derived.Deep.RegionHeld3
namespace Go.Proofs.YtcddpmappmjilaaGreatDoor
open Go.RowKit
def meth0:MethD:=⟨⟨#[]⟩,false,[],⟨0,⟨#[]⟩⟩,0,0,⟨#[]⟩,[]⟩
def methAt (l:List ClassD) (t:TargD):MethD:=((clsAt l t.cls.toNat).meths[t.meth.toNat]?).getD meth0
def okT (l:List ClassD) (t:TargD):Prop:=∃c j:Nat,t=⟨c,j⟩/\c<l.length/\j<(clsAt l c).meths.length
def standB (l:List ClassD) (n:Nat) (m:MethD):Bool:=
 if idxS (namesOf l n) m.name<0 then true else
  match (targetsOf l n)[(idxS (namesOf l n) m.name).toNat]? with
  | none=>true
  | some t=>!m.static&& !(methAt l t).static&&sameK m.ret (methAt l t).ret&&eqL sameK m.args (methAt l t).args
def askSame (l:List ClassD):Bool:=(List.range l.length).all fun i=>decide ((clsAt l i).super=(⟨#[]⟩:ByteArray))||(clsAt l i).meths.all (standB l (supAt l i).toNat)
theorem tab_ok (l:List ClassD) (P:List (ByteArray×TargD)):∀acc:List ByteArray×List TargD,(∀t∈acc.2,okT l t)->(∀x∈P,okT l x.2)->∀t∈(P.foldl tabStep acc).2,okT l t:=by
 induction P with
 | nil=>exact fun acc h _=>h
 | cons x P ih=>
   intro acc h hP
   refine ih (tabStep acc x) ?_ fun y hy=>hP y (List.mem_cons_of_mem _ hy)
   have hx:=hP x (List.mem_cons_self ..)
   unfold tabStep
   split
   ·
    intro t ht
    rcases List.mem_or_eq_of_mem_set ht with h1 | h1
    ·
     exact h t h1
    rw [h1];exact hx
   intro t ht
   rcases List.mem_append.1 ht with h1 | h1
   ·
    exact h t h1
   rw [List.mem_singleton.1 h1];exact hx
theorem targets_ok {l:List ClassD} {n:Nat} (hn:n<l.length):∀t∈targetsOf l n,okT l t:=by
 refine tab_ok l _ ([],[]) (fun t h=>by cases h) fun x hx=>?_
 obtain ⟨k,hk,hx⟩:=List.mem_flatMap.1 hx
 obtain ⟨p,hp,rfl⟩:=List.mem_map.1 hx
 refine ⟨k,p.2,rfl,line_lt hn k hk,?_⟩
 have:=List.mem_zipIdx hp
 omega
theorem table_len (l:List ClassD) (n:Nat):(namesOf l n).length=(targetsOf l n).length:=tab_len _ ([],[]) rfl
theorem methAt_eq {l:List ClassD} {c j:Nat} (h:j<(clsAt l c).meths.length):methAt l ⟨c,j⟩=(clsAt l c).meths[j]:=by simp [methAt,h]
theorem standB_no {l:List ClassD} {n:Nat} {m:MethD} (h:idxS (namesOf l n) m.name<0):standB l n m=true:=if_pos h
theorem standB_at {l:List ClassD} {n k c j:Nat} {m:MethD} (h:idxS (namesOf l n) m.name=k) (hk:k<(targetsOf l n).length) (ht:(targetsOf l n)[k]=⟨c,j⟩) (hj:j<(clsAt l c).meths.length):
 standB l n m=(!m.static&& !(clsAt l c).meths[j].static&&sameK m.ret (clsAt l c).meths[j].ret&&eqL sameK m.args (clsAt l c).meths[j].args):=by
 rw [standB,h,if_neg (by omega),Int.toNat_natCast,List.getElem?_eq_getElem hk,ht]
 show (!m.static&& !(methAt l ⟨c,j⟩).static&&sameK m.ret (methAt l ⟨c,j⟩).ret&&eqL sameK m.args (methAt l ⟨c,j⟩).args)=_
 rw [methAt_eq hj]
end Go.Proofs.YtcddpmappmjilaaGreatDoor
namespace Go.Proofs.YtcddpmappmjilaaGreatDoor
open Go.RowKit Go.Maps
theorem wp_region_diesg_lit {P:Program} {id:Nat} {Q:Exit->Act->World->Prop} {a:Act} {w:World} {L l:List Oper} {z:Oper} (B:Nat) (W:World) (R:List PanicEntry->World->Prop) (hm:P.follows .mixedOrders=true) (hB:Region.lexB .any L.toArray=true)
 (hz:L.getLast? =some z) (hl:L.dropLast=l) (hw:Below B W w)
 (hR:∀chain a' w,a'.defers=a.defers->R chain w->Q (.panic chain) a' w)
 (h:wpQuiet P L.toArray (fun w'=>∃g:Gr B W,w'=g.w) (fun a'=>DiesIn P L.toArray (fun w'=>∃g:Gr B W,w'=g.w) R z a') l a):(Code.region id L.toArray true).wp P Q a w:=by
 have e:L=l++ [z]:=by
  obtain ⟨ys,e⟩:=List.getLast?_eq_some_iff.1 hz
  rw [<-hl,e,List.dropLast_concat]
 subst e
 simp only [Region.lexB,Bool.and_eq_true]at hB
 refine wp_region_any hm (wpAny_of_dies (R:=R) (Q:=fun _=>False) (C:=fun w'=>∃g:Gr B W,w'=g.w) hR (fun _ _ _ h=>h.elim) _ _ _ _ rfl ⟨⟨_,hw.drew⟩,rfl⟩ ?_)
 have:=wpAnyD_lex (Q:=fun _=>False) (C:=fun w'=>∃g:Gr B W,w'=g.w) (R:=R) (md:=.any) (z:=z) hB.1 l 0 (Array.replicate (l++ [z]).toArray.size false) a (by simp) (by simpa using hB.2) h
 simpa using this
structure QD where
 g:Nat
 e:Int
 ans:Bool
def RQ (first:Array Value) (_:Nat->Prop) (_:World) (cs:List Value) (q:QD):Prop:=cs= [.func (.func q.g) first #[],.int .i64 q.e]
theorem SL.atQ {first:Array Value} {M:Nat->Prop} {w:World} {ao:Option Addr} {len cap:Nat} {l:List QD} (h:SL 2 (RQ first) M w (.slice ao len cap) l) (k:Nat) (hk:k<l.length):
 ∃b off,ao=some ⟨b,off,none⟩/\b<w.heap.size/\w.cell? ⟨b,off+k*2,none⟩=some (.func (.func l[k].g) first #[])/\w.cell? ⟨b,off+k*2+1,none⟩=some (.int .i64 l[k].e):=by
 obtain ⟨b,off,cs,e,_,hb,_,hc,rfl⟩:=h.at k hk
 exact ⟨b,off,e,hb,hc 0 (by decide),hc 1 (by decide)⟩
def askRes:List QD->Int
 | []=>0
 | q::l=>if q.ans then askRes l else q.e
theorem askRes_drop (l:List QD) (k:Nat) (hk:k<l.length):askRes (l.drop k)=if l[k].ans then askRes (l.drop (k+1)) else l[k].e:=by
 rw [List.drop_eq_getElem_cons hk,askRes]
set_option maxRecDepth 100000 in
set_option maxHeartbeats 2000000 in
theorem Ask_any (w:World) (B:Nat) (first:Array Value) (v:Value) (l:List QD) (hv:SL 2 (RQ first) (· <B) w v l) (hB:B<=w.heap.size) (hcf:∀q∈l,∀args w,(callFunc q.g args).run Tryz.prog w=.ok (.enter q.g args) w) (he:∀q∈l,q.e≠0)
 (hc:∀(k:Nat) (hk:k<l.length),(∀(j:Nat) (hj:j<l.length),j<k->l[j].ans=true)->∀w',Below w.heap.size w w'->Calls Tryz.prog l[k].g first w' fun r w''=>r=.returned (.bool l[k].ans)/\Below w'.heap.size w' w''):
 Calls Tryz.prog 32 #[v] w fun r w'=>ChkOut (askRes l) r/\Below w.heap.size w w':=by
 have hsf:∀(a:Addr) (w:World) (fn:Fn) (first cap:Array Value),(store a (.func fn first cap)).run Tryz.prog w=stored Tryz.prog w a (.func fn first cap) .plain:=fun a w fn first cap=>run_store _ w a _ _ rfl
 have HV:=mkHid hv
 have HC:=mkHid hc
 have HE:=mkHid he
 have HF:=mkHid hcf
 obtain ⟨ao,cl,rfl,-,hl,-⟩:=hv
 unfold maxLen at hl
 clear hc he hcf
 go_enter Tryz.func32,Tryz.ntmps32
 go_wp2_with fail
 go_loopw [6] (fun i wr=>∃k:Nat,k<=l.length/\i=.int .i64 k/\Hid (askRes l=askRes (l.drop k)/\(∀(j:Nat) (hj:j<l.length),j<k->l[j].ans=true)/\Below w.heap.size w wr)) (fun i _=>l.length - (intOf i).toNat)
 case atStart=>exact ⟨0,Nat.zero_le _,rfl,rfl,(fun _ _ h=>by omega),Below.refl _ _⟩
 case round=>
  obtain ⟨k,hk,rfl,HQ⟩:=hrel
  have hsr:w.heap.size<=wr.heap.size:=HQ.out.2.2.size
  by_cases hlt:k<l.length
  ·
   obtain ⟨b,off,rfl,hb,c0,c1⟩:=(HV.out.kept (Kp.below (HQ.out.2.2.mono hB)) fun _ _ h=>h).atQ k hlt
   have hB1:=(Below.refl wr.heap.size wr).alloc (Nat.le_refl _) (.cells #[.func (.func l[k].g) first #[],.int .i64 l[k].e] 93)
   obtain ⟨W0,hW⟩:∃W0,W0=wr.alloc (.cells #[.func (.func l[k].g) first #[],.int .i64 l[k].e] 93):=⟨_,rfl⟩
   have hz:wr.heap.size+1<=W0.heap.size:=by rw [hW];simp
   rw [<-hW]at hB1
   have hne:Nonempty (Gr (wr.heap.size+1) W0):=⟨⟨W0,Below.refl _ _⟩⟩
   have ky0:∀g:Gr (wr.heap.size+1) W0,g.w.cell? ⟨wr.heap.size,0,none⟩=some (.func (.func l[k].g) first #[]):=fun g=>(g.ok.cell (p:=⟨wr.heap.size,0,none⟩) (by simp)).trans (by rw [hW];simp [go_sem])
   have ky1:∀g:Gr (wr.heap.size+1) W0,g.w.cell? ⟨wr.heap.size,1,none⟩=some (.int .i64 l[k].e):=fun g=>(g.ok.cell (p:=⟨wr.heap.size,1,none⟩) (by simp)).trans (by rw [hW];simp [go_sem])
   have HBG:Hid (∀g:Gr (wr.heap.size+1) W0,Below w.heap.size w g.w):=fun g=>HQ.out.2.2.trans ((hB1.mono hsr).trans (g.ok.mono (by omega)))
   have HCX:Hid (∀g:Gr (wr.heap.size+1) W0,Calls Tryz.prog l[k].g first g.w fun e w''=>e=.returned (.bool l[k].ans)/\∃g':Gr (wr.heap.size+1) W0,w''=g'.w):=fun g=>Gr.calls g hz (HC.out k hlt HQ.out.2.1 g.w (HBG.out g))
   have HDY:Hid (∀g:Gr (wr.heap.size+1) W0,Calls Tryz.prog 25 #[.bool true,.int .i64 l[k].e] g.w fun e w''=>e=.returned (.tuple #[])/\∃g':Gr (wr.heap.size+1) W0,w''=g'.w):=fun g=>(demand_any g.w true l[k].e).mono (by
    rintro e w' ⟨rfl,h | h⟩
    ·
     exact absurd h.1 (by simp)
    exact ⟨h.2,g,rfl⟩)
   have hcf:=HF.out l[k] (List.getElem_mem hlt)
   have HEK:=mkHid (HE.out l[k] (List.getElem_mem hlt))
   have HST:=mkHid (askRes_drop l k hlt)
   have HAN:Hid (l[k].ans=true->∀(j:Nat) (hj:j<l.length),j<k+1->l[j].ans=true):=fun ha j hj hjk=>by
    by_cases hjk':j<k
    ·
     exact HQ.out.2.1 j hj hjk'
    have:j=k:=by omega
    subst this
    exact ha
   have HB1:=mkHid hB1
   have h00:(0:Int)<=k:=by omega
   have h01:(k:Int)<l.length:=by omega
   clear hB1
   generalize l[k]=q at*
   obtain ⟨qg,qe,qa⟩:=q
   dsimp only at*
   go_wp2_with fail
   rw [<-hW]
   clear hW
   cases qa with
   | true=>
     refine wp_region_grow_lit (wr.heap.size+1) W0 (by kernel_rfl) (by kernel_rfl) (Below.refl _ _) ?_
     repeat (go_big_quiet_step (first | (go_at_call 25;exact HDY.out _) | (exact HCX.out _)))
     refine wpQuiet_nil ?_
     intro _ hw'
     obtain ⟨g,rfl⟩:=hw'
     have HFIN:Hid (askRes l=askRes (l.drop (k+1))/\(∀(j:Nat) (hj:j<l.length),j<k+1->l[j].ans=true)/\Below w.heap.size w g.w):=⟨HQ.out.1.trans (HST.out.trans (if_pos rfl)),HAN.out rfl,HBG.out g⟩
     generalize g.w=w2 at*
     clear ky0 ky1 hne hcf
     go_wp2_with fail
     go_roundw
     case rel=>exact ⟨k+1,by omega,by go_num,HFIN.out⟩
     case measure=>simp [intOf];omega
   | false=>
     have HDN:Hid (∀g:Gr (wr.heap.size+1) W0,Calls Tryz.prog 25 #[.bool false,.int .i64 qe] g.w fun e w''=>e=.panicked [wrongV qe 0]/\Below w.heap.size w w''):=fun g=>(demand_any g.w false qe).mono (by
      rintro e w' ⟨h0,h | h⟩
      ·
       exact ⟨h.2,h0 ▸ HBG.out g⟩
      exact absurd h.1 (by simp))
     have HFIN:Hid (askRes l=qe/\qe≠0):=⟨HQ.out.1.trans (HST.out.trans (if_neg (by simp))),HEK.out⟩
     refine wp_region_diesg_lit (wr.heap.size+1) W0 (fun chain w'=>chain= [wrongV qe 0]/\Below w.heap.size w w') (by kernel_rfl) (by kernel_rfl) rfl (by simp only [List.dropLast];rfl) (Below.refl _ _) ?_ ?_
     ·
      rintro chain a' w' hd ⟨rfl,hg⟩
      exact ⟨hd,Or.inl ⟨by rw [HFIN.out.1];exact HFIN.out.2,by rw [HFIN.out.1]⟩,hg⟩
     repeat (go_big_quiet_step (first | (exact HCX.out _)))
     refine wpQuiet_nil ?_
     refine ⟨rfl,?_⟩
     intro _ hw'
     obtain ⟨g,rfl⟩:=hw'
     go_simp
     refine ⟨rfl,(HDN.out g).mono ?_⟩
     rintro e w' ⟨rfl,hg⟩
     exact ⟨_,rfl,rfl,hg⟩
  have HR:Hid (askRes l=0):=HQ.out.1.trans (by rw [List.drop_of_length_le (by omega)];rfl)
  go_wp2_with fail
  go_end0
  exact ⟨Or.inr ⟨HR.out,rfl⟩,HQ.out.2.2⟩
end Go.Proofs.YtcddpmappmjilaaGreatDoor
namespace Go.Proofs.YtcddpmappmjilaaGreatDoor
open Go.RowKit Go.Maps
set_option maxRecDepth 100000 in
set_option maxHeartbeats 4000000 in
theorem mayStandIn_any (w:World) (B b:Nat) (l:List ClassD) (vC vS vF vN vT vL:Value) (Bm:Nat) (hw:Web B w b l vC vS vF vN vT vL Bm) (n:Nat) (hn:n<l.length) (u:Value) (m:MethD) (hu:ElM B w u m):
 Calls Tryz.prog 163 #[.pointer (some ⟨b,0,none⟩),.int .i64 n,u] w fun r w'=>r=.returned (.bool (standB l n m))/\Below w.heap.size w w':=by
 obtain ⟨ao,ca,ho,ch,rfl,ea,-,es1,-,-⟩:=hu
 have hle:=hw.le
 have hlN:((List.range l.length).map (namesOf l)).length=l.length:=by simp
 have hlT:((List.range l.length).map (targetsOf l)).length=l.length:=by simp
 have c0:=hw.cell0
 have c3:=cell_of hw.blk 3 (x:=vN) rfl
 have c4:=cell_of hw.blk 4 (x:=vT) rfl
 have hbl:=lt_of hw.blk
 have hsC:=hw.sC
 obtain ⟨aC,cC,hvC,-⟩:=hw.sC
 obtain ⟨aN,cN,hvN,-⟩:=hw.sN
 obtain ⟨aT,cT,hvT,-⟩:=hw.sT
 rw [hlN]at hvN
 rw [hlT]at hvT
 subst hvC hvN hvT
 obtain ⟨bN,oN,aL,cL,rfl,hbN,e1,sL⟩:=hw.sN.atSl n (by omega)
 obtain ⟨bT,oT,aU,cU,rfl,hbT,e2,sU⟩:=hw.sT.atSl n (by omega)
 have g1:((List.range l.length).map (namesOf l))[n]'(by omega)=namesOf l n:=by simp
 have g2:((List.range l.length).map (targetsOf l))[n]'(by omega)=targetsOf l n:=by simp
 rw [g1]at e1 sL
 rw [g2]at e2 sU
 clear g1 g2 hlN hlT hw
 have h00:(0:Int)<=n:=by omega
 have h01:(n:Int)<l.length:=by omega
 have HB0:Hid (∀o k,Below w.heap.size w ((w.alloc o).drewN k)):=fun o k=>below_dn ((Below.refl w.heap.size w).alloc (Nat.le_refl _) o) k
 have HI:Hid (∀o k,Calls Tryz.prog 142 #[.slice aL (namesOf l n).length cL,.string m.name] ((w.alloc o).drewN k) fun r w'=>r=.returned (.int .i64 (idxS (namesOf l n) m.name))/\w'=(w.alloc o).drewN k):=fun o k=>indexStr_any _ (· <B) _ _ m.name (sL.keptS (Kp.below ((HB0.out o k).mono hle)))
 have hix:=idxS_lt (namesOf l n) m.name
 have HTL:=mkHid (table_len l n)
 by_cases hneg:idxS (namesOf l n) m.name<0
 ·
  have HR:=mkHid (standB_no hneg)
  have hge: -1<=idxS (namesOf l n) m.name:=by unfold idxS;split<;>omega
  generalize idxS (namesOf l n) m.name=ix at*
  generalize (namesOf l n).length=nl at*
  clear ea sL sU e2 hix HTL
  go_enter Tryz.func163,Tryz.ntmps163
  go_wp2_with fail
  go_quiet (first | (go_at_call 142;exact Calls.quiet_of_same (HI.out _ _)))
  go_wp2_with fail
  go_ret
  exact ⟨by rw [HR.out];rfl,HB0.out _ _⟩
 obtain ⟨k,hk⟩:=Int.eq_ofNat_of_zero_le (by omega:0<=idxS (namesOf l n) m.name)
 have hkt:k<(targetsOf l n).length:=by rw [<-table_len l n];omega
 obtain ⟨c,j,ht,hc,hj⟩:=targets_ok hn _ (List.getElem_mem hkt)
 have HR:=mkHid (standB_at hk hkt ht hj)
 obtain ⟨bt,ot,rfl,hbt,t0,t1⟩:=sU.atT k hkt
 rw [ht]at t0 t1
 obtain ⟨bc,oc,vf,vm,rfl,hbc,-,-,-,d3,-,em,-,-⟩:=hsC.atC c hc
 rw [<-clsAt_eq hc]at em
 have EM:=mkHid em
 obtain ⟨mo,cm,rfl,-⟩:=em
 obtain ⟨by_,oy,va,vh,rfl,hby,y0,y1,y2,y3,y4,y5,y6,y7,y8,sa,sh,-,-,-⟩:=EM.out.atM j hj
 have HSA:=mkHid sa
 obtain ⟨aa2,ca2,rfl,-⟩:=sa
 obtain ⟨ah2,ch2,rfl,-⟩:=sh
 have HEQ:Hid (∀W,Below w.heap.size w W->Calls Tryz.prog 236 #[.slice ao m.args.length ca,.slice aa2 (clsAt l c).meths[j].args.length ca2] W fun r w'=>r=.returned (.bool (eqL sameK m.args (clsAt l c).meths[j].args))/\∃n,w'=W.drewN n):=fun W hW=>equalK_any W (· <B) (· <B) _ _ _ _ (ea.keptK (Kp.below (hW.mono hle))) (HSA.out.keptK (Kp.below (hW.mono hle)))
 have hke:=kindEql m.ret.kind (clsAt l c).meths[j].ret.kind m.ret.cls (clsAt l c).meths[j].ret.cls
 have hkg:=kindGuard
 rw [sameK_eq]at hke
 have hcm:(0:Int)<=j:=by omega
 have hcm1:(j:Int)<(clsAt l c).meths.length:=by omega
 have hc0:(0:Int)<=c:=by omega
 have hc1:(c:Int)<l.length:=by omega
 have hk0:(0:Int)<=k:=by omega
 have hk1:(k:Int)<(targetsOf l n).length:=by omega
 have hkn:¬((k:Int)<0):=by omega
 have hB:=mkHid (show ∀x:Nat,w.heap.size<=w.heap.size+x from fun x=>by omega)
 rw [hk]at HI
 clear sL sU ht ea EM HSA hsC hneg hk hix HTL hkt
 generalize (clsAt l c).meths[j]=y at*
 generalize (clsAt l c).meths.length=ml at*
 generalize (targetsOf l n).length=tl at*
 generalize (namesOf l n).length=nl at*
 generalize eqL sameK m.args y.args=ek at*
 have HKE:Hid (sameK (⟨m.ret.kind,m.ret.cls⟩:KindD) ⟨y.ret.kind,y.ret.cls⟩=sameK m.ret y.ret):=rfl
 rw [HKE.out]at hke
 clear HKE
 generalize sameK m.ret y.ret=er at*
 generalize m.static=sx at*
 generalize y.static=sy at*
 go_enter Tryz.func163,Tryz.ntmps163
 go_wp2_with fail
 go_quiet (first | (go_at_call 142;exact Calls.quiet_of_same (HI.out _ _)))
 go_wp2_with fail
 generalize hW5:((w.alloc (.cells #[.string m.name,.bool sx,.slice ao m.args.length ca,.int .i64 m.ret.kind,.string m.ret.cls,.int .i64 m.stack,.int .i64 m.locals,.string m.code,.slice ho m.hands.length ch] 83)).drewN nq).alloc (.cells #[.int .i64 c,.int .i64 j] 67)=W5
 have hB5:Below w.heap.size w W5:=hW5 ▸ (HB0.out _ _).alloc (by show w.heap.size<=(w.alloc _).heap.size;simp) _
 have hX:W5.heap[w.heap.size]? =some (.cells #[.string m.name,.bool sx,.slice ao m.args.length ca,.int .i64 m.ret.kind,.string m.ret.cls,.int .i64 m.stack,.int .i64 m.locals,.string m.code,.slice ho m.hands.length ch] 83 (0,0)):=by rw [<-hW5];exact (Below.heap_alloc _ _ _ (by show w.heap.size<(w.alloc _).heap.size;simp)).trans (heap_alloc_new w _)
 have hY:W5.heap[w.heap.size+1]? =some (.cells #[.int .i64 c,.int .i64 j] 67 (0,0)):=by
  have:=heap_alloc_new ((w.alloc (.cells #[.string m.name,.bool sx,.slice ao m.args.length ca,.int .i64 m.ret.kind,.string m.ret.cls,.int .i64 m.stack,.int .i64 m.locals,.string m.code,.slice ho m.hands.length ch] 83)).drewN nq) (.cells #[.int .i64 c,.int .i64 j] 67)
  rw [hW5]at this
  have e:((w.alloc (.cells #[.string m.name,.bool sx,.slice ao m.args.length ca,.int .i64 m.ret.kind,.string m.ret.cls,.int .i64 m.stack,.int .i64 m.locals,.string m.code,.slice ho m.hands.length ch] 83)).drewN nq).heap.size=w.heap.size+1:=by show (w.alloc _).heap.size=_;simp
  rwa [e]at this
 clear hW5
 have x1:=cell_of hX 1 (x:=.bool sx) rfl
 have x2:=cell_of hX 2 (x:=.slice ao m.args.length ca) rfl
 have x3:=cell_of hX 3 (x:=.int .i64 m.ret.kind) rfl
 have x4:=cell_of hX 4 (x:=.string m.ret.cls) rfl
 have u0:=cell_of hY 0 (x:=.int .i64 c) rfl
 have u1:=cell_of hY 1 (x:=.int .i64 j) rfl
 have lX:=lt_of hX
 have lY:=lt_of hY
 have q0:=(hB5.cell (p:=⟨b,0,none⟩) hbl).trans c0
 have q3:=(hB5.cell (p:=⟨bc,oc+c*4+3,none⟩) hbc).trans d3
 have z0:=(hB5.cell (p:=⟨by_,oy+j*9,none⟩) hby).trans y0
 have z1:=(hB5.cell (p:=⟨by_,oy+j*9+1,none⟩) hby).trans y1
 have z2:=(hB5.cell (p:=⟨by_,oy+j*9+2,none⟩) hby).trans y2
 have z3:=(hB5.cell (p:=⟨by_,oy+j*9+3,none⟩) hby).trans y3
 have z4:=(hB5.cell (p:=⟨by_,oy+j*9+4,none⟩) hby).trans y4
 have z5:=(hB5.cell (p:=⟨by_,oy+j*9+5,none⟩) hby).trans y5
 have z6:=(hB5.cell (p:=⟨by_,oy+j*9+6,none⟩) hby).trans y6
 have z7:=(hB5.cell (p:=⟨by_,oy+j*9+7,none⟩) hby).trans y7
 have z8:=(hB5.cell (p:=⟨by_,oy+j*9+8,none⟩) hby).trans y8
 have lb:b<W5.heap.size:=Nat.lt_of_lt_of_le hbl hB5.size
 have lc:bc<W5.heap.size:=Nat.lt_of_lt_of_le hbc hB5.size
 have ly:by_<W5.heap.size:=Nat.lt_of_lt_of_le hby hB5.size
 have HB5:=mkHid hB5
 clear hX hY hB5 y0 y1 y2 y3 y4 y5 y6 y7 y8 d3 c0 c3 c4 e1 e2 t0 t1 hbl hbN hbT hbt hbc hby HI HB0 hB
 go_region_held3 (fun W'=>∀p:Addr,p.block<W5.heap.size->W'.cell? p=W5.cell? p) (exact fun p hp=>Below.cell (B:=W5.heap.size) (w:=W5) (by repeat (first | exact Below.refl _ _ | refine Below.drew ?_ | refine Below.alloc ?_ (by simp<;>omega) _ | refine Below.setCell ?_ (by simp) _)) hp) (fail)
 have HB6:Hid (∀o q,Below w.heap.size w ((W5.alloc o).drewN q)):=fun o q=>below_dn (HB5.out.alloc HB5.out.size o) q
 have HE6:Hid (∀o,Calls Tryz.prog 236 #[.slice ao m.args.length ca,.slice aa2 y.args.length ca2] (W5.alloc o).drew fun r w'=>r=.returned (.bool ek)/\∃n,w'=(W5.alloc o).drewN n):=fun o=>(HEQ.out (W5.alloc o).drew (HB6.out o 1)).mono fun _ _ ⟨h,n,e⟩=>⟨h,1+n,by rw [e];simp [World.drewN,World.drew,Nat.add_assoc]⟩
 clear HEQ HB5
 rename_i hS1
 clear hS1
 cases sx with
 | true=>
   go_wp2_with fail
   go_ret
   exact ⟨by rw [HR.out];rfl,HB6.out _ 1⟩
 | false=>
   cases sy with
   | true=>
     go_wp2_with fail
     go_ret
     exact ⟨by rw [HR.out];rfl,HB6.out _ 1⟩
   | false=>
     cases er with
     | false=>
       go_wp2_with fail
       go_ret
       exact ⟨by rw [HR.out];rfl,HB6.out _ 1⟩
     | true=>
       go_wp2_with (go_at_call 236;refine (HE6.out _).mono ?_;rintro r w9 ⟨rfl,n9,rfl⟩)
       go_ret
       exact ⟨by rw [HR.out];simp,HB6.out _ n9⟩
set_option maxRecDepth 100000 in
set_option maxHeartbeats 2000000 in
theorem standIn1_any (w:World) (B b P I:Nat) (l:List ClassD) (vC vS vF vN vT vL:Value) (Bm:Nat) (hw:Web B w b l vC vS vF vN vT vL Bm) (i n:Nat) (hi:i<l.length) (hs:supAt l i=n) (u:Value) (m:MethD) (hu:ElM B w u m)
 (hP:w.cell? ⟨P,0,none⟩=some (.pointer (some ⟨b,0,none⟩))) (hI:w.cell? ⟨I,0,none⟩=some (.int .i64 i)):
 Calls Tryz.prog 162 #[u,.pointer (some ⟨P,0,none⟩),.pointer (some ⟨I,0,none⟩)] w fun r w'=>r=.returned (.bool (standB l n m))/\Below w.heap.size w w':=by
 have hPl:=World.block_lt_of_cell? w _ hP
 have hIl:=World.block_lt_of_cell? w _ hI
 have hn:n<l.length:=by have:=(num_le l (clsAt l i).super).2;have e:supAt l i=num l (clsAt l i).super:=rfl;omega
 have hbl:=lt_of hw.blk
 have c1:=cell_of hw.blk 1 (x:=vS) rfl
 have hlS:((List.range l.length).map (supAt l)).length=l.length:=by simp
 have HM:Hid (∀W,Below w.heap.size w W->Calls Tryz.prog 163 #[.pointer (some ⟨b,0,none⟩),.int .i64 n,u] W fun r w'=>r=.returned (.bool (standB l n m))/\Below W.heap.size W w'):=fun W hW=>mayStandIn_any W B b l vC vS vF vN vT vL Bm (hw.below (hW.mono hw.le)) n hn u m (hu.below (hW.mono hw.le))
 obtain ⟨aS,cS,hvS,-⟩:=hw.sS
 rw [hlS]at hvS
 subst hvS
 obtain ⟨bS,oS,rfl,hbS,e1⟩:=hw.sS.atI i (by omega)
 have g1:((List.range l.length).map (supAt l))[i]'(by omega)=supAt l i:=by simp
 rw [g1,hs]at e1
 obtain ⟨ao,ca,ho,ch,rfl,-⟩:=hu
 have h00:(0:Int)<=i:=by omega
 have h01:(i:Int)<l.length:=by omega
 clear hw hlS g1 hs hn
 generalize hV:standB l n m=rv at*
 clear hV
 go_enter Tryz.func162,Tryz.ntmps162
 go_wp2_with fail
 obtain ⟨W0,hW⟩:∃W0,W0=w.alloc (.cells #[.string m.name,.bool m.static,.slice ao m.args.length ca,.int .i64 m.ret.kind,.string m.ret.cls,.int .i64 m.stack,.int .i64 m.locals,.string m.code,.slice ho m.hands.length ch] 83):=⟨_,rfl⟩
 have hB1:Below w.heap.size w W0:=hW ▸ (Below.refl w.heap.size w).alloc (Nat.le_refl _) _
 have hX:W0.heap[w.heap.size]? =some (.cells #[.string m.name,.bool m.static,.slice ao m.args.length ca,.int .i64 m.ret.kind,.string m.ret.cls,.int .i64 m.stack,.int .i64 m.locals,.string m.code,.slice ho m.hands.length ch] 83 (0,0)):=hW ▸ heap_alloc_new w _
 rw [<-hW]
 clear hW
 have hne:Nonempty (Gr W0.heap.size W0):=⟨⟨W0,Below.refl _ _⟩⟩
 have HCX:Hid (∀g:Gr W0.heap.size W0,Calls Tryz.prog 163 #[.pointer (some ⟨b,0,none⟩),.int .i64 n,.agg #[.string m.name,.bool m.static,.slice ao m.args.length ca,.int .i64 m.ret.kind,.string m.ret.cls,.int .i64 m.stack,.int .i64 m.locals,.string m.code,.slice ho m.hands.length ch]] g.w fun e w''=>e=.returned (.bool rv)/\∃g':Gr W0.heap.size W0,w''=g'.w):=fun g=>Gr.calls g (Nat.le_refl _) (HM.out g.w (hB1.trans (g.ok.mono hB1.size)))
 have HBG:Hid (∀g:Gr W0.heap.size W0,Below w.heap.size w g.w):=fun g=>hB1.trans (g.ok.mono hB1.size)
 have k0:∀g:Gr W0.heap.size W0,g.w.cell? ⟨w.heap.size,0,none⟩=some (.string m.name):=fun g=>(g.ok.cell (p:=⟨w.heap.size,0,none⟩) (lt_of hX)).trans (cell_of hX 0 rfl)
 have k1:∀g:Gr W0.heap.size W0,g.w.cell? ⟨w.heap.size,1,none⟩=some (.bool m.static):=fun g=>(g.ok.cell (p:=⟨w.heap.size,1,none⟩) (lt_of hX)).trans (cell_of hX 1 rfl)
 have k2:∀g:Gr W0.heap.size W0,g.w.cell? ⟨w.heap.size,2,none⟩=some (.slice ao m.args.length ca):=fun g=>(g.ok.cell (p:=⟨w.heap.size,2,none⟩) (lt_of hX)).trans (cell_of hX 2 rfl)
 have k3:∀g:Gr W0.heap.size W0,g.w.cell? ⟨w.heap.size,3,none⟩=some (.int .i64 m.ret.kind):=fun g=>(g.ok.cell (p:=⟨w.heap.size,3,none⟩) (lt_of hX)).trans (cell_of hX 3 rfl)
 have k4:∀g:Gr W0.heap.size W0,g.w.cell? ⟨w.heap.size,4,none⟩=some (.string m.ret.cls):=fun g=>(g.ok.cell (p:=⟨w.heap.size,4,none⟩) (lt_of hX)).trans (cell_of hX 4 rfl)
 have k5:∀g:Gr W0.heap.size W0,g.w.cell? ⟨w.heap.size,5,none⟩=some (.int .i64 m.stack):=fun g=>(g.ok.cell (p:=⟨w.heap.size,5,none⟩) (lt_of hX)).trans (cell_of hX 5 rfl)
 have k6:∀g:Gr W0.heap.size W0,g.w.cell? ⟨w.heap.size,6,none⟩=some (.int .i64 m.locals):=fun g=>(g.ok.cell (p:=⟨w.heap.size,6,none⟩) (lt_of hX)).trans (cell_of hX 6 rfl)
 have k7:∀g:Gr W0.heap.size W0,g.w.cell? ⟨w.heap.size,7,none⟩=some (.string m.code):=fun g=>(g.ok.cell (p:=⟨w.heap.size,7,none⟩) (lt_of hX)).trans (cell_of hX 7 rfl)
 have k8:∀g:Gr W0.heap.size W0,g.w.cell? ⟨w.heap.size,8,none⟩=some (.slice ho m.hands.length ch):=fun g=>(g.ok.cell (p:=⟨w.heap.size,8,none⟩) (lt_of hX)).trans (cell_of hX 8 rfl)
 have kP:∀g:Gr W0.heap.size W0,g.w.cell? ⟨P,0,none⟩=some (.pointer (some ⟨b,0,none⟩)):=fun g=>((HBG.out g).cell (p:=⟨P,0,none⟩) hPl).trans hP
 have kI:∀g:Gr W0.heap.size W0,g.w.cell? ⟨I,0,none⟩=some (.int .i64 i):=fun g=>((HBG.out g).cell (p:=⟨I,0,none⟩) hIl).trans hI
 have kb:∀g:Gr W0.heap.size W0,g.w.cell? ⟨b,1,none⟩=some (.slice (some ⟨bS,oS,none⟩) l.length cS):=fun g=>((HBG.out g).cell (p:=⟨b,1,none⟩) hbl).trans c1
 have kS:∀g:Gr W0.heap.size W0,g.w.cell? ⟨bS,oS+i,none⟩=some (.int .i64 n):=fun g=>((HBG.out g).cell (p:=⟨bS,oS+i,none⟩) hbS).trans e1
 clear HM hX hB1 hP hI c1 e1
 refine wp_region_grow_lit W0.heap.size W0 (by kernel_rfl) (by kernel_rfl) (Below.refl _ _) ?_
 repeat (go_big_quiet_step (first | (exact HCX.out _)))
 refine wpQuiet_nil ?_
 intro _ hw'
 obtain ⟨g,rfl⟩:=hw'
 have HFIN:=mkHid (HBG.out g)
 generalize g.w=w2 at*
 clear k0 k1 k2 k3 k4 k5 k6 k7 k8 kP kI kb kS hne HCX HBG
 go_wp2_with fail
 go_ret
 exact ⟨rfl,HFIN.out⟩
set_option maxRecDepth 100000 in
set_option maxHeartbeats 2000000 in
theorem namesStand_any (w:World) (B b:Nat) (l:List ClassD) (vC vS vF vN vT vL:Value) (Bm:Nat) (hw:Web B w b l vC vS vF vN vT vL Bm) (hsu:askSupers l=true):
 Calls Tryz.prog 97 #[.pointer (some ⟨b,0,none⟩)] w fun r w'=>r=.returned (.bool (askSame l))/\Below w.heap.size w w':=by
 have hmf:∀(fn:Fn) (first cap:Array Value) (w:World),(Instr.makeFunc fn first cap).run Tryz.prog w=.ok (.func fn first cap) w:=fun _ _ _ _=>rfl
 have c0:=hw.cell0
 have hbl:=lt_of hw.blk
 have hle:=hw.le
 have HW:=mkHid hw
 have HV:=mkHid hw.sC
 have HSU:=mkHid hsu
 obtain ⟨ao,cl,rfl,-,hll,-⟩:=hw.sC
 unfold maxLen at hll
 have HB0:=mkHid (fun o=>(Below.refl w.heap.size w).alloc (Nat.le_refl _) o)
 clear hw hsu
 let step:Nat->Bool:=fun i=>decide ((clsAt l i).super=(⟨#[]⟩:ByteArray))||(clsAt l i).meths.all (standB l (supAt l i).toNat)
 have HST:Hid (askSame l=(List.range l.length).all step):=rfl
 go_enter Tryz.func97,Tryz.ntmps97
 go_wp2_with fail
 obtain ⟨W0,hW⟩:∃W0,W0=w.alloc (.cells #[.pointer (some ⟨b,0,none⟩)] 100):=⟨_,rfl⟩
 have HB1:Hid (Below w.heap.size w W0):=hW ▸ HB0.out _
 have hP0:W0.cell? ⟨w.heap.size,0,none⟩=some (.pointer (some ⟨b,0,none⟩)):=by rw [hW];simp [go_sem]
 have hPl:w.heap.size<W0.heap.size:=World.block_lt_of_cell? W0 _ hP0
 rw [<-hW]
 clear hW HB0
 go_loopw [11] (fun i wr=>∃k:Nat,k<=l.length/\i=.int .i64 k/\Hid ((∀j,j<k->step j=true)/\Below W0.heap.size W0 wr)) (fun i _=>l.length - (intOf i).toNat)
 case atStart=>exact ⟨0,Nat.zero_le _,rfl,(fun _ h=>by omega),Below.refl _ _⟩
 case round=>
  obtain ⟨k,hk,rfl,HQ⟩:=hrel
  have hsr:W0.heap.size<=wr.heap.size:=HQ.out.2.size
  have HBw:Hid (Below w.heap.size w wr):=HB1.out.trans (HQ.out.2.mono HB1.out.size)
  by_cases hlt:k<l.length
  ·
   obtain ⟨bc,oc,vf,vm,rfl,hbc,e0,e1,e2,e3,ef,em,es1,es2⟩:=(HV.out.keptC (Kp.below (HBw.out.mono hle))).atC k hlt
   have EM:=mkHid em
   obtain ⟨fo,cf,rfl,-⟩:=ef
   obtain ⟨mo,cm,rfl,-⟩:=em
   have HSP:Hid (step k=(decide (l[k].super=(⟨#[]⟩:ByteArray))||l[k].meths.all (standB l (supAt l k).toNat))):=by show step k=_;simp only [step,clsAt_eq hlt]
   have h00:(0:Int)<=k:=by omega
   have h01:(k:Int)<l.length:=by omega
   have HUP:Hid (step k=true->∀w',Below wr.heap.size wr w'->(∀j,j<k+1->step j=true)/\Below W0.heap.size W0 w'):=fun h w' hb=>⟨fun j hj=>by
    by_cases hjk:j<k
    ·
     exact HQ.out.1 j hjk
    have:j=k:=by omega
    rw [this];exact h,HQ.out.2.trans (hb.mono hsr)⟩
   have HNO:Hid (step k=false->∀w',Below wr.heap.size wr w'->askSame l=false/\Below w.heap.size w w'):=fun h w' hb=>⟨by
    rw [HST.out,List.all_eq_false]
    exact ⟨k,List.mem_range.2 hlt,by simp [h]⟩,HBw.out.trans (hb.mono (Nat.le_trans HB1.out.size hsr))⟩
   have hBr:Hid (∀o o',Below wr.heap.size wr ((wr.alloc o).alloc o')):=fun o o'=>((Below.refl _ _).alloc (Nat.le_refl _) o).alloc (by simp) o'
   have hP0r:wr.cell? ⟨w.heap.size,0,none⟩=some (.pointer (some ⟨b,0,none⟩)):=(HQ.out.2.cell (p:=⟨w.heap.size,0,none⟩) hPl).trans hP0
   by_cases hse:l[k].super=⟨#[]⟩
   ·
    have hse':=nil_tl hse
    have HR:=mkHid (HUP.out (by rw [HSP.out];simp [hse]))
    clear hse HSP HUP HNO es1 es2
    go_wp2_with fail
    go_roundw
    case rel=>exact ⟨k+1,by omega,by go_num,HR.out _ (hBr.out _ _)⟩
    case measure=>simp [intOf];omega
   have hse':l[k].super.toList.isEmpty=false:=by
    cases hq:l[k].super.toList with
    | nil=>exact absurd (tl_nil hq) hse
    | cons _ _=>rfl
   obtain ⟨n,hn⟩:∃n:Nat,supAt l k=n:=by
    have h1:=List.all_eq_true.1 HSU.out l[k] (List.getElem_mem hlt)
    have h2:hasC l l[k].super=true:=by simpa [hse]using h1
    have h3:0<=supAt l k:=by rw [supAt,clsAt_eq hlt];simpa [hasC]using h2
    exact ⟨(supAt l k).toNat,by omega⟩
   have HSP':Hid (step k=l[k].meths.all (standB l n)):=by
    show step k=_
    rw [HSP.out,hn]
    simp [hse]
   have HEV:Hid (∀o o',Calls Tryz.prog 153 #[.slice mo l[k].meths.length cm,.func (.func 162) #[] #[.pointer (some ⟨w.heap.size,0,none⟩),.pointer (some ⟨wr.heap.size,0,none⟩)]] ((wr.alloc (.cells #[.int .i64 k] o)).alloc o') fun r w'=>r=.returned (.bool (l[k].meths.all (standB l n)))/\Below ((wr.alloc (.cells #[.int .i64 k] o)).alloc o').heap.size ((wr.alloc (.cells #[.int .i64 k] o)).alloc o') w'):=fun o o'=>by
    have hb2:=hBr.out (.cells #[.int .i64 k] o) o'
    have hbB:Below B w ((wr.alloc (.cells #[.int .i64 k] o)).alloc o'):=(HBw.out.mono hle).trans (hb2.mono (Nat.le_trans hle HBw.out.size))
    refine everyM_any _ B _ l[k].meths (EM.out.keptM (Kp.below (hb2.mono (Nat.le_trans hle HBw.out.size)))) (Nat.le_trans hle hbB.size) 162 #[] _ (standB l n) (fun args w=>by kernel_rfl) ?_
    intro x _ u W hW hu
    have hIc:((wr.alloc (.cells #[.int .i64 k] o)).alloc o').cell? ⟨wr.heap.size,0,none⟩=some (.int .i64 k):=by
     refine (World.cell?_alloc_past _ _ _ (by simp)).trans ?_
     simp [go_sem]
    exact standIn1_any W B b w.heap.size wr.heap.size l _ vS vF vN vT vL Bm (HW.out.below (hbB.trans (hW.mono (Nat.le_trans hle hbB.size)))) k n hlt hn u x hu
     ((hW.cell (p:=⟨w.heap.size,0,none⟩) (by simp;omega)).trans ((hb2.cell (p:=⟨w.heap.size,0,none⟩) (Nat.lt_of_lt_of_le hPl hsr)).trans hP0r)) ((hW.cell (p:=⟨wr.heap.size,0,none⟩) (by simp;omega)).trans hIc)
   clear hse HSP es1 es2 hn EM
   generalize l[k].meths.all (standB l n)=rv at*
   cases rv with
   | true=>
     have HR:=mkHid (HUP.out HSP'.out)
     go_wp2_with (go_at_call 153;refine (HEV.out _ _).mono ?_;rintro r w9 ⟨rfl,hb9⟩)
     have HR9:=mkHid (HR.out w9 ((hBr.out _ _).trans (hb9.mono (hBr.out _ _).size)))
     clear hb9
     go_wp2_with fail
     go_roundw
     case rel=>exact ⟨k+1,by omega,by go_num,HR9.out⟩
     case measure=>simp [intOf];omega
   | false=>
     have HR:=mkHid (HNO.out HSP'.out)
     go_wp2_with (go_at_call 153;refine (HEV.out _ _).mono ?_;rintro r w9 ⟨rfl,hb9⟩)
     have HR9:=mkHid (HR.out w9 ((hBr.out _ _).trans (hb9.mono (hBr.out _ _).size)))
     clear hb9
     go_wp2_with fail
     go_ret
     exact ⟨by rw [HR9.out.1];rfl,HR9.out.2⟩
  have HR:Hid (askSame l=true):=by
   show askSame l=true
   rw [HST.out,List.all_eq_true]
   exact fun j hj=>HQ.out.1 j (by have:=List.mem_range.1 hj;omega)
  go_wp2_with fail
  go_ret
  exact ⟨by rw [HR.out];rfl,HBw.out⟩
end Go.Proofs.YtcddpmappmjilaaGreatDoor
namespace Go.Proofs.YtcddpmappmjilaaGreatDoor
open Go.RowKit Go.Maps
structure Far (lo hi:Nat) (W W':World):Prop where
 size:W.heap.size<=W'.heap.size
 block:∀k,k<W.heap.size->(k<lo\/hi<=k)->W'.heap[k]? =W.heap[k]?
theorem Far.refl (lo hi:Nat) (W:World):Far lo hi W W:=⟨Nat.le_refl _,fun _ _ _=>rfl⟩
theorem Far.trans {lo hi:Nat} {a b c:World} (h:Far lo hi a b) (k:Far lo hi b c):Far lo hi a c:=⟨Nat.le_trans h.size k.size,fun i hi hl=>(k.block i (Nat.lt_of_lt_of_le hi h.size) hl).trans (h.block i hi hl)⟩
theorem Far.grown {lo hi b:Nat} {W W':World} (h:W.grownBy W' (some b)) (hl:lo<=b) (hh:b<hi):Far lo hi W W':=⟨h.size,fun k hk hf=>h.block k hk (by intro e;injection e;omega)⟩
theorem Far.below {lo hi:Nat} {W W':World} (h:Below W.heap.size W W'):Far lo hi W W':=⟨h.size,fun k hk _=>h.block k hk⟩
set_option maxHeartbeats 1000000 in
theorem made1W_any (w:World) (g:Nat) (cap:Array Value) (Ok:Value->World->Prop) (No:Int->Int->Prop) (Pf Q:Nat) (x:Value) (hcf:∀args w,(callFunc g args).run Tryz.prog w=.ok (.enter g args) w)
 (hpf:w.cell? ⟨Pf,0,none⟩=some (.func (.func g) #[] cap)) (hq:w.cell? ⟨Q,0,none⟩=some x) (hz:w.frozen? ⟨Q,0,none⟩=false)
 (hc:Calls Tryz.prog g cap w fun r W'=>Below w.heap.size w W'/\((∃v,r=.returned v/\(∃p,v=.pointer p)/\Ok v W')\/∃e p,r=.panicked [wrongV e p]/\No e p)):
 Calls Tryz.prog 84 #[.pointer (some ⟨Pf,0,none⟩),.pointer (some ⟨Q,0,none⟩)] w fun r w'=>
  (r=.returned (.tuple #[])/\∃v W',(∃p,v=.pointer p)/\Ok v W'/\w'.cell? ⟨Q,0,none⟩=some v/\w.grownBy w' (some Q)/\W'.grownBy w' (some Q)/\Below w.heap.size w W')\/
  (∃e p,r=.panicked [wrongV e p]/\No e p/\Below w.heap.size w w'):=by
 have hQ:Q<w.heap.size:=World.block_lt_of_cell? w _ hq
 have HC:=mkHid hc
 clear hc
 go_enter Tryz.func84,Tryz.ntmps84
 go_wp2_with fail
 refine HC.out.mono ?_
 rintro r w1 ⟨hb,⟨v,rfl,hT,hok⟩ | ⟨e,p,rfl,hno⟩⟩
 rotate_left
 ·
  exact ⟨rfl,Or.inr ⟨e,p,rfl,hno,hb⟩⟩
 have hq1:w1.cell? ⟨Q,0,none⟩=some x:=(hb.cell (p:=⟨Q,0,none⟩) hQ).trans hq
 have hz1:w1.frozen? ⟨Q,0,none⟩=false:=(hb.frozen (p:=⟨Q,0,none⟩) hQ).trans hz
 have HG0:Hid (w1.grownBy (w1.setCell ⟨Q,0,none⟩ v) (some Q)):=grown_set (World.grownBy.refl _ _) _ _ (Or.inl rfl)
 have HG:Hid (w.grownBy (w1.setCell ⟨Q,0,none⟩ v) (some Q)):=grown_set ⟨hb.os,hb.tape,hb.output,hb.size,fun k hk _=>hb.block k hk⟩ _ _ (by simp)
 have HC1:=mkHid (World.cell?_setCell_same w1 ⟨Q,0,none⟩ v hq1)
 have HOK:=mkHid hok
 have HB:=mkHid hb
 have HT:=mkHid hT
 obtain ⟨vv,rfl⟩:=hT
 clear hok hb hq hz HC
 go_wp2
 go_end0
 exact Or.inl ⟨rfl,_,w1,HT.out,HOK.out,HC1.out,HG.out,HG0.out,HB.out⟩
theorem callMadeW (args:Array Value) (w:World):(callFunc 84 args).run Tryz.prog w=.ok (.enter 84 args) w:=by kernel_rfl
theorem afterMadeW {tf tz:Nat} {z:Value} (w w1:World) (x:Value) (h:((((w.alloc (.cells #[x] tf)).alloc (.cells #[.int .i64 0,.int .i64 0] 50)).alloc (.cells #[z] tz)).alloc (.cells #[.int .i64 0,.int .i64 0] 50)).grownBy w1 (some (w.heap.size+2))):
 w1.heap[w.heap.size+3]? =some (.cells #[.int .i64 0,.int .i64 0] 50 (0,0))/\Below w.heap.size w w1/\w1.cell? ⟨w.heap.size+1,0,none⟩=some (.int .i64 0)/\w1.cell? ⟨w.heap.size+1,1,none⟩=some (.int .i64 0)/\
  (∀j,w1.frozen? ⟨w.heap.size+1,j,none⟩=false)/\w.heap.size+4<=w1.heap.size:=by
 have hB0:Below w.heap.size w ((((w.alloc (.cells #[x] tf)).alloc (.cells #[.int .i64 0,.int .i64 0] 50)).alloc (.cells #[z] tz)).alloc (.cells #[.int .i64 0,.int .i64 0] 50)):=((((Below.refl _ _).alloc (Nat.le_refl _) _).alloc (by simp) _).alloc (by simp;omega) _).alloc (by simp;omega) _
 have hz:((((w.alloc (.cells #[x] tf)).alloc (.cells #[.int .i64 0,.int .i64 0] 50)).alloc (.cells #[z] tz)).alloc (.cells #[.int .i64 0,.int .i64 0] 50)).heap.size=w.heap.size+4:=by simp
 refine ⟨?_,below_of_grown hB0 h (by omega),?_,?_,?_,by rw [<-hz];exact h.size⟩
 ·
  rw [h.block (w.heap.size+3) (by omega) (by simp)]
  show ((((w.heap.push _).push _).push _).push _)[w.heap.size+3]? =_
  rw [Array.getElem?_push,if_pos (by simp)]
 ·
  exact h.cell (a:=⟨w.heap.size+1,0,none⟩) (by simp [go_sem]) (by simp)
 ·
  exact h.cell (a:=⟨w.heap.size+1,1,none⟩) (by simp [go_sem]) (by simp)
 intro j
 rw [World.frozen?_of_block (a:=⟨w.heap.size+1,j,none⟩) (h.block (w.heap.size+1) (by omega) (by simp))]
 simp [go_sem]
set_option maxHeartbeats 2000000 in
theorem madeW_any (w:World) (g:Nat) (cap:Array Value) (Ok:Value->World->Prop) (No:Int->Int->Prop) (hcf:∀args w,(callFunc g args).run Tryz.prog w=.ok (.enter g args) w)
 (hc:∀W,Below w.heap.size w W->W.heap.size=w.heap.size+4->Calls Tryz.prog g cap W fun r W'=>Below W.heap.size W W'/\((∃v,r=.returned v/\(∃p,v=.pointer p)/\Ok v W')\/∃e p,r=.panicked [wrongV e p]/\No e p))
 (hst:∀v W W',w.heap.size+4<=W.heap.size->Far w.heap.size (w.heap.size+4) W W'->Ok v W->Ok v W'):
 Calls Tryz.prog 59 #[.func (.func g) #[] cap] w fun r w'=>Below w.heap.size w w'/\w.heap.size+4<=w'.heap.size/\
  ((∃v,r=.returned (.tuple #[v,.agg #[.int .i64 0,.int .i64 0]])/\(∃p,v=.pointer p)/\Ok v w')\/
   (∃e p,r=.returned (.tuple #[.pointer none,.agg #[.int .i64 e,.int .i64 p]])/\No e p)):=by
 have hmf:∀(fn:Fn) (first cap:Array Value) (w:World),(Instr.makeFunc fn first cap).run Tryz.prog w=.ok (.func fn first cap) w:=fun _ _ _ _=>rfl
 have hB0:Below w.heap.size w (((w.alloc (.cells #[.func (.func g) #[] cap] 148)).alloc (.cells #[.int .i64 0,.int .i64 0] 50)).alloc (.cells #[.pointer none] 100)):=(((Below.refl _ _).alloc (Nat.le_refl _) _).alloc (by simp) _).alloc (by simp;omega) _
 have hB1:=hB0.alloc hB0.size (.cells #[.int .i64 0,.int .i64 0] 50)
 have HC:=mkHid hc
 have HST:=mkHid hst
 have HCF:=mkHid hcf
 clear hc hst hcf
 go_enter Tryz.func59,Tryz.ntmps59
 go_wp2_with fail
 refine (caught_any 84 _ _ (fun w1=>∃v,(∃p,v=.pointer p)/\w1.cell? ⟨w.heap.size+2,0,none⟩=some v/\Ok v w1/\Below w.heap.size w w1/\
  (∃x y,w1.cell? ⟨w.heap.size+1,0,none⟩=some x/\w1.cell? ⟨w.heap.size+1,1,none⟩=some y)/\(∀j,w1.frozen? ⟨w.heap.size+1,j,none⟩=false)/\w.heap.size+4<=w1.heap.size)
  (fun e p w1=>No e p/\w1.cell? ⟨w.heap.size+2,0,none⟩=some (.pointer none)/\Below w.heap.size w w1/\
  (∃x y,w1.cell? ⟨w.heap.size+1,0,none⟩=some x/\w1.cell? ⟨w.heap.size+1,1,none⟩=some y)/\(∀j,w1.frozen? ⟨w.heap.size+1,j,none⟩=false)/\w.heap.size+4<=w1.heap.size) (callMadeW _) ?hc).mono ?_
 case hc=>
  refine (made1W_any _ g cap Ok No w.heap.size (w.heap.size+2) (.pointer none) HCF.out (by simp [go_sem]) (by simp [go_sem]) (by simp [go_sem]) (HC.out _ hB1 (by simp))).mono ?_
  rintro r w1 (⟨rfl,v,W',hT,hok,hc,hg,hg0,hbw⟩ | ⟨e,p,rfl,hd,hb⟩)
  ·
   obtain ⟨a1,a2,a3,a4,a5,a6⟩:=afterMadeW w w1 _ hg
   refine ⟨by simpa using a1,Or.inl ⟨rfl,v,hT,hc,?_,a2,⟨.int .i64 0,.int .i64 0,a3,a4⟩,a5,a6⟩⟩
   exact HST.out v W' w1 (by have:=hbw.size;simp at this;omega) (Far.grown hg0 (by omega) (by omega)) hok
  have hg2:World.grownBy _ w1 (some (w.heap.size+2)):=⟨hb.os,hb.tape,hb.output,hb.size,fun k hk _=>hb.block k hk⟩
  obtain ⟨a1,a2,a3,a4,a5,a6⟩:=afterMadeW w w1 _ hg2
  refine ⟨by simpa using a1,Or.inr ⟨e,p,rfl,hd,?_,a2,⟨.int .i64 0,.int .i64 0,a3,a4⟩,a5,a6⟩⟩
  exact (hb.cell (p:=⟨w.heap.size+2,0,none⟩) (by simp)).trans (by simp [go_sem])
 rintro r w2 ⟨w1,hg,hr⟩
 have hz:(((w.alloc (.cells #[.func (.func g) #[] cap] 148)).alloc (.cells #[.int .i64 0,.int .i64 0] 50)).alloc (.cells #[.pointer none] 100)).heap.size=w.heap.size+3:=by simp
 rw [hz]at hg
 clear hB0 hB1 hz HC HCF
 rcases hr with ⟨rfl,v,hT,hc,hok,hB,⟨x,y,hx,hy⟩,hfz,hsz⟩ | ⟨e,p,rfl,hd,hc,hB,⟨x,y,hx,hy⟩,hfz,hsz⟩
 ·
  have c4:w2.cell? ⟨w.heap.size+1+1,0,none⟩=some v:=hg.cell hc (by simp)
  have c30:w2.cell? ⟨w.heap.size+1,0,none⟩=some x:=hg.cell hx (by simp)
  have c31:w2.cell? ⟨w.heap.size+1,1,none⟩=some y:=hg.cell hy (by simp)
  have z3:∀j,w2.frozen? ⟨w.heap.size+1,j,none⟩=false:=fun j=>(World.frozen?_of_block (a:=⟨w.heap.size+1,j,none⟩) (hg.block (w.heap.size+1) (by omega) (by simp))).trans (hfz j)
  have hsz2:w.heap.size+4<=w2.heap.size:=Nat.le_trans hsz hg.size
  have hlt1:w.heap.size+1<w2.heap.size:=by omega
  have hlt2:w.heap.size+1+1<w2.heap.size:=by omega
  have HT:=mkHid hT
  have hB2:Below w.heap.size w w2:=below_of_grown hB hg (by omega)
  have HO2:=mkHid (HST.out v w1 w2 hsz (Far.grown hg (by omega) (by omega)) hok)
  obtain ⟨vv,rfl⟩:=hT
  clear hok hc hx hy hfz hg hB
  go_wp2_with fail
  go_region
  all_goals
   go_wp2
   obtain ⟨hg,q0,q1⟩:=fault_world w2 (w.heap.size+1) 0 0 (.cells #[.int .i64 0,.int .i64 0] 50) c30 c31
   have hB3:=below_of_grown hB2 hg (by omega)
   have HO3:=mkHid (HST.out _ w2 _ hsz2 (Far.grown hg (by omega) (by omega)) HO2.out)
   have hz3:=Nat.le_trans hsz2 hg.size
   generalize ((w2.setCell ⟨w.heap.size+1,0,none⟩ (.int .i64 0)).setCell ⟨w.heap.size+1,1,none⟩ (.int .i64 0)).alloc (.cells #[.int .i64 0,.int .i64 0] 50)=W9 at*
   exact bodyPost_ret (v:=.tuple #[_,.agg #[.int .i64 0,.int .i64 0]]) (by simp [results,Tryz.results59,go_sem,q0,q1]) rfl ⟨hB3.drew,hz3,Or.inl ⟨_,rfl,HT.out,HST.out _ W9 _ hz3 ⟨Nat.le_refl _,fun _ _ _=>rfl⟩ HO3.out⟩⟩
 have c4:w2.cell? ⟨w.heap.size+1+1,0,none⟩=some (.pointer none):=hg.cell hc (by simp)
 have c30:w2.cell? ⟨w.heap.size+1,0,none⟩=some x:=hg.cell hx (by simp)
 have c31:w2.cell? ⟨w.heap.size+1,1,none⟩=some y:=hg.cell hy (by simp)
 have z3:∀j,w2.frozen? ⟨w.heap.size+1,j,none⟩=false:=fun j=>(World.frozen?_of_block (a:=⟨w.heap.size+1,j,none⟩) (hg.block (w.heap.size+1) (by omega) (by simp))).trans (hfz j)
 have hsz2:w.heap.size+4<=w2.heap.size:=Nat.le_trans hsz hg.size
 have hlt1:w.heap.size+1<w2.heap.size:=by omega
 have hlt2:w.heap.size+1+1<w2.heap.size:=by omega
 have HD:=mkHid hd
 have hB2:Below w.heap.size w w2:=below_of_grown hB hg (by omega)
 clear hd hc hx hy hfz hg hB HST
 go_wp2_with fail
 go_region
 all_goals
  go_wp2
  obtain ⟨hg,q0,q1⟩:=fault_world w2 (w.heap.size+1) e p (.cells #[.int .i64 e,.int .i64 p] 50) c30 c31
  have hB3:=below_of_grown hB2 hg (by omega)
  have hz3:=Nat.le_trans hsz2 hg.size
  generalize ((w2.setCell ⟨w.heap.size+1,0,none⟩ (.int .i64 e)).setCell ⟨w.heap.size+1,1,none⟩ (.int .i64 p)).alloc (.cells #[.int .i64 e,.int .i64 p] 50)=W9 at*
  exact bodyPost_ret (v:=.tuple #[.pointer none,.agg #[.int .i64 e,.int .i64 p]]) (by simp [results,Tryz.results59,go_sem,q0,q1]) rfl ⟨hB3.drew,hz3,Or.inr ⟨_,_,rfl,HD.out⟩⟩
set_option maxHeartbeats 1000000 in
theorem made1I_any (w:World) (g:Nat) (cap:Array Value) (Ok:Value->World->Prop) (No:Int->Int->Prop) (Pf Q:Nat) (x:Value) (hcf:∀args w,(callFunc g args).run Tryz.prog w=.ok (.enter g args) w)
 (hpf:w.cell? ⟨Pf,0,none⟩=some (.func (.func g) #[] cap)) (hq:w.cell? ⟨Q,0,none⟩=some x) (hz:w.frozen? ⟨Q,0,none⟩=false)
 (hc:Calls Tryz.prog g cap w fun r W'=>Below w.heap.size w W'/\((∃v,r=.returned v/\(∃n,v=.int .i64 n)/\Ok v W')\/∃e p,r=.panicked [wrongV e p]/\No e p)):
 Calls Tryz.prog 109 #[.pointer (some ⟨Pf,0,none⟩),.pointer (some ⟨Q,0,none⟩)] w fun r w'=>
  (r=.returned (.tuple #[])/\∃v W',(∃n,v=.int .i64 n)/\Ok v W'/\w'.cell? ⟨Q,0,none⟩=some v/\w.grownBy w' (some Q)/\W'.grownBy w' (some Q)/\Below w.heap.size w W')\/
  (∃e p,r=.panicked [wrongV e p]/\No e p/\Below w.heap.size w w'):=by
 have hQ:Q<w.heap.size:=World.block_lt_of_cell? w _ hq
 have HC:=mkHid hc
 clear hc
 go_enter Tryz.func109,Tryz.ntmps109
 go_wp2_with fail
 refine HC.out.mono ?_
 rintro r w1 ⟨hb,⟨v,rfl,hT,hok⟩ | ⟨e,p,rfl,hno⟩⟩
 rotate_left
 ·
  exact ⟨rfl,Or.inr ⟨e,p,rfl,hno,hb⟩⟩
 have hq1:w1.cell? ⟨Q,0,none⟩=some x:=(hb.cell (p:=⟨Q,0,none⟩) hQ).trans hq
 have hz1:w1.frozen? ⟨Q,0,none⟩=false:=(hb.frozen (p:=⟨Q,0,none⟩) hQ).trans hz
 have HG0:Hid (w1.grownBy (w1.setCell ⟨Q,0,none⟩ v) (some Q)):=grown_set (World.grownBy.refl _ _) _ _ (Or.inl rfl)
 have HG:Hid (w.grownBy (w1.setCell ⟨Q,0,none⟩ v) (some Q)):=grown_set ⟨hb.os,hb.tape,hb.output,hb.size,fun k hk _=>hb.block k hk⟩ _ _ (by simp)
 have HC1:=mkHid (World.cell?_setCell_same w1 ⟨Q,0,none⟩ v hq1)
 have HOK:=mkHid hok
 have HB:=mkHid hb
 have HT:=mkHid hT
 obtain ⟨vv,rfl⟩:=hT
 clear hok hb hq hz HC
 go_wp2
 go_end0
 exact Or.inl ⟨rfl,_,w1,HT.out,HOK.out,HC1.out,HG.out,HG0.out,HB.out⟩
theorem callMadeI (args:Array Value) (w:World):(callFunc 109 args).run Tryz.prog w=.ok (.enter 109 args) w:=by kernel_rfl
set_option maxHeartbeats 2000000 in
theorem madeI_any (w:World) (g:Nat) (cap:Array Value) (Ok:Value->World->Prop) (No:Int->Int->Prop) (hcf:∀args w,(callFunc g args).run Tryz.prog w=.ok (.enter g args) w)
 (hc:∀W,Below w.heap.size w W->W.heap.size=w.heap.size+4->Calls Tryz.prog g cap W fun r W'=>Below W.heap.size W W'/\((∃v,r=.returned v/\(∃n,v=.int .i64 n)/\Ok v W')\/∃e p,r=.panicked [wrongV e p]/\No e p))
 (hst:∀v W W',w.heap.size+4<=W.heap.size->Far w.heap.size (w.heap.size+4) W W'->Ok v W->Ok v W'):
 Calls Tryz.prog 68 #[.func (.func g) #[] cap] w fun r w'=>Below w.heap.size w w'/\w.heap.size+4<=w'.heap.size/\
  ((∃v,r=.returned (.tuple #[v,.agg #[.int .i64 0,.int .i64 0]])/\(∃n,v=.int .i64 n)/\Ok v w')\/
   (∃e p,r=.returned (.tuple #[.int .i64 0,.agg #[.int .i64 e,.int .i64 p]])/\No e p)):=by
 have hmf:∀(fn:Fn) (first cap:Array Value) (w:World),(Instr.makeFunc fn first cap).run Tryz.prog w=.ok (.func fn first cap) w:=fun _ _ _ _=>rfl
 have hB0:Below w.heap.size w (((w.alloc (.cells #[.func (.func g) #[] cap] 136)).alloc (.cells #[.int .i64 0,.int .i64 0] 50)).alloc (.cells #[.int .i64 0] 3)):=(((Below.refl _ _).alloc (Nat.le_refl _) _).alloc (by simp) _).alloc (by simp;omega) _
 have hB1:=hB0.alloc hB0.size (.cells #[.int .i64 0,.int .i64 0] 50)
 have HC:=mkHid hc
 have HST:=mkHid hst
 have HCF:=mkHid hcf
 clear hc hst hcf
 go_enter Tryz.func68,Tryz.ntmps68
 go_wp2_with fail
 refine (caught_any 109 _ _ (fun w1=>∃v,(∃n,v=.int .i64 n)/\w1.cell? ⟨w.heap.size+2,0,none⟩=some v/\Ok v w1/\Below w.heap.size w w1/\
  (∃x y,w1.cell? ⟨w.heap.size+1,0,none⟩=some x/\w1.cell? ⟨w.heap.size+1,1,none⟩=some y)/\(∀j,w1.frozen? ⟨w.heap.size+1,j,none⟩=false)/\w.heap.size+4<=w1.heap.size)
  (fun e p w1=>No e p/\w1.cell? ⟨w.heap.size+2,0,none⟩=some (.int .i64 0)/\Below w.heap.size w w1/\
  (∃x y,w1.cell? ⟨w.heap.size+1,0,none⟩=some x/\w1.cell? ⟨w.heap.size+1,1,none⟩=some y)/\(∀j,w1.frozen? ⟨w.heap.size+1,j,none⟩=false)/\w.heap.size+4<=w1.heap.size) (callMadeI _) ?hc).mono ?_
 case hc=>
  refine (made1I_any _ g cap Ok No w.heap.size (w.heap.size+2) (.int .i64 0) HCF.out (by simp [go_sem]) (by simp [go_sem]) (by simp [go_sem]) (HC.out _ hB1 (by simp))).mono ?_
  rintro r w1 (⟨rfl,v,W',hT,hok,hc,hg,hg0,hbw⟩ | ⟨e,p,rfl,hd,hb⟩)
  ·
   obtain ⟨a1,a2,a3,a4,a5,a6⟩:=afterMadeW w w1 _ hg
   refine ⟨by simpa using a1,Or.inl ⟨rfl,v,hT,hc,?_,a2,⟨.int .i64 0,.int .i64 0,a3,a4⟩,a5,a6⟩⟩
   exact HST.out v W' w1 (by have:=hbw.size;simp at this;omega) (Far.grown hg0 (by omega) (by omega)) hok
  have hg2:World.grownBy _ w1 (some (w.heap.size+2)):=⟨hb.os,hb.tape,hb.output,hb.size,fun k hk _=>hb.block k hk⟩
  obtain ⟨a1,a2,a3,a4,a5,a6⟩:=afterMadeW w w1 _ hg2
  refine ⟨by simpa using a1,Or.inr ⟨e,p,rfl,hd,?_,a2,⟨.int .i64 0,.int .i64 0,a3,a4⟩,a5,a6⟩⟩
  exact (hb.cell (p:=⟨w.heap.size+2,0,none⟩) (by simp)).trans (by simp [go_sem])
 rintro r w2 ⟨w1,hg,hr⟩
 have hz:(((w.alloc (.cells #[.func (.func g) #[] cap] 136)).alloc (.cells #[.int .i64 0,.int .i64 0] 50)).alloc (.cells #[.int .i64 0] 3)).heap.size=w.heap.size+3:=by simp
 rw [hz]at hg
 clear hB0 hB1 hz HC HCF
 rcases hr with ⟨rfl,v,hT,hc,hok,hB,⟨x,y,hx,hy⟩,hfz,hsz⟩ | ⟨e,p,rfl,hd,hc,hB,⟨x,y,hx,hy⟩,hfz,hsz⟩
 ·
  have c4:w2.cell? ⟨w.heap.size+1+1,0,none⟩=some v:=hg.cell hc (by simp)
  have c30:w2.cell? ⟨w.heap.size+1,0,none⟩=some x:=hg.cell hx (by simp)
  have c31:w2.cell? ⟨w.heap.size+1,1,none⟩=some y:=hg.cell hy (by simp)
  have z3:∀j,w2.frozen? ⟨w.heap.size+1,j,none⟩=false:=fun j=>(World.frozen?_of_block (a:=⟨w.heap.size+1,j,none⟩) (hg.block (w.heap.size+1) (by omega) (by simp))).trans (hfz j)
  have hsz2:w.heap.size+4<=w2.heap.size:=Nat.le_trans hsz hg.size
  have hlt1:w.heap.size+1<w2.heap.size:=by omega
  have hlt2:w.heap.size+1+1<w2.heap.size:=by omega
  have HT:=mkHid hT
  have hB2:Below w.heap.size w w2:=below_of_grown hB hg (by omega)
  have HO2:=mkHid (HST.out v w1 w2 hsz (Far.grown hg (by omega) (by omega)) hok)
  obtain ⟨vv,rfl⟩:=hT
  clear hok hc hx hy hfz hg hB
  go_wp2_with fail
  go_region
  all_goals
   go_wp2
   obtain ⟨hg,q0,q1⟩:=fault_world w2 (w.heap.size+1) 0 0 (.cells #[.int .i64 0,.int .i64 0] 50) c30 c31
   have hB3:=below_of_grown hB2 hg (by omega)
   have HO3:=mkHid (HST.out _ w2 _ hsz2 (Far.grown hg (by omega) (by omega)) HO2.out)
   have hz3:=Nat.le_trans hsz2 hg.size
   generalize ((w2.setCell ⟨w.heap.size+1,0,none⟩ (.int .i64 0)).setCell ⟨w.heap.size+1,1,none⟩ (.int .i64 0)).alloc (.cells #[.int .i64 0,.int .i64 0] 50)=W9 at*
   exact bodyPost_ret (v:=.tuple #[_,.agg #[.int .i64 0,.int .i64 0]]) (by simp [results,Tryz.results68,go_sem,q0,q1]) rfl ⟨hB3.drew,hz3,Or.inl ⟨_,rfl,HT.out,HST.out _ W9 _ hz3 ⟨Nat.le_refl _,fun _ _ _=>rfl⟩ HO3.out⟩⟩
 have c4:w2.cell? ⟨w.heap.size+1+1,0,none⟩=some (.int .i64 0):=hg.cell hc (by simp)
 have c30:w2.cell? ⟨w.heap.size+1,0,none⟩=some x:=hg.cell hx (by simp)
 have c31:w2.cell? ⟨w.heap.size+1,1,none⟩=some y:=hg.cell hy (by simp)
 have z3:∀j,w2.frozen? ⟨w.heap.size+1,j,none⟩=false:=fun j=>(World.frozen?_of_block (a:=⟨w.heap.size+1,j,none⟩) (hg.block (w.heap.size+1) (by omega) (by simp))).trans (hfz j)
 have hsz2:w.heap.size+4<=w2.heap.size:=Nat.le_trans hsz hg.size
 have hlt1:w.heap.size+1<w2.heap.size:=by omega
 have hlt2:w.heap.size+1+1<w2.heap.size:=by omega
 have HD:=mkHid hd
 have hB2:Below w.heap.size w w2:=below_of_grown hB hg (by omega)
 clear hd hc hx hy hfz hg hB HST
 go_wp2_with fail
 go_region
 all_goals
  go_wp2
  obtain ⟨hg,q0,q1⟩:=fault_world w2 (w.heap.size+1) e p (.cells #[.int .i64 e,.int .i64 p] 50) c30 c31
  have hB3:=below_of_grown hB2 hg (by omega)
  have hz3:=Nat.le_trans hsz2 hg.size
  generalize ((w2.setCell ⟨w.heap.size+1,0,none⟩ (.int .i64 e)).setCell ⟨w.heap.size+1,1,none⟩ (.int .i64 p)).alloc (.cells #[.int .i64 e,.int .i64 p] 50)=W9 at*
  exact bodyPost_ret (v:=.tuple #[.int .i64 0,.agg #[.int .i64 e,.int .i64 p]]) (by simp [results,Tryz.results68,go_sem,q0,q1]) rfl ⟨hB3.drew,hz3,Or.inr ⟨_,_,rfl,HD.out⟩⟩
end Go.Proofs.YtcddpmappmjilaaGreatDoor
namespace Go.Proofs.YtcddpmappmjilaaGreatDoor
open Go.RowKit Go.Maps
set_option maxHeartbeats 1000000 in
theorem made1St_any (w:World) (g:Nat) (cap:Array Value) (Ok:Value->World->Prop) (No:Int->Int->Prop) (Pf Q:Nat) (x:Value) (hcf:∀args w,(callFunc g args).run Tryz.prog w=.ok (.enter g args) w)
 (hpf:w.cell? ⟨Pf,0,none⟩=some (.func (.func g) #[] cap)) (hq:w.cell? ⟨Q,0,none⟩=some x) (hz:w.frozen? ⟨Q,0,none⟩=false)
 (hc:Calls Tryz.prog g cap w fun r W'=>Below w.heap.size w W'/\((∃v,r=.returned v/\(∃z:Option Addr×Nat×Nat,v=.slice z.1 z.2.1 z.2.2)/\Ok v W')\/∃e p,r=.panicked [wrongV e p]/\No e p)):
 Calls Tryz.prog 167 #[.pointer (some ⟨Pf,0,none⟩),.pointer (some ⟨Q,0,none⟩)] w fun r w'=>
  (r=.returned (.tuple #[])/\∃v W',(∃z:Option Addr×Nat×Nat,v=.slice z.1 z.2.1 z.2.2)/\Ok v W'/\w'.cell? ⟨Q,0,none⟩=some v/\w.grownBy w' (some Q)/\W'.grownBy w' (some Q)/\Below w.heap.size w W')\/
  (∃e p,r=.panicked [wrongV e p]/\No e p/\Below w.heap.size w w'):=by
 have hQ:Q<w.heap.size:=World.block_lt_of_cell? w _ hq
 have HC:=mkHid hc
 clear hc
 go_enter Tryz.func167,Tryz.ntmps167
 go_wp2_with fail
 refine HC.out.mono ?_
 rintro r w1 ⟨hb,⟨v,rfl,hT,hok⟩ | ⟨e,p,rfl,hno⟩⟩
 rotate_left
 ·
  exact ⟨rfl,Or.inr ⟨e,p,rfl,hno,hb⟩⟩
 have hq1:w1.cell? ⟨Q,0,none⟩=some x:=(hb.cell (p:=⟨Q,0,none⟩) hQ).trans hq
 have hz1:w1.frozen? ⟨Q,0,none⟩=false:=(hb.frozen (p:=⟨Q,0,none⟩) hQ).trans hz
 have HG0:Hid (w1.grownBy (w1.setCell ⟨Q,0,none⟩ v) (some Q)):=grown_set (World.grownBy.refl _ _) _ _ (Or.inl rfl)
 have HG:Hid (w.grownBy (w1.setCell ⟨Q,0,none⟩ v) (some Q)):=grown_set ⟨hb.os,hb.tape,hb.output,hb.size,fun k hk _=>hb.block k hk⟩ _ _ (by simp)
 have HC1:=mkHid (World.cell?_setCell_same w1 ⟨Q,0,none⟩ v hq1)
 have HOK:=mkHid hok
 have HB:=mkHid hb
 have HT:=mkHid hT
 obtain ⟨⟨za,zn,zc⟩,rfl⟩:=hT
 clear hok hb hq hz HC
 go_wp2
 go_end0
 exact Or.inl ⟨rfl,_,w1,HT.out,HOK.out,HC1.out,HG.out,HG0.out,HB.out⟩
theorem callMadeSt (args:Array Value) (w:World):(callFunc 167 args).run Tryz.prog w=.ok (.enter 167 args) w:=by kernel_rfl
theorem afterMadeSt (w w1:World) (x:Value) (h:((((w.alloc (.cells #[x] 184)).alloc (.cells #[.int .i64 0,.int .i64 0] 50)).alloc (.cells #[.slice none 0 0] 115)).alloc (.cells #[.int .i64 0,.int .i64 0] 50)).grownBy w1 (some (w.heap.size+2))):
 w1.heap[w.heap.size+3]? =some (.cells #[.int .i64 0,.int .i64 0] 50 (0,0))/\Below w.heap.size w w1/\w1.cell? ⟨w.heap.size+1,0,none⟩=some (.int .i64 0)/\w1.cell? ⟨w.heap.size+1,1,none⟩=some (.int .i64 0)/\
  (∀j,w1.frozen? ⟨w.heap.size+1,j,none⟩=false)/\w.heap.size+4<=w1.heap.size:=by
 have hB0:Below w.heap.size w ((((w.alloc (.cells #[x] 184)).alloc (.cells #[.int .i64 0,.int .i64 0] 50)).alloc (.cells #[.slice none 0 0] 115)).alloc (.cells #[.int .i64 0,.int .i64 0] 50)):=((((Below.refl _ _).alloc (Nat.le_refl _) _).alloc (by simp) _).alloc (by simp;omega) _).alloc (by simp;omega) _
 have hz:((((w.alloc (.cells #[x] 184)).alloc (.cells #[.int .i64 0,.int .i64 0] 50)).alloc (.cells #[.slice none 0 0] 115)).alloc (.cells #[.int .i64 0,.int .i64 0] 50)).heap.size=w.heap.size+4:=by simp
 refine ⟨?_,below_of_grown hB0 h (by omega),?_,?_,?_,by rw [<-hz];exact h.size⟩
 ·
  rw [h.block (w.heap.size+3) (by omega) (by simp)]
  show ((((w.heap.push _).push _).push _).push _)[w.heap.size+3]? =_
  rw [Array.getElem?_push,if_pos (by simp)]
 ·
  exact h.cell (a:=⟨w.heap.size+1,0,none⟩) (by simp [go_sem]) (by simp)
 ·
  exact h.cell (a:=⟨w.heap.size+1,1,none⟩) (by simp [go_sem]) (by simp)
 intro j
 rw [World.frozen?_of_block (a:=⟨w.heap.size+1,j,none⟩) (h.block (w.heap.size+1) (by omega) (by simp))]
 simp [go_sem]
set_option maxHeartbeats 2000000 in
theorem madeSt_any (w:World) (g:Nat) (cap:Array Value) (Ok:Value->World->Prop) (No:Int->Int->Prop) (hcf:∀args w,(callFunc g args).run Tryz.prog w=.ok (.enter g args) w)
 (hc:∀W,Below w.heap.size w W->W.heap.size=w.heap.size+4->Calls Tryz.prog g cap W fun r W'=>Below W.heap.size W W'/\((∃v,r=.returned v/\(∃z:Option Addr×Nat×Nat,v=.slice z.1 z.2.1 z.2.2)/\Ok v W')\/∃e p,r=.panicked [wrongV e p]/\No e p))
 (hst:∀v W W',w.heap.size+4<=W.heap.size->Far w.heap.size (w.heap.size+4) W W'->Ok v W->Ok v W'):
 Calls Tryz.prog 102 #[.func (.func g) #[] cap] w fun r w'=>Below w.heap.size w w'/\w.heap.size+4<=w'.heap.size/\
  ((∃v,r=.returned (.tuple #[v,.agg #[.int .i64 0,.int .i64 0]])/\(∃z:Option Addr×Nat×Nat,v=.slice z.1 z.2.1 z.2.2)/\Ok v w')\/
   (∃e p,r=.returned (.tuple #[.slice none 0 0,.agg #[.int .i64 e,.int .i64 p]])/\No e p)):=by
 have hmf:∀(fn:Fn) (first cap:Array Value) (w:World),(Instr.makeFunc fn first cap).run Tryz.prog w=.ok (.func fn first cap) w:=fun _ _ _ _=>rfl
 have hB0:Below w.heap.size w (((w.alloc (.cells #[.func (.func g) #[] cap] 184)).alloc (.cells #[.int .i64 0,.int .i64 0] 50)).alloc (.cells #[.slice none 0 0] 115)):=(((Below.refl _ _).alloc (Nat.le_refl _) _).alloc (by simp) _).alloc (by simp;omega) _
 have hB1:=hB0.alloc hB0.size (.cells #[.int .i64 0,.int .i64 0] 50)
 have HC:=mkHid hc
 have HST:=mkHid hst
 have HCF:=mkHid hcf
 clear hc hst hcf
 go_enter Tryz.func102,Tryz.ntmps102
 go_wp2_with fail
 refine (caught_any 167 _ _ (fun w1=>∃v,(∃z:Option Addr×Nat×Nat,v=.slice z.1 z.2.1 z.2.2)/\w1.cell? ⟨w.heap.size+2,0,none⟩=some v/\Ok v w1/\Below w.heap.size w w1/\
  (∃x y,w1.cell? ⟨w.heap.size+1,0,none⟩=some x/\w1.cell? ⟨w.heap.size+1,1,none⟩=some y)/\(∀j,w1.frozen? ⟨w.heap.size+1,j,none⟩=false)/\w.heap.size+4<=w1.heap.size)
  (fun e p w1=>No e p/\w1.cell? ⟨w.heap.size+2,0,none⟩=some (.slice none 0 0)/\Below w.heap.size w w1/\
  (∃x y,w1.cell? ⟨w.heap.size+1,0,none⟩=some x/\w1.cell? ⟨w.heap.size+1,1,none⟩=some y)/\(∀j,w1.frozen? ⟨w.heap.size+1,j,none⟩=false)/\w.heap.size+4<=w1.heap.size) (callMadeSt _) ?hc).mono ?_
 case hc=>
  refine (made1St_any _ g cap Ok No w.heap.size (w.heap.size+2) (.slice none 0 0) HCF.out (by simp [go_sem]) (by simp [go_sem]) (by simp [go_sem]) (HC.out _ hB1 (by simp))).mono ?_
  rintro r w1 (⟨rfl,v,W',hT,hok,hc,hg,hg0,hbw⟩ | ⟨e,p,rfl,hd,hb⟩)
  ·
   obtain ⟨a1,a2,a3,a4,a5,a6⟩:=afterMadeSt w w1 _ hg
   refine ⟨by simpa using a1,Or.inl ⟨rfl,v,hT,hc,?_,a2,⟨.int .i64 0,.int .i64 0,a3,a4⟩,a5,a6⟩⟩
   exact HST.out v W' w1 (by have:=hbw.size;simp at this;omega) (Far.grown hg0 (by omega) (by omega)) hok
  have hg2:World.grownBy _ w1 (some (w.heap.size+2)):=⟨hb.os,hb.tape,hb.output,hb.size,fun k hk _=>hb.block k hk⟩
  obtain ⟨a1,a2,a3,a4,a5,a6⟩:=afterMadeSt w w1 _ hg2
  refine ⟨by simpa using a1,Or.inr ⟨e,p,rfl,hd,?_,a2,⟨.int .i64 0,.int .i64 0,a3,a4⟩,a5,a6⟩⟩
  exact (hb.cell (p:=⟨w.heap.size+2,0,none⟩) (by simp)).trans (by simp [go_sem])
 rintro r w2 ⟨w1,hg,hr⟩
 have hz:(((w.alloc (.cells #[.func (.func g) #[] cap] 184)).alloc (.cells #[.int .i64 0,.int .i64 0] 50)).alloc (.cells #[.slice none 0 0] 115)).heap.size=w.heap.size+3:=by simp
 rw [hz]at hg
 clear hB0 hB1 hz HC HCF
 rcases hr with ⟨rfl,v,hT,hc,hok,hB,⟨x,y,hx,hy⟩,hfz,hsz⟩ | ⟨e,p,rfl,hd,hc,hB,⟨x,y,hx,hy⟩,hfz,hsz⟩
 ·
  have c4:w2.cell? ⟨w.heap.size+1+1,0,none⟩=some v:=hg.cell hc (by simp)
  have c30:w2.cell? ⟨w.heap.size+1,0,none⟩=some x:=hg.cell hx (by simp)
  have c31:w2.cell? ⟨w.heap.size+1,1,none⟩=some y:=hg.cell hy (by simp)
  have z3:∀j,w2.frozen? ⟨w.heap.size+1,j,none⟩=false:=fun j=>(World.frozen?_of_block (a:=⟨w.heap.size+1,j,none⟩) (hg.block (w.heap.size+1) (by omega) (by simp))).trans (hfz j)
  have hsz2:w.heap.size+4<=w2.heap.size:=Nat.le_trans hsz hg.size
  have hlt1:w.heap.size+1<w2.heap.size:=by omega
  have hlt2:w.heap.size+1+1<w2.heap.size:=by omega
  have HT:=mkHid hT
  have hB2:Below w.heap.size w w2:=below_of_grown hB hg (by omega)
  have HO2:=mkHid (HST.out v w1 w2 hsz (Far.grown hg (by omega) (by omega)) hok)
  obtain ⟨⟨za,zn,zc⟩,rfl⟩:=hT
  clear hok hc hx hy hfz hg hB
  go_wp2_with fail
  go_region
  all_goals
   go_wp2
   obtain ⟨hg,q0,q1⟩:=fault_world w2 (w.heap.size+1) 0 0 (.cells #[.int .i64 0,.int .i64 0] 50) c30 c31
   have hB3:=below_of_grown hB2 hg (by omega)
   have HO3:=mkHid (HST.out _ w2 _ hsz2 (Far.grown hg (by omega) (by omega)) HO2.out)
   have hz3:=Nat.le_trans hsz2 hg.size
   generalize ((w2.setCell ⟨w.heap.size+1,0,none⟩ (.int .i64 0)).setCell ⟨w.heap.size+1,1,none⟩ (.int .i64 0)).alloc (.cells #[.int .i64 0,.int .i64 0] 50)=W9 at*
   exact bodyPost_ret (v:=.tuple #[_,.agg #[.int .i64 0,.int .i64 0]]) (by simp [results,Tryz.results102,go_sem,q0,q1]) rfl ⟨hB3.drew,hz3,Or.inl ⟨_,rfl,HT.out,HST.out _ W9 _ hz3 ⟨Nat.le_refl _,fun _ _ _=>rfl⟩ HO3.out⟩⟩
 have c4:w2.cell? ⟨w.heap.size+1+1,0,none⟩=some (.slice none 0 0):=hg.cell hc (by simp)
 have c30:w2.cell? ⟨w.heap.size+1,0,none⟩=some x:=hg.cell hx (by simp)
 have c31:w2.cell? ⟨w.heap.size+1,1,none⟩=some y:=hg.cell hy (by simp)
 have z3:∀j,w2.frozen? ⟨w.heap.size+1,j,none⟩=false:=fun j=>(World.frozen?_of_block (a:=⟨w.heap.size+1,j,none⟩) (hg.block (w.heap.size+1) (by omega) (by simp))).trans (hfz j)
 have hsz2:w.heap.size+4<=w2.heap.size:=Nat.le_trans hsz hg.size
 have hlt1:w.heap.size+1<w2.heap.size:=by omega
 have hlt2:w.heap.size+1+1<w2.heap.size:=by omega
 have HD:=mkHid hd
 have hB2:Below w.heap.size w w2:=below_of_grown hB hg (by omega)
 clear hd hc hx hy hfz hg hB HST
 go_wp2_with fail
 go_region
 all_goals
  go_wp2
  obtain ⟨hg,q0,q1⟩:=fault_world w2 (w.heap.size+1) e p (.cells #[.int .i64 e,.int .i64 p] 50) c30 c31
  have hB3:=below_of_grown hB2 hg (by omega)
  have hz3:=Nat.le_trans hsz2 hg.size
  generalize ((w2.setCell ⟨w.heap.size+1,0,none⟩ (.int .i64 e)).setCell ⟨w.heap.size+1,1,none⟩ (.int .i64 p)).alloc (.cells #[.int .i64 e,.int .i64 p] 50)=W9 at*
  exact bodyPost_ret (v:=.tuple #[.slice none 0 0,.agg #[.int .i64 e,.int .i64 p]]) (by simp [results,Tryz.results102,go_sem,q0,q1]) rfl ⟨hB3.drew,hz3,Or.inr ⟨_,_,rfl,HD.out⟩⟩
end Go.Proofs.YtcddpmappmjilaaGreatDoor
namespace Go.Proofs.YtcddpmappmjilaaGreatDoor
open Go.RowKit Go.Maps
def setL (w:World) (Q:Nat):Nat->List Value->World
 | _,[]=>w
 | o,c::cs=>setL (w.setCell ⟨Q,o,none⟩ c) Q (o+1) cs
theorem setL_ok (Q:Nat):∀(cs:List Value) (w:World) (o:Nat),(∀j,j<cs.length->∃x,w.cell? ⟨Q,o+j,none⟩=some x)->w.grownBy (setL w Q o cs) (some Q)/\(∀j,j<cs.length->(setL w Q o cs).cell? ⟨Q,o+j,none⟩=cs[j]?)/\∀i,i<o->(setL w Q o cs).cell? ⟨Q,i,none⟩=w.cell? ⟨Q,i,none⟩
 | [],w,o,_=>⟨World.grownBy.refl _ _,(fun j hj=>by cases hj),fun _ _=>rfl⟩
 | c::cs,w,o,h=>by
   obtain ⟨x0,h0⟩:=h 0 (by simp)
   have hs:=World.cell?_setCell_same w ⟨Q,o,none⟩ c h0
   have ho:∀i,i≠o->(w.setCell ⟨Q,o,none⟩ c).cell? ⟨Q,i,none⟩=w.cell? ⟨Q,i,none⟩:=fun i hi=>World.cell?_setCell_other _ _ _ _ (fun e=>hi (congrArg Addr.off e).symm)
   obtain ⟨g,hc,hl⟩:=setL_ok Q cs (w.setCell ⟨Q,o,none⟩ c) (o+1) (fun j hj=>by
    obtain ⟨x,hx⟩:=h (j+1) (by simpa using hj)
    refine ⟨x,?_⟩
    rw [ho _ (by omega),show o+1+j=o+(j+1) by omega]
    exact hx)
   refine ⟨(grown_set (World.grownBy.refl _ _) _ _ (Or.inl rfl)).trans g,fun j hj=>?_,fun i hi=>(hl i (by omega)).trans (ho i (by omega))⟩
   cases j with
   | zero=>rw [Nat.add_zero,setL,hl o (by omega)];exact hs
   | succ j=>
     have:=hc j (by simpa using hj)
     rw [show o+1+j=o+(j+1) by omega]at this
     rw [setL,this]
     rfl
theorem grown_frz {w w':World} {Q:Nat} (h:w.grownBy w' (some Q)) {b j:Nat} (hb:b<w.heap.size) (hne:b≠Q):w'.frozen? ⟨b,j,none⟩=w.frozen? ⟨b,j,none⟩:=
 World.frozen?_of_block (a:=⟨b,j,none⟩) (h.block b hb (by simp<;>omega))
structure AftN (n:Nat) (w w1:World):Prop where
 B:Below w.heap.size w w1
 a:∀j,j<n->∃x,w1.cell? ⟨w.heap.size+1,j,none⟩=some x
 az:∀j,w1.frozen? ⟨w.heap.size+1,j,none⟩=false
 f:∀j,j<2->∃x,w1.cell? ⟨w.heap.size+2,j,none⟩=some x
 fz:∀j,w1.frozen? ⟨w.heap.size+2,j,none⟩=false
 sz:w.heap.size+5<=w1.heap.size
theorem AftN.grown {n:Nat} {w w1 w2:World} (h:AftN n w w1) {q:Nat} (hg:w1.grownBy w2 (some (w.heap.size+q))) (hq:3<=q):AftN n w w2:=
 have hs:=h.sz
 ⟨below_of_grown h.B hg (by omega),fun j hj=>(h.a j hj).imp fun _ hx=>hg.cell hx (by simp<;>omega),fun j=>(grown_frz hg (by omega) (by omega)).trans (h.az j),fun j hj=>(h.f j hj).imp fun _ hx=>hg.cell hx (by simp<;>omega),fun j=>(grown_frz hg (by omega) (by omega)).trans (h.fz j),Nat.le_trans hs hg.size⟩
theorem finN {n:Nat} {w w2:World} (h:AftN n w w2) (cs:List Value) (hn:cs.length=n) (e p:Int) (o:Obj):∃W9,W9=(setL (setL w2 (w.heap.size+1) 0 cs) (w.heap.size+1+1) 0 [.int .i64 e,.int .i64 p]).alloc o/\Below w.heap.size w W9/\Far w.heap.size (w.heap.size+5) w2 W9/\w.heap.size+5<=W9.heap.size/\
 (∀j,j<n->W9.cell? ⟨w.heap.size+1,j,none⟩=cs[j]?)/\W9.cell? ⟨w.heap.size+1+1,0,none⟩=some (.int .i64 e)/\W9.cell? ⟨w.heap.size+1+1,1,none⟩=some (.int .i64 p):=by
 have hs:=h.sz
 obtain ⟨G1,p1,-⟩:=setL_ok (w.heap.size+1) cs w2 0 (fun j hj=>by rw [Nat.zero_add];exact h.a j (by omega))
 have s1:=G1.size
 generalize setL w2 (w.heap.size+1) 0 cs=W1 at*
 obtain ⟨G2,p2,-⟩:=setL_ok (w.heap.size+1+1) [.int .i64 e,.int .i64 p] W1 0 (fun j hj=>by
  rw [Nat.zero_add]
  obtain ⟨x,hx⟩:=h.f j (by simpa using hj)
  exact ⟨x,G1.cell hx (by simp)⟩)
 have s2:=G2.size
 have hB:Below w.heap.size w _:=below_of_grown (below_of_grown h.B G1 (by omega)) G2 (by omega)
 have hF:Far w.heap.size (w.heap.size+5) w2 _:=(Far.grown G1 (by omega) (by omega)).trans (Far.grown G2 (by omega) (by omega))
 have p3:∀j,j<n->(setL W1 (w.heap.size+1+1) 0 [.int .i64 e,.int .i64 p]).cell? ⟨w.heap.size+1,j,none⟩=cs[j]? :=fun j hj=>by
  have hx:=p1 j (by omega)
  rw [Nat.zero_add]at hx
  have:cs[j]? =some (cs[j]'(by omega)):=List.getElem?_eq_getElem (by omega)
  rw [this]at hx ⊢
  exact G2.cell hx (by simp)
 generalize setL W1 (w.heap.size+1+1) 0 [.int .i64 e,.int .i64 p]=W2 at*
 have hA:Below W2.heap.size W2 (W2.alloc o):=(Below.refl _ _).alloc (Nat.le_refl _) _
 refine ⟨_,rfl,hB.trans (hA.mono hB.size),hF.trans (Far.below hA),by have:=hA.size;omega,fun j hj=>(hA.cell (p:=⟨w.heap.size+1,j,none⟩) (by show w.heap.size+1<_;omega)).trans (p3 j hj),?_,?_⟩
 ·
  exact (hA.cell (p:=⟨w.heap.size+1+1,0,none⟩) (by show w.heap.size+1+1<_;omega)).trans (p2 0 (by simp))
 exact (hA.cell (p:=⟨w.heap.size+1+1,1,none⟩) (by show w.heap.size+1+1<_;omega)).trans (p2 1 (by simp))
def IsTr (v:Value):Prop:=∃(p0:Option Addr) (n0 q0:Nat) (p1:Option Addr) (n1 q1:Nat) (a2:Int) (a3:Int) (b4:Bool),v=.agg #[.slice p0 n0 q0,.slice p1 n1 q1,.int .i64 a2,.int .i64 a3,.bool b4]
set_option maxRecDepth 100000 in
set_option maxHeartbeats 1000000 in
theorem made1Tr_any (w:World) (g:Nat) (cap:Array Value) (Ok:Value->World->Prop) (No:Int->Int->Prop) (Pf Q:Nat) (hcf:∀args w,(callFunc g args).run Tryz.prog w=.ok (.enter g args) w)
 (hpf:w.cell? ⟨Pf,0,none⟩=some (.func (.func g) #[] cap)) (hq:∀j,j<5->∃x,w.cell? ⟨Q,j,none⟩=some x) (hz:∀j,w.frozen? ⟨Q,j,none⟩=false)
 (hc:Calls Tryz.prog g cap w fun r W'=>Below w.heap.size w W'/\((∃v,r=.returned v/\IsTr v/\Ok v W')\/∃e p,r=.panicked [wrongV e p]/\No e p)):
 Calls Tryz.prog 39 #[.pointer (some ⟨Pf,0,none⟩),.pointer (some ⟨Q,0,none⟩)] w fun r w'=>
  (r=.returned (.tuple #[])/\∃(v:Value) (W':World),IsTr v/\Ok v W'/\(∀j,j<5->w'.cell? ⟨Q,j,none⟩=v.cells[j]?)/\w.grownBy w' (some Q)/\W'.grownBy w' (some Q)/\Below w.heap.size w W')\/
  (∃e p,r=.panicked [wrongV e p]/\No e p/\Below w.heap.size w w'):=by
 have hQ:Q<w.heap.size:=by obtain ⟨x,hx⟩:=hq 0 (by decide);exact World.block_lt_of_cell? w _ hx
 have HC:=mkHid hc
 clear hc
 go_enter Tryz.func39,Tryz.ntmps39
 go_wp2_with fail
 refine HC.out.mono ?_
 rintro r w1 ⟨hb,⟨v,rfl,⟨p0,n0,q0,p1,n1,q1,a2,a3,b4,rfl⟩,hok⟩ | ⟨e,p,rfl,hno⟩⟩
 rotate_left
 ·
  exact ⟨rfl,Or.inr ⟨e,p,rfl,hno,hb⟩⟩
 have hq2:∀j,j<5->∃x,w1.cell? ⟨Q,j,none⟩=some x:=fun j hj=>(hq j hj).imp fun x hx=>(hb.cell (p:=⟨Q,j,none⟩) hQ).trans hx
 obtain ⟨x0,hx0⟩:=hq2 0 (by decide)
 obtain ⟨x1,hx1⟩:=hq2 1 (by decide)
 obtain ⟨x2,hx2⟩:=hq2 2 (by decide)
 obtain ⟨x3,hx3⟩:=hq2 3 (by decide)
 obtain ⟨x4,hx4⟩:=hq2 4 (by decide)
 have hz1:∀j,w1.frozen? ⟨Q,j,none⟩=false:=fun j=>(hb.frozen (p:=⟨Q,j,none⟩) hQ).trans (hz j)
 have HT:=mkHid (setL_ok Q [.slice p0 n0 q0,.slice p1 n1 q1,.int .i64 a2,.int .i64 a3,.bool b4] w1 0 (fun j hj=>by rw [Nat.zero_add];exact hq2 j (by simpa using hj)))
 have HG0:Hid (w.grownBy w1 (some Q)):=⟨hb.os,hb.tape,hb.output,hb.size,fun k hk _=>hb.block k hk⟩
 have HOK:=mkHid hok
 have HB:=mkHid hb
 clear hok hb hq hz HC hq2
 go_wp2
 go_end0
 refine Or.inl ⟨rfl,.agg #[.slice p0 n0 q0,.slice p1 n1 q1,.int .i64 a2,.int .i64 a3,.bool b4],w1,⟨p0,n0,q0,p1,n1,q1,a2,a3,b4,rfl⟩,HOK.out,fun j hj=>?_,HG0.out.trans HT.out.1,HT.out.1,HB.out⟩
 have:=HT.out.2.1 j (by simpa using hj)
 rw [Nat.zero_add]at this
 refine Eq.trans this ?_
 simp [Value.cells]
theorem callMadeTr (args:Array Value) (w:World):(callFunc 39 args).run Tryz.prog w=.ok (.enter 39 args) w:=by kernel_rfl
theorem afterMadeTr (w w1:World) (x:Value) (h:(((((w.alloc (.cells #[x] 77)).alloc (.cells #[.slice none 0 0,.slice none 0 0,.int .i64 0,.int .i64 0,.bool false] 43)).alloc (.cells #[.int .i64 0,.int .i64 0] 50)).alloc (.cells #[.slice none 0 0,.slice none 0 0,.int .i64 0,.int .i64 0,.bool false] 43)).alloc (.cells #[.int .i64 0,.int .i64 0] 50)).grownBy w1 (some (w.heap.size+3))):w1.heap[w.heap.size+4]? =some (.cells #[.int .i64 0,.int .i64 0] 50 (0,0))/\AftN 5 w w1:=by
 have hB0:Below w.heap.size w (((((w.alloc (.cells #[x] 77)).alloc (.cells #[.slice none 0 0,.slice none 0 0,.int .i64 0,.int .i64 0,.bool false] 43)).alloc (.cells #[.int .i64 0,.int .i64 0] 50)).alloc (.cells #[.slice none 0 0,.slice none 0 0,.int .i64 0,.int .i64 0,.bool false] 43)).alloc (.cells #[.int .i64 0,.int .i64 0] 50)):=(((((Below.refl _ _).alloc (Nat.le_refl _) _).alloc (by simp) _).alloc (by simp<;>omega) _).alloc (by simp<;>omega) _).alloc (by simp<;>omega) _
 have hz:(((((w.alloc (.cells #[x] 77)).alloc (.cells #[.slice none 0 0,.slice none 0 0,.int .i64 0,.int .i64 0,.bool false] 43)).alloc (.cells #[.int .i64 0,.int .i64 0] 50)).alloc (.cells #[.slice none 0 0,.slice none 0 0,.int .i64 0,.int .i64 0,.bool false] 43)).alloc (.cells #[.int .i64 0,.int .i64 0] 50)).heap.size=w.heap.size+5:=by simp
 have hb1:(((((w.alloc (.cells #[x] 77)).alloc (.cells #[.slice none 0 0,.slice none 0 0,.int .i64 0,.int .i64 0,.bool false] 43)).alloc (.cells #[.int .i64 0,.int .i64 0] 50)).alloc (.cells #[.slice none 0 0,.slice none 0 0,.int .i64 0,.int .i64 0,.bool false] 43)).alloc (.cells #[.int .i64 0,.int .i64 0] 50)).heap[w.heap.size+1]? =some (.cells #[.slice none 0 0,.slice none 0 0,.int .i64 0,.int .i64 0,.bool false] 43 (0,0)):=(Below.heap_alloc _ _ _ (by simp<;>omega)).trans ((Below.heap_alloc _ _ _ (by simp<;>omega)).trans ((Below.heap_alloc _ _ _ (by simp)).trans (by
  have:=heap_alloc_new (w.alloc (.cells #[x] 77)) (.cells #[.slice none 0 0,.slice none 0 0,.int .i64 0,.int .i64 0,.bool false] 43)
  simpa using this)))
 have hb2:(((((w.alloc (.cells #[x] 77)).alloc (.cells #[.slice none 0 0,.slice none 0 0,.int .i64 0,.int .i64 0,.bool false] 43)).alloc (.cells #[.int .i64 0,.int .i64 0] 50)).alloc (.cells #[.slice none 0 0,.slice none 0 0,.int .i64 0,.int .i64 0,.bool false] 43)).alloc (.cells #[.int .i64 0,.int .i64 0] 50)).heap[w.heap.size+2]? =some (.cells #[.int .i64 0,.int .i64 0] 50 (0,0)):=(Below.heap_alloc _ _ _ (by simp<;>omega)).trans ((Below.heap_alloc _ _ _ (by simp)).trans (by
  have:=heap_alloc_new ((w.alloc (.cells #[x] 77)).alloc (.cells #[.slice none 0 0,.slice none 0 0,.int .i64 0,.int .i64 0,.bool false] 43)) (.cells #[.int .i64 0,.int .i64 0] 50)
  simpa using this))
 have k1:=(h.block (w.heap.size+1) (by omega) (by simp)).trans hb1
 have k2:=(h.block (w.heap.size+2) (by omega) (by simp)).trans hb2
 refine ⟨?_,below_of_grown hB0 h (by omega),fun j hj=>?_,fun j=>frz_of k1 j,fun j hj=>?_,fun j=>frz_of k2 j,by rw [<-hz];exact h.size⟩
 ·
  rw [h.block (w.heap.size+4) (by omega) (by simp)]
  show (((((w.heap.push _).push _).push _).push _).push _)[w.heap.size+4]? =_
  rw [Array.getElem?_push,if_pos (by simp)]
 ·
  exact ⟨_,cell_of k1 j (x:=[.slice none 0 0,.slice none 0 0,.int .i64 0,.int .i64 0,.bool false][j]'(by simpa using hj)) (by rw [<-List.getElem_toArray (by simpa using hj)];exact Array.getElem?_eq_getElem (by simpa using hj))⟩
 exact ⟨_,cell_of k2 j (x:=[Value.int .i64 0,.int .i64 0][j]'(by simpa using hj)) (by rw [<-List.getElem_toArray (by simpa using hj)];exact Array.getElem?_eq_getElem (by simpa using hj))⟩
set_option maxRecDepth 100000 in
set_option maxHeartbeats 4000000 in
theorem madeTr_any (w:World) (g:Nat) (cap:Array Value) (Ok:Value->World->Prop) (No:Int->Int->Prop) (hcf:∀args w,(callFunc g args).run Tryz.prog w=.ok (.enter g args) w)
 (hc:∀W,Below w.heap.size w W->W.heap.size=w.heap.size+5->Calls Tryz.prog g cap W fun r W'=>Below W.heap.size W W'/\((∃v,r=.returned v/\IsTr v/\Ok v W')\/∃e p,r=.panicked [wrongV e p]/\No e p))
 (hst:∀v W W',w.heap.size+5<=W.heap.size->Far w.heap.size (w.heap.size+5) W W'->Ok v W->Ok v W'):
 Calls Tryz.prog 22 #[.func (.func g) #[] cap] w fun r w'=>Below w.heap.size w w'/\w.heap.size+5<=w'.heap.size/\
  ((∃v,r=.returned (.tuple #[v,.agg #[.int .i64 0,.int .i64 0]])/\IsTr v/\Ok v w')\/
   (∃e p,r=.returned (.tuple #[.agg #[.slice none 0 0,.slice none 0 0,.int .i64 0,.int .i64 0,.bool false],.agg #[.int .i64 e,.int .i64 p]])/\No e p)):=by
 have hmf:∀(fn:Fn) (first cap:Array Value) (w:World),(Instr.makeFunc fn first cap).run Tryz.prog w=.ok (.func fn first cap) w:=fun _ _ _ _=>rfl
 have hB0:Below w.heap.size w ((((w.alloc (.cells #[.func (.func g) #[] cap] 77)).alloc (.cells #[.slice none 0 0,.slice none 0 0,.int .i64 0,.int .i64 0,.bool false] 43)).alloc (.cells #[.int .i64 0,.int .i64 0] 50)).alloc (.cells #[.slice none 0 0,.slice none 0 0,.int .i64 0,.int .i64 0,.bool false] 43)):=((((Below.refl _ _).alloc (Nat.le_refl _) _).alloc (by simp) _).alloc (by simp<;>omega) _).alloc (by simp<;>omega) _
 have hB1:=hB0.alloc hB0.size (.cells #[.int .i64 0,.int .i64 0] 50)
 have HC:=mkHid hc
 have HST:=mkHid hst
 have HCF:=mkHid hcf
 clear hc hst hcf
 go_enter Tryz.func22,Tryz.ntmps22
 go_wp2_with fail
 refine (caught_any 39 _ _ (fun w1=>∃v,IsTr v/\(∀j,j<5->w1.cell? ⟨w.heap.size+3,j,none⟩=v.cells[j]?)/\Ok v w1/\AftN 5 w w1)
  (fun e p w1=>No e p/\(∀j,j<5->w1.cell? ⟨w.heap.size+3,j,none⟩= [.slice none 0 0,.slice none 0 0,.int .i64 0,.int .i64 0,.bool false][j]?)/\AftN 5 w w1) (callMadeTr _) ?hc).mono ?_
 case hc=>
  have hb3:((((w.alloc (.cells #[.func (.func g) #[] cap] 77)).alloc (.cells #[.slice none 0 0,.slice none 0 0,.int .i64 0,.int .i64 0,.bool false] 43)).alloc (.cells #[.int .i64 0,.int .i64 0] 50)).alloc (.cells #[.slice none 0 0,.slice none 0 0,.int .i64 0,.int .i64 0,.bool false] 43)).heap[w.heap.size+3]? =some (.cells #[.slice none 0 0,.slice none 0 0,.int .i64 0,.int .i64 0,.bool false] 43 (0,0)):=by
   have:=heap_alloc_new (((w.alloc (.cells #[.func (.func g) #[] cap] 77)).alloc (.cells #[.slice none 0 0,.slice none 0 0,.int .i64 0,.int .i64 0,.bool false] 43)).alloc (.cells #[.int .i64 0,.int .i64 0] 50)) (.cells #[.slice none 0 0,.slice none 0 0,.int .i64 0,.int .i64 0,.bool false] 43)
   simpa using this
  have hb4:=(Below.heap_alloc ((((w.alloc (.cells #[.func (.func g) #[] cap] 77)).alloc (.cells #[.slice none 0 0,.slice none 0 0,.int .i64 0,.int .i64 0,.bool false] 43)).alloc (.cells #[.int .i64 0,.int .i64 0] 50)).alloc (.cells #[.slice none 0 0,.slice none 0 0,.int .i64 0,.int .i64 0,.bool false] 43)) (.cells #[.int .i64 0,.int .i64 0] 50) _ (lt_of hb3)).trans hb3
  refine (made1Tr_any _ g cap Ok No w.heap.size (w.heap.size+3) HCF.out (by simp [go_sem]) (fun j hj=>⟨_,cell_of hb4 j (x:=[.slice none 0 0,.slice none 0 0,.int .i64 0,.int .i64 0,.bool false][j]'(by simpa using hj)) (by rw [<-List.getElem_toArray (by simpa using hj)];exact Array.getElem?_eq_getElem (by simpa using hj))⟩) (fun j=>frz_of hb4 j) (HC.out _ hB1 (by simp))).mono ?_
  rintro r w1 (⟨rfl,v,W',hv,hok,hc0,hg,hg0,hbw⟩ | ⟨e,p,rfl,hd,hb⟩)
  ·
   obtain ⟨a1,a2⟩:=afterMadeTr w w1 _ hg
   refine ⟨by simpa using a1,Or.inl ⟨rfl,v,hv,hc0,?_,a2⟩⟩
   exact HST.out _ W' w1 (by have:=hbw.size;simp at this;omega) (Far.grown hg0 (by omega) (by omega)) hok
  have hg2:World.grownBy _ w1 (some (w.heap.size+3)):=⟨hb.os,hb.tape,hb.output,hb.size,fun k hk _=>hb.block k hk⟩
  obtain ⟨a1,a2⟩:=afterMadeTr w w1 _ hg2
  refine ⟨by simpa using a1,Or.inr ⟨e,p,rfl,hd,fun j hj=>?_,a2⟩⟩
  refine (cell_of ((hb.block (w.heap.size+3) (lt_of hb4)).trans hb4) j (x:=[.slice none 0 0,.slice none 0 0,.int .i64 0,.int .i64 0,.bool false][j]'(by simpa using hj)) (by rw [<-List.getElem_toArray (by simpa using hj)];exact Array.getElem?_eq_getElem (by simpa using hj))).trans (List.getElem?_eq_getElem (by simpa using hj)).symm
 rintro r w2 ⟨w1,hg,hr⟩
 have hz:((((w.alloc (.cells #[.func (.func g) #[] cap] 77)).alloc (.cells #[.slice none 0 0,.slice none 0 0,.int .i64 0,.int .i64 0,.bool false] 43)).alloc (.cells #[.int .i64 0,.int .i64 0] 50)).alloc (.cells #[.slice none 0 0,.slice none 0 0,.int .i64 0,.int .i64 0,.bool false] 43)).heap.size=w.heap.size+4:=by simp
 rw [hz]at hg
 clear hB0 hB1 hz HC HCF
 rcases hr with ⟨rfl,v,hv,hc0,hok,hA⟩ | ⟨e,p,rfl,hd,hc0,hA⟩
 ·
  have HV:=mkHid hv
  obtain ⟨p0,n0,q0,p1,n1,q1,a2,a3,b4,rfl⟩:=hv
  have m0:w2.cell? ⟨w.heap.size+1+1+1,0,none⟩=some (.slice p0 n0 q0):=hg.cell ((hc0 0 (by decide)).trans (by simp [Value.cells])) (by simp)
  have m1:w2.cell? ⟨w.heap.size+1+1+1,1,none⟩=some (.slice p1 n1 q1):=hg.cell ((hc0 1 (by decide)).trans (by simp [Value.cells])) (by simp)
  have m2:w2.cell? ⟨w.heap.size+1+1+1,2,none⟩=some (.int .i64 a2):=hg.cell ((hc0 2 (by decide)).trans (by simp [Value.cells])) (by simp)
  have m3:w2.cell? ⟨w.heap.size+1+1+1,3,none⟩=some (.int .i64 a3):=hg.cell ((hc0 3 (by decide)).trans (by simp [Value.cells])) (by simp)
  have m4:w2.cell? ⟨w.heap.size+1+1+1,4,none⟩=some (.bool b4):=hg.cell ((hc0 4 (by decide)).trans (by simp [Value.cells])) (by simp)
  have hA2:=hA.grown hg (by omega)
  have HO2:=mkHid (HST.out _ w1 w2 hA.sz (Far.grown hg (by omega) (by omega)) hok)
  have HA2:=mkHid hA2
  obtain ⟨x0,hx0⟩:=hA2.a 0 (by decide)
  obtain ⟨x1,hx1⟩:=hA2.a 1 (by decide)
  obtain ⟨x2,hx2⟩:=hA2.a 2 (by decide)
  obtain ⟨x3,hx3⟩:=hA2.a 3 (by decide)
  obtain ⟨x4,hx4⟩:=hA2.a 4 (by decide)
  obtain ⟨y0,g0⟩:=hA2.f 0 (by decide)
  obtain ⟨y1,g1⟩:=hA2.f 1 (by decide)
  have z1:=hA2.az
  have z2:=hA2.fz
  have hsz:=hA2.sz
  have l1:w.heap.size+1<w2.heap.size:=by omega
  have l2:w.heap.size+1+1<w2.heap.size:=by omega
  have l3:w.heap.size+1+1+1<w2.heap.size:=by omega
  clear hok hc0 hg hA hA2
  go_wp2_with fail
  go_region
  all_goals
   go_wp2
   obtain ⟨W9,h9,hB9,hF9,hz9,hq9,r0,r1⟩:=finN HA2.out [.slice p0 n0 q0,.slice p1 n1 q1,.int .i64 a2,.int .i64 a3,.bool b4] rfl 0 0 (.cells #[.int .i64 0,.int .i64 0] 50)
   rw [show (setL (setL w2 (w.heap.size+1) 0 [.slice p0 n0 q0,.slice p1 n1 q1,.int .i64 a2,.int .i64 a3,.bool b4]) (w.heap.size+1+1) 0 [.int .i64 0,.int .i64 0]).alloc (.cells #[.int .i64 0,.int .i64 0] 50)=((((((((w2.setCell ⟨w.heap.size+1,0,none⟩ (.slice p0 n0 q0)).setCell ⟨w.heap.size+1,1,none⟩ (.slice p1 n1 q1)).setCell ⟨w.heap.size+1,2,none⟩ (.int .i64 a2)).setCell ⟨w.heap.size+1,3,none⟩ (.int .i64 a3)).setCell ⟨w.heap.size+1,4,none⟩ (.bool b4)).setCell ⟨w.heap.size+1+1,0,none⟩ (.int .i64 0)).setCell ⟨w.heap.size+1+1,1,none⟩ (.int .i64 0))).alloc (.cells #[.int .i64 0,.int .i64 0] 50) from rfl]at h9
   rw [<-h9]
   have hh0:=hq9 0 (by decide)
   have hh1:=hq9 1 (by decide)
   have hh2:=hq9 2 (by decide)
   have hh3:=hq9 3 (by decide)
   have hh4:=hq9 4 (by decide)
   exact bodyPost_ret (v:=.tuple #[.agg #[.slice p0 n0 q0,.slice p1 n1 q1,.int .i64 a2,.int .i64 a3,.bool b4],.agg #[.int .i64 0,.int .i64 0]]) (by simp [results,Tryz.results22,go_sem,hh0,hh1,hh2,hh3,hh4,r0,r1]) rfl ⟨hB9.drew,hz9,Or.inl ⟨_,rfl,HV.out,HST.out _ w2 _ hsz (hF9.trans ⟨Nat.le_refl _,fun _ _ _=>rfl⟩) HO2.out⟩⟩
 have m0:w2.cell? ⟨w.heap.size+1+1+1,0,none⟩=some (.slice none 0 0):=hg.cell ((hc0 0 (by decide)).trans rfl) (by simp)
 have m1:w2.cell? ⟨w.heap.size+1+1+1,1,none⟩=some (.slice none 0 0):=hg.cell ((hc0 1 (by decide)).trans rfl) (by simp)
 have m2:w2.cell? ⟨w.heap.size+1+1+1,2,none⟩=some (.int .i64 0):=hg.cell ((hc0 2 (by decide)).trans rfl) (by simp)
 have m3:w2.cell? ⟨w.heap.size+1+1+1,3,none⟩=some (.int .i64 0):=hg.cell ((hc0 3 (by decide)).trans rfl) (by simp)
 have m4:w2.cell? ⟨w.heap.size+1+1+1,4,none⟩=some (.bool false):=hg.cell ((hc0 4 (by decide)).trans rfl) (by simp)
 have hA2:=hA.grown hg (by omega)
 have HD:=mkHid hd
 have HA2:=mkHid hA2
 obtain ⟨x0,hx0⟩:=hA2.a 0 (by decide)
 obtain ⟨x1,hx1⟩:=hA2.a 1 (by decide)
 obtain ⟨x2,hx2⟩:=hA2.a 2 (by decide)
 obtain ⟨x3,hx3⟩:=hA2.a 3 (by decide)
 obtain ⟨x4,hx4⟩:=hA2.a 4 (by decide)
 obtain ⟨y0,g0⟩:=hA2.f 0 (by decide)
 obtain ⟨y1,g1⟩:=hA2.f 1 (by decide)
 have z1:=hA2.az
 have z2:=hA2.fz
 have hsz:=hA2.sz
 have l1:w.heap.size+1<w2.heap.size:=by omega
 have l2:w.heap.size+1+1<w2.heap.size:=by omega
 have l3:w.heap.size+1+1+1<w2.heap.size:=by omega
 clear hd hc0 hg hA hA2 HST
 go_wp2_with fail
 go_region
 all_goals
  go_wp2
  obtain ⟨W9,h9,hB9,hF9,hz9,hq9,r0,r1⟩:=finN HA2.out [.slice none 0 0,.slice none 0 0,.int .i64 0,.int .i64 0,.bool false] rfl e p (.cells #[.int .i64 e,.int .i64 p] 50)
  rw [show (setL (setL w2 (w.heap.size+1) 0 [.slice none 0 0,.slice none 0 0,.int .i64 0,.int .i64 0,.bool false]) (w.heap.size+1+1) 0 [.int .i64 e,.int .i64 p]).alloc (.cells #[.int .i64 e,.int .i64 p] 50)=((((((((w2.setCell ⟨w.heap.size+1,0,none⟩ (.slice none 0 0)).setCell ⟨w.heap.size+1,1,none⟩ (.slice none 0 0)).setCell ⟨w.heap.size+1,2,none⟩ (.int .i64 0)).setCell ⟨w.heap.size+1,3,none⟩ (.int .i64 0)).setCell ⟨w.heap.size+1,4,none⟩ (.bool false)).setCell ⟨w.heap.size+1+1,0,none⟩ (.int .i64 e)).setCell ⟨w.heap.size+1+1,1,none⟩ (.int .i64 p))).alloc (.cells #[.int .i64 e,.int .i64 p] 50) from rfl]at h9
  rw [<-h9]
  have hh0:=hq9 0 (by decide)
  have hh1:=hq9 1 (by decide)
  have hh2:=hq9 2 (by decide)
  have hh3:=hq9 3 (by decide)
  have hh4:=hq9 4 (by decide)
  exact bodyPost_ret (v:=.tuple #[.agg #[.slice none 0 0,.slice none 0 0,.int .i64 0,.int .i64 0,.bool false],.agg #[.int .i64 e,.int .i64 p]]) (by simp [results,Tryz.results22,go_sem,hh0,hh1,hh2,hh3,hh4,r0,r1]) rfl ⟨hB9.drew,hz9,Or.inr ⟨_,_,rfl,HD.out⟩⟩
end Go.Proofs.YtcddpmappmjilaaGreatDoor
