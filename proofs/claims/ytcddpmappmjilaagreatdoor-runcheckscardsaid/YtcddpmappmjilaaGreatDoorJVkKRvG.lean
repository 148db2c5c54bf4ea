import Derived.Test.YtcddpmappmjilaaGreatDoorJLHgVkL
import Derived.Test.YtcddpmappmjilaaGreatDoorJLKcRvA
import Derived.Test.YtcddpmappmjilaaGreatDoorJLClVmM
import Derived.Test.YtcddpmappmjilaaGreatDoorJCdInsCdDecode
import Derived.Test.YtcddpmappmjilaaGreatDoorJVmGVmR
import Derived.Test.YtcddpmappmjilaaGreatDoorJLTieLBas
import Derived.Test.YtcddpmappmjilaaGreatDoorJRuGRuR
import Derived.Test.YtcddpmappmjilaaGreatDoorJLFiRuV
import Derived.Test.YtcddpmappmjilaaGreatDoorJLSaDRvE
import Derived.Test.YtcddpmappmjilaaGreatDoorLCkL
namespace Go.Proofs.YtcddpmappmjilaaGreatDoor
open Go.RowKit
end Go.Proofs.YtcddpmappmjilaaGreatDoor
namespace Go.Proofs.YtcddpmappmjilaaGreatDoor
open Go.RowKit
theorem right_gd {l:List ClassD} {k:KindD} (h:rightB k=true) (hk:knowsK l k=true):GdK (fun s=>0<=num l s) k:=by
 unfold rightB at h
 split at h
 ·
  rename_i hc
  refine Or.inl ⟨by simpa [hasCls]using hc,?_⟩
  unfold knowsK at hk
  rcases Bool.or_eq_true _ _ ▸ hk with h2 | h2
  ·
   exact absurd (of_decide_eq_true h2) (name_ne h)
  exact of_decide_eq_true h2
 rw [Bool.and_eq_true,Bool.or_eq_true,decide_eq_true_iff,decide_eq_true_iff,decide_eq_true_iff]at h
 have hn:k.cls=noNm:=by
  obtain ⟨kd,⟨a⟩⟩:=k
  have:a=#[]:=Array.eq_empty_of_size_eq_zero h.2
  subst this
  rfl
 rcases h.1 with e | e
 ·
  exact Or.inr (Or.inl (by cases k;simp at hn e;rw [hn,e];rfl))
 exact Or.inr (Or.inr (Or.inl (by cases k;simp at hn e;rw [hn,e];rfl)))
theorem ret_gd {l:List ClassD} {k:KindD} (h:returnedB k=true) (hk:knowsK l k=true):k.kind=0\/GdK (fun s=>0<=num l s) k:=by
 unfold returnedB at h
 rcases Bool.or_eq_true _ _ ▸ h with h1 | h1
 ·
  exact Or.inr (right_gd h1 hk)
 exact Or.inl (by have:=(Bool.and_eq_true _ _ ▸ h1).1;exact of_decide_eq_true this)
structure MthOk (l:List ClassD) (m:MethD):Prop where
 na:m.args.length<=4
 ga:∀k∈m.args,GdK (fun s=>0<=num l s) k
 rt:m.ret.kind=0\/GdK (fun s=>0<=num l s) m.ret
 st:0<=m.stack/\m.stack<=10
 lc:0<=m.locals/\m.locals<=10
 hk:∀h∈m.hands,0<=num l h.cls
theorem meth_ok {l:List ClassD} (h:tieRes l=0) {c:ClassD} (hc:c∈l) {m:MethD} (hm:m∈c.meths):MthOk l m:=by
 have hck:=tie_chk h
 obtain ⟨-,-,-,-,-,-,h7,-⟩:=tie_asks h
 unfold checkL at hck
 have h1:=allE_zero (dem_zero hck (by decide)).2 c hc
 unfold checkClass at h1
 have h2:=(dem_zero (dem_zero (dem_zero (dem_zero h1 (by decide)).2 (by decide)).2 (by decide)).2 (by decide)).2
 have h3:allE checkMeth c.meths=0:=by
  unfold thenE at h2
  split at h2
  ·
   exact h2
  rename_i hx;exact absurd h2 hx
 have h4:=allE_zero h3 m hm
 unfold checkMeth at h4
 obtain ⟨-,h4⟩:=dem_zero h4 (by decide)
 obtain ⟨q1,h4⟩:=dem_zero h4 (by decide)
 obtain ⟨-,h4⟩:=dem_zero h4 (by decide)
 obtain ⟨-,h4⟩:=dem_zero h4 (by decide)
 obtain ⟨q2,h4⟩:=dem_zero h4 (by decide)
 obtain ⟨q3,h4⟩:=dem_zero h4 (by decide)
 have h5:allE checkArg m.args=0/\dem (returnedB m.ret) 7 (allE checkHand m.hands)=0:=by
  unfold thenE at h4
  split at h4
  ·
   rename_i hx;exact ⟨hx,h4⟩
  rename_i hx;exact absurd h4 hx
 obtain ⟨q4,-⟩:=dem_zero h5.2 (by decide)
 have hkn:knowsM l m=true:=by
  unfold askTold at h7
  have:=List.all_eq_true.1 h7 c hc
  rw [Bool.and_eq_true]at this
  exact List.all_eq_true.1 this.2 m hm
 unfold knowsM at hkn
 rw [Bool.and_eq_true,Bool.and_eq_true]at hkn
 unfold win at q2 q3
 rw [Bool.and_eq_true,decide_eq_true_iff,decide_eq_true_iff]at q2 q3
 exact ⟨of_decide_eq_true q1,fun k hk=>right_gd (by have:=allE_zero h5.1 k hk;unfold checkArg at this;exact (dem_zero this (by decide)).1) (List.all_eq_true.1 hkn.1.1 k hk),ret_gd q4 hkn.1.2,q2,q3,fun x hx=>of_decide_eq_true (List.all_eq_true.1 hkn.2 x hx)⟩
theorem field_ok {l:List ClassD} (h:tieRes l=0) {c:ClassD} (hc:c∈l) {f:FieldD} (hf:f∈c.fields):GdK (fun s=>0<=num l s) f.kind:=by
 have hck:=tie_chk h
 obtain ⟨-,-,-,-,-,-,h7,-⟩:=tie_asks h
 unfold checkL at hck
 have h1:=allE_zero (dem_zero hck (by decide)).2 c hc
 unfold checkClass at h1
 have h2:=(dem_zero (dem_zero (dem_zero (dem_zero h1 (by decide)).2 (by decide)).2 (by decide)).2 (by decide)).2
 have h3:allE checkField c.fields=0:=by
  unfold thenE at h2
  split at h2
  ·
   rename_i hx;exact hx
  rename_i hx;exact absurd h2 hx
 have h4:=allE_zero h3 f hf
 unfold checkField at h4
 have hkn:knowsK l f.kind=true:=by
  unfold askTold at h7
  have:=List.all_eq_true.1 h7 c hc
  rw [Bool.and_eq_true]at this
  exact List.all_eq_true.1 this.1 f hf
 exact right_gd (dem_zero (dem_zero h4 (by decide)).2 (by decide)).1 hkn
def OpsOk (l:List Cd.Op4):Prop:=∀x∈l,(∃o:Nat,o<37/\x.op=o)/\(x.op≠1->0<=x.a)/\0<=x.b
theorem one_ok (s:ByteArray) (p:Nat) (h:¬ 37<=Cd.bt s p):(∃o:Nat,o<37/\(Cd.oneAt s p).op=o)/\((Cd.oneAt s p).op≠1->0<=(Cd.oneAt s p).a)/\0<=(Cd.oneAt s p).b:=by
 refine ⟨⟨Cd.bt s p,by omega,rfl⟩,fun h1=>?_,?_⟩
 ·
  show 0<=Cd.argA (Cd.kOf (Cd.bt s p)) s p
  have h2:Cd.kOf (Cd.bt s p)≠1:=fun e=>h1 (by
   have key:∀o:Fin 37,Cd.kOf o.val=1->o.val=1:=by decide
   show ((Cd.bt s p:Nat):Int)=1
   have:=key ⟨Cd.bt s p,by omega⟩ e
   simp at this
   omega)
  unfold Cd.argA
  rw [if_neg h2]
  (repeat' split)<;>omega
 show 0<=Cd.argB (Cd.kOf (Cd.bt s p)) s p
 unfold Cd.argB
 split<;>omega
theorem scan_all (s:ByteArray):∀(f p:Nat) (acc l:List Cd.Op4),OpsOk acc->Cd.scan s f p acc=.ok l->OpsOk l/\l.length<=acc.length+(s.size - p)
 | 0,p,acc,l,ha,h=>by
   simp [Cd.scan]at h
   subst h
   exact ⟨ha,by omega⟩
 | f+1,p,acc,l,ha,h=>by
   unfold Cd.scan at h
   split at h
   ·
    split at h
    ·
     cases h
    rename_i h37
    split at h
    ·
     cases h
    obtain ⟨i1,i2⟩:=scan_all s f _ _ l (fun x hx=>by
     rcases List.mem_append.1 hx with hx | hx
     ·
      exact ha x hx
     rw [List.mem_singleton]at hx
     subst hx
     exact one_ok s p h37) h
    refine ⟨i1,?_⟩
    have:p+1<=Cd.nextAt s p:=by unfold Cd.nextAt;omega
    simp at i2
    omega
   cases h
   exact ⟨ha,by omega⟩
theorem full_all {s:ByteArray} {l:List Cd.Op4} (h:Cd.full s=.ok l):OpsOk l/\l.length<=200:=by
 unfold Cd.full at h
 split at h
 ·
  cases h
 split at h
 ·
  cases h
 unfold Cd.dec at h
 split at h
 ·
  cases h
 rename_i l' hx
 split at h
 ·
  cases h
 cases h
 obtain ⟨h1,h2⟩:=scan_all s s.size 0 [] l (fun x hx=>by cases hx) hx
 exact ⟨h1,by simp at h2;omega⟩
theorem wf_link {l:List ClassD} (h:tieRes l=0) {c:ClassD} (hc:c∈l) {m:MethD} (hm:m∈c.meths) {ins:List Cd.Op4} (hi:Cd.full m.code=.ok ins):Wf ⟨linkD l,lnN l,m,ins⟩:=by
 have mo:=meth_ok h hc hm
 obtain ⟨io,il⟩:=full_all hi
 refine ⟨cls_link h,by simp [linkD],fun fs hfs f hf=>?_,fun k hk m' hm'=>(meth_ok h hk hm').rt,fun k hk m' hm'=>(meth_ok h hk hm').na,mo.hk,mo.rt,mo.st,mo.lc,?_,il,fun x hx=>(io x hx).1,fun x hx=>(io x hx).2.1,fun x hx=>(io x hx).2.2⟩
 ·
  obtain ⟨n,hn,rfl⟩:=List.mem_map.1 hfs
  unfold fieldsOf at hf
  obtain ⟨k,hk,hf⟩:=List.mem_flatMap.1 hf
  unfold clsAt at hf
  cases e:l[k]? with
  | none=>rw [e]at hf;simp [cls0]at hf
  | some c'=>
    rw [e]at hf
    exact field_ok h (List.mem_of_getElem? e) hf
 have:=tie_chk h
 unfold checkL at this
 exact of_decide_eq_true (dem_zero this (by decide)).1
end Go.Proofs.YtcddpmappmjilaaGreatDoor
namespace Go.Proofs.YtcddpmappmjilaaGreatDoor
open Go.RowKit Go.Maps
def bm0:MethD:=((baseDL[0]?.getD cls0).meths[0]?).getD methZ
def begunB:Bool:=match statesD (linkD baseDL) (lnN baseDL) bm0 0 with
 | some s=>decide (s.S.length=3)&&((s.S[1]?).getD st0).comes&&decide (((s.S[1]?).getD st0).stack.length=1)
 | none=>false
theorem begun_ok:begunB=true:=by kernel_rfl
theorem bm0_code:Cd.full bm0.code=.ok [⟨0,1,7,0⟩,⟨3,31,0,0⟩,⟨4,27,0,0⟩]:=by kernel_rfl
theorem begun_st:∃s,statesD (linkD baseDL) (lnN baseDL) bm0 0=some s/\s.S.length=3/\∃h:1<s.S.length,s.S[1].comes=true/\s.S[1].stack.length=1:=by
 have h:=begun_ok
 unfold begunB at h
 split at h
 ·
  rename_i s hs
  rw [Bool.and_eq_true,Bool.and_eq_true,decide_eq_true_iff,decide_eq_true_iff]at h
  have h1:1<s.S.length:=by omega
  rw [List.getElem?_eq_getElem h1]at h
  exact ⟨s,hs,h.1.1,h1,h.1.2,h.2⟩
 cases h
theorem bm0_mem:∃c∈baseDL,bm0∈c.meths:=⟨_,List.mem_cons_self,List.mem_cons_self⟩
theorem base_run:∀l B P v n,Cd.full bm0.code=.ok l->n<l.length->RunOk ⟨linkD baseDL,lnN baseDL,bm0,l⟩ B P v (Cd.get4 l n):=fun l B P v n h hn=>by
 obtain ⟨c,hc,hm⟩:=bm0_mem
 have hw:=wf_link base_tie hc hm h
 rw [bm0_code]at h
 cases h
 have hn':n<3:=hn
 match n,hn' with
 | 0,_=>exact run_1 hw rfl (fun h=>absurd rfl h)
 | 1,_=>exact run_31 hw rfl (fun _=>Int.le_refl _)
 | 2,_=>exact run_27 hw rfl (fun _=>Int.le_refl _) (Nat.zero_le _)
theorem base_method (w:World) (B:Nat) (aC aS aF aN aT:Option Addr) (cC cS cF cN cT:Nat) (hk:RLk (· <B) w (.slice aC (linkD baseDL).classes.length cC) (.slice aS (linkD baseDL).supers.length cS) (.slice aF (linkD baseDL).fields.length cF) (.slice aN (linkD baseDL).names.length cN) (.slice aT (linkD baseDL).targets.length cT) (linkD baseDL)) (hB:B<=w.heap.size) (hg:GlK w) (hT:Cd.Tabs w):
 Calls Tryz.prog 66 #[.agg #[.slice aC (linkD baseDL).classes.length cC,.slice aS (linkD baseDL).supers.length cS,.slice aF (linkD baseDL).fields.length cF,.slice aN (linkD baseDL).names.length cN,.slice aT (linkD baseDL).targets.length cT],.int .i64 ((0:Nat):Int),.int .i64 ((0:Nat):Int)] w fun r w'=>MthOut (statesD (linkD baseDL) (lnN baseDL) bm0 0) r w w':=by
 obtain ⟨c,hc,hm⟩:=bm0_mem
 have mo:=meth_ok base_tie hc hm
 exact Method_any w B aC aS aF aN aT cC cS cF cN cT (linkD baseDL) hk hB hg hT (chk_link base_tie) (by decide) (lnN baseDL) 0 0 (by decide) (by decide) bm0 rfl (cls_link base_tie) mo.lc.2 mo.na mo.ga (fun l hl=>wf_link base_tie hc hm hl) base_run (fun l _ h hh=>by cases hh)
end Go.Proofs.YtcddpmappmjilaaGreatDoor
namespace Go.Proofs.YtcddpmappmjilaaGreatDoor
open Go.RowKit Go.Maps
structure BsV where
 b:Nat
 off:Nat
 bm:Nat
 om:Nat
 cm:Nat
 a0:Option Addr
 c0:Nat
 a1:Option Addr
 c1:Nat
 am:Option Addr
 c9:Nat
 a2:Option Addr
 c2:Nat
 a8:Option Addr
 c8:Nat
structure BsC (B:Nat) (w:World) (v:BsV):Prop where
 k0:w.cell? ⟨v.b,v.off,none⟩=some (.string ⟨#[79,98,106,101,99,116]⟩)
 k1:w.cell? ⟨v.b,v.off+1,none⟩=some (.string ⟨#[]⟩)
 k2:w.cell? ⟨v.b,v.off+2,none⟩=some (.slice v.a0 0 v.c0)
 k3:w.cell? ⟨v.b,v.off+3,none⟩=some (.slice (some ⟨v.bm,v.om,none⟩) 1 v.cm)
 k4:w.cell? ⟨v.b,v.off+4,none⟩=some (.string ⟨#[69,114,114,111,114]⟩)
 k5:w.cell? ⟨v.b,v.off+5,none⟩=some (.string ⟨#[79,98,106,101,99,116]⟩)
 k6:w.cell? ⟨v.b,v.off+6,none⟩=some (.slice v.a1 1 v.c1)
 k7:w.cell? ⟨v.b,v.off+7,none⟩=some (.slice v.am 0 v.c9)
 m0:w.cell? ⟨v.bm,v.om,none⟩=some (.string ⟨#[109,97,105,110]⟩)
 m1:w.cell? ⟨v.bm,v.om+1,none⟩=some (.bool true)
 m2:w.cell? ⟨v.bm,v.om+2,none⟩=some (.slice v.a2 0 v.c2)
 m3:w.cell? ⟨v.bm,v.om+3,none⟩=some (.int .i64 0)
 m4:w.cell? ⟨v.bm,v.om+4,none⟩=some (.string ⟨#[]⟩)
 m5:w.cell? ⟨v.bm,v.om+5,none⟩=some (.int .i64 2)
 m6:w.cell? ⟨v.bm,v.om+6,none⟩=some (.int .i64 0)
 m7:w.cell? ⟨v.bm,v.om+7,none⟩=some (.string ⟨#[1,0,7,31,27]⟩)
 m8:w.cell? ⟨v.bm,v.om+8,none⟩=some (.slice v.a8 0 v.c8)
 lb:v.b<B
 lm:v.bm<B
theorem BsC.below {B:Nat} {w w':World} {v:BsV} (h:BsC B w v) (hb:Below B w w'):BsC B w' v:=
 ⟨(hb.cell h.lb).trans h.k0,(hb.cell h.lb).trans h.k1,(hb.cell h.lb).trans h.k2,(hb.cell h.lb).trans h.k3,(hb.cell h.lb).trans h.k4,(hb.cell h.lb).trans h.k5,(hb.cell h.lb).trans h.k6,(hb.cell h.lb).trans h.k7,(hb.cell h.lm).trans h.m0,(hb.cell h.lm).trans h.m1,(hb.cell h.lm).trans h.m2,(hb.cell h.lm).trans h.m3,(hb.cell h.lm).trans h.m4,(hb.cell h.lm).trans h.m5,(hb.cell h.lm).trans h.m6,(hb.cell h.lm).trans h.m7,(hb.cell h.lm).trans h.m8,h.lb,h.lm⟩
theorem base_bsc {B:Nat} {w:World} {ao:Option Addr} {n cap:Nat} (h:SL 4 RC (· <B) w (.slice ao n cap) baseDL):∃v:BsV,ao=some ⟨v.b,v.off,none⟩/\BsC B w v:=by
 obtain ⟨b,off,cs,e,hM,hb,-,hc,vf,vm,rfl,hf,hm,-,-⟩:=h.at 0 (by decide)
 obtain ⟨b',off',cs',e',-,-,-,hc',vf',vm',rfl,hf',hm',-,-⟩:=h.at 1 (by decide)
 rw [e]at e'
 cases e'
 obtain ⟨a0,c0,rfl,-⟩:=hf
 obtain ⟨a1,c1,rfl,-⟩:=hf'
 obtain ⟨am,c9,rfl,-⟩:=hm'
 have hm0:=hm
 obtain ⟨aq,cm,rfl,-⟩:=hm
 obtain ⟨bm,om,cm',eq,hMm,-,-,hcm,va,vh,rfl,ha,hh,-,-,-⟩:=hm0.at 0 (by decide)
 cases eq
 obtain ⟨a2,c2,rfl,-⟩:=ha
 obtain ⟨a8,c8,rfl,-⟩:=hh
 refine ⟨⟨b,off,bm,om,cm,a0,c0,a1,c1,am,c9,a2,c2,a8,c8⟩,e,⟨by simpa [baseDL]using hc 0 (by decide),by simpa [baseDL]using hc 1 (by decide),by simpa [baseDL]using hc 2 (by decide),by simpa [baseDL]using hc 3 (by decide),by simpa [baseDL,Nat.add_assoc]using hc' 0 (by decide),by simpa [baseDL,Nat.add_assoc]using hc' 1 (by decide),by simpa [baseDL,Nat.add_assoc]using hc' 2 (by decide),by simpa [baseDL,Nat.add_assoc]using hc' 3 (by decide),by simpa [baseDL]using hcm 0 (by decide),by simpa [baseDL]using hcm 1 (by decide),by simpa [baseDL]using hcm 2 (by decide),by simpa [baseDL]using hcm 3 (by decide),by simpa [baseDL]using hcm 4 (by decide),by simpa [baseDL]using hcm 5 (by decide),by simpa [baseDL]using hcm 6 (by decide),by simpa [baseDL]using hcm 7 (by decide),by simpa [baseDL]using hcm 8 (by decide),hM,hMm⟩⟩
abbrev mtC (a2:Option Addr) (c2:Nat) (a8:Option Addr) (c8 gI cI:Nat) (vS:Value):Array Value:=#[.string ⟨#[109,97,105,110]⟩,.bool true,.slice a2 0 c2,.int .i64 0,.string ⟨#[]⟩,.int .i64 2,.int .i64 0,.string ⟨#[1,0,7,31,27]⟩,.slice a8 0 c8,.slice (some ⟨gI,0,none⟩) 3 cI,vS]
theorem look_meth:∃bd:LinkD,bd=linkD baseDL/\∀(w:World) (B:Nat) (aC aS aF aN aT:Option Addr) (cC cS cF cN cT:Nat),RLk (· <B) w (.slice aC bd.classes.length cC) (.slice aS bd.supers.length cS) (.slice aF bd.fields.length cF) (.slice aN bd.names.length cN) (.slice aT bd.targets.length cT) bd->B<=w.heap.size->GlK w->Cd.Tabs w->Calls Tryz.prog 66 #[.agg #[.slice aC bd.classes.length cC,.slice aS bd.supers.length cS,.slice aF bd.fields.length cF,.slice aN bd.names.length cN,.slice aT bd.targets.length cT],.int .i64 0,.int .i64 0] w fun r w'=>Below w.heap.size w w'/\∃a n c,r=.returned (.tuple #[.slice a n c,.agg #[.int .i64 0,.int .i64 0]]):=by
 obtain ⟨s,hs0,-⟩:=begun_st
 refine ⟨_,rfl,fun W B aC aS aF aN aT cC cS cF cN cT hk hB hgW hTW=>(base_method W B aC aS aF aN aT cC cS cF cN cT hk hB hgW hTW).mono ?_⟩
 rintro r w' ⟨hb,⟨s',v,e,h1,h2⟩ | ⟨e,-⟩⟩
 ·
  obtain ⟨a,c,rfl,-⟩:=h2
  exact ⟨hb,a,_,c,h1⟩
 rw [hs0]at e
 cases e
set_option maxRecDepth 100000 in
set_option maxHeartbeats 4000000 in
theorem lookAt_any (w:World) (B:Nat) (kC kS kF kN kT:Value) (hk:RLk (· <B) w kC kS kF kN kT (linkD baseDL)) (hB:B<=w.heap.size) (hg:GlK w) (hT:Cd.Tabs w):
 Calls Tryz.prog 43 #[.agg #[kC,kS,kF,kN,kT],.int .i64 0,.int .i64 0] w fun r w'=>(∃X gI cI a2 c2 a8 c8 vS,r=.returned (.pointer (some ⟨X,0,none⟩))/\w.heap.size<=X/\w'.heap[X]? =some (.cells (mtC a2 c2 a8 c8 gI cI vS) 117 (0,0))/\Cd.Has w' gI 0 opsB/\w.heap.size<=gI/\gI<w'.heap.size)/\Below w.heap.size w w':=by
 obtain ⟨bd,hbd,hmt⟩:=look_meth
 have hC:=hk.C
 rw [<-hbd]at hk
 obtain ⟨aC,cC,aS,cS,aF,cF,aN,cN,aT,cT,rfl,rfl,rfl,rfl,rfl⟩:=hk.agg
 obtain ⟨v,rfl,hbs⟩:=base_bsc hC
 obtain ⟨b,off,bm,om,cm,a0,c0,a1,c1,am,c9,a2,c2,a8,c8⟩:=v
 have hlC:bd.classes.length=2:=by rw [hbd];rfl
 rw [hlC]at hmt hk ⊢
 have HMT:=mkHid hmt
 have HBS:=mkHid hbs
 have HG:=mkHid hg
 have HT:=mkHid hT
 obtain ⟨W0,hW0,hB0,hs0,k0⟩:=boxes1 w #[.slice (some ⟨b,off,none⟩) 2 cC,.slice aS bd.supers.length cS,.slice aF bd.fields.length cF,.slice aN bd.names.length cN,.slice aT bd.targets.length cT] 28
 have HB0:=mkHid hB0
 have HW0:=mkHid hW0
 have HK0:=mkHid k0
 have HK:=mkHid (hk.kept (Kp.below (hB0.mono hB)))
 clear hC hbs hg hT hmt hB0 hW0 k0 hs0 hk hbd
 go_enter Tryz.func43,Tryz.ntmps43
 go_wp2_with fail
 rw [<-HW0.out]
 refine (HMT.out W0 B _ _ _ _ _ _ _ _ _ _ HK.out (Nat.le_trans hB HB0.out.size) (HG.out.below HB0.out) (HT.out.below HB0.out)).mono ?_
 rintro r w1 ⟨hb1,aV,nV,cV,rfl⟩
 obtain ⟨W1,hW1,hB1,hs1,k1⟩:=boxes1 w1 #[.int .i64 0,.int .i64 0] 50
 have HB1:Hid (Below w.heap.size w W1):=HB0.out.trans ((hb1.trans (hB1.mono hb1.size)).mono HB0.out.size)
 have HW1:=mkHid hW1
 have kk:W1.heap[w.heap.size]? =_:=((hB1.block _ (Nat.lt_of_lt_of_le (lt_of HK0.out) hb1.size)).trans (hb1.block _ (lt_of HK0.out))).trans HK0.out
 have l0:=lt_of kk
 have x0:=cell_of kk 0 (x:=.slice (some ⟨b,off,none⟩) 2 cC) rfl
 have bs:=HBS.out.below (HB1.out.mono hB)
 have z0:=cell_of k1 0 (x:=.int .i64 0) rfl
 have z3:W1.cell? ⟨b,off+3,none⟩=some (.slice (some ⟨bm,om,none⟩) 1 cm):=bs.k3
 have y0:W1.cell? ⟨bm,om,none⟩=some (.string ⟨#[109,97,105,110]⟩):=bs.m0
 have y1:W1.cell? ⟨bm,om+1,none⟩=some (.bool true):=bs.m1
 have y2:W1.cell? ⟨bm,om+2,none⟩=some (.slice a2 0 c2):=bs.m2
 have y3:W1.cell? ⟨bm,om+3,none⟩=some (.int .i64 0):=bs.m3
 have y4:W1.cell? ⟨bm,om+4,none⟩=some (.string ⟨#[]⟩):=bs.m4
 have y5:W1.cell? ⟨bm,om+5,none⟩=some (.int .i64 2):=bs.m5
 have y6:W1.cell? ⟨bm,om+6,none⟩=some (.int .i64 0):=bs.m6
 have y7:W1.cell? ⟨bm,om+7,none⟩=some (.string ⟨#[1,0,7,31,27]⟩):=bs.m7
 have y8:W1.cell? ⟨bm,om+8,none⟩=some (.slice a8 0 c8):=bs.m8
 have lb:=bs.lb
 have lm:=bs.lm
 have s1:=HB1.out.size
 have lF:w1.heap.size<W1.heap.size:=lt_of k1
 obtain ⟨W2,hW2,hB2,hs2,k2⟩:=boxes1 W1 #[.string ⟨#[109,97,105,110]⟩,.bool true,.slice a2 0 c2,.int .i64 0,.string ⟨#[]⟩,.int .i64 2,.int .i64 0,.string ⟨#[1,0,7,31,27]⟩,.slice a8 0 c8] 83
 have HB2:Hid (Below w.heap.size w W2):=HB1.out.trans (hB2.mono HB1.out.size)
 have HW2:=mkHid hW2
 have HK2:=mkHid k2
 have HD:=mkHid (Cd.Decode_any W2 ⟨#[1,0,7,31,27]⟩ (HT.out.below HB2.out) (by decide))
 clear hb1 hW1 hW2 hB1 hB2 k1 bs kk k2 HMT HK
 go_wp2_with fail
 rw [<-HW1.out]
 refine (demand_any _ _ _).mono ?_
 rintro r w3 ⟨rfl,⟨hb,rfl⟩ | ⟨hb,rfl⟩⟩
 ·
  exact absurd hb (by simp)
 clear hb
 rw [hs1]at HK2
 go_wp2_with fail
 rw [<-HW2.out]
 refine HD.out.mono ?_
 have hcd:Cd.full ⟨#[1,0,7,31,27]⟩=.ok opsB:=bm0_code
 rintro r w4 ⟨hb4,⟨l,vI,hl,-,rfl,ho⟩ | ⟨e,p,he,-⟩⟩
 rotate_left
 ·
  rw [hcd]at he
  cases he
 rw [hcd]at hl
 cases hl
 obtain ⟨gI,cI,rfl⟩:∃gI cI,vI=.slice (some ⟨gI,0,none⟩) 3 cI:=by
  rcases ho.2 with ⟨-,h0⟩ | ⟨g,cap,cur,e,-⟩
  ·
   cases h0
  exact ⟨g,cap,e⟩
 have lI:=ho.lt gI rfl
 have hh:=(own_has (l:=opsB) ho).1
 have HB4:Hid (Below w.heap.size w w4):=HB2.out.trans (hb4.mono HB2.out.size)
 have k4:=(hb4.block _ (lt_of HK2.out)).trans HK2.out
 have l4:=lt_of k4
 obtain ⟨W5,hW5,hB5,hs5,-⟩:=boxes1 w4 #[.int .i64 0,.int .i64 0] 50
 have p0:=cell_of k4 0 (x:=.string ⟨#[109,97,105,110]⟩) rfl
 have p1:=cell_of k4 1 (x:=.bool true) rfl
 have p2:=cell_of k4 2 (x:=.slice a2 0 c2) rfl
 have p3:=cell_of k4 3 (x:=.int .i64 0) rfl
 have p4:=cell_of k4 4 (x:=.string ⟨#[]⟩) rfl
 have p5:=cell_of k4 5 (x:=.int .i64 2) rfl
 have p6:=cell_of k4 6 (x:=.int .i64 0) rfl
 have p7:=cell_of k4 7 (x:=.string ⟨#[1,0,7,31,27]⟩) rfl
 have p8:=cell_of k4 8 (x:=.slice a8 0 c8) rfl
 obtain ⟨W6,hW6,hB6,hs6,k6⟩:=boxes1 W5 #[.string ⟨#[109,97,105,110]⟩,.bool true,.slice a2 0 c2,.int .i64 0,.string ⟨#[]⟩,.int .i64 2,.int .i64 0,.string ⟨#[1,0,7,31,27]⟩,.slice a8 0 c8,.slice (some ⟨gI,0,none⟩) 3 cI,.slice aV nV cV] 117
 rw [hs5]at k6
 have HW5:=mkHid hW5
 have HW6:=mkHid hW6
 have HB6:Hid (Below w4.heap.size w4 W6):=hB5.trans (hB6.mono hB5.size)
 have HK6:=mkHid k6
 have HHH:=mkHid (hh.below HB6.out lI.2)
 have s2:=HB2.out.size
 clear ho hh hb4 k4 k6 hW5 hW6 hB5 hB6 HW2 HD
 go_wp2_with fail
 rw [<-HW5.out,<-HW6.out]
 go_ret
 exact ⟨⟨w4.heap.size+1,gI,cI,a2,c2,a8,c8,_,rfl,by have:=HB4.out.size;omega,HK6.out,HHH.out,by omega,Nat.lt_of_lt_of_le lI.2 HB6.out.size⟩,HB4.out.trans (HB6.out.mono HB4.out.size)⟩
end Go.Proofs.YtcddpmappmjilaaGreatDoor
namespace Go.Proofs.YtcddpmappmjilaaGreatDoor
open Go.RowKit Go.Maps
theorem Tryz.infoMt:(Tryz.prog.info? 73).map (fun i=>(i.zero,i.size,i.bytes))=some (some (.pointer none),1,8):=by kernel_rfl
theorem Tryz.infoMs:(Tryz.prog.info? 109).map (fun i=>(i.zero,i.size,i.bytes))=some (some (.slice none 0 0),1,24):=by kernel_rfl
theorem has_same {w w':World} {b off:Nat} {l:List Cd.Op4} (h:Cd.Has w b off l) (e:w'.heap[b]? =w.heap[b]?):Cd.Has w' b off l:=
 ⟨fun k hk=>(World.cell?_of_block (a:=⟨b,_,none⟩) e).trans (h.c0 k hk),fun k hk=>(World.cell?_of_block (a:=⟨b,_,none⟩) e).trans (h.c1 k hk),fun k hk=>(World.cell?_of_block (a:=⟨b,_,none⟩) e).trans (h.c2 k hk),fun k hk=>(World.cell?_of_block (a:=⟨b,_,none⟩) e).trans (h.c3 k hk),by
  obtain ⟨x,hx⟩:∃x,w.heap[b]? =some x:=⟨_,Array.getElem?_eq_getElem h.lt⟩
  exact lt_of (e.trans hx)⟩
structure LaX (w:World) (R gP cP X gI cI:Nat) (a2:Option Addr) (c2:Nat) (a8:Option Addr) (c8:Nat) (vS:Value):Prop where
 rR:w.heap[R]? =some (.cells #[.slice (some ⟨gP,0,none⟩) 1 cP,.slice none 0 0] 109 (0,0))
 pP:w.cell? ⟨gP,0,none⟩=some (.pointer (some ⟨X,0,none⟩))
 xX:w.heap[X]? =some (.cells (mtC a2 c2 a8 c8 gI cI vS) 117 (0,0))
 hh:Cd.Has w gI 0 opsB
 lI:gI<w.heap.size
theorem LaX.below {w w':World} {R gP cP X gI cI:Nat} {a2:Option Addr} {c2:Nat} {a8:Option Addr} {c8:Nat} {vS:Value} (h:LaX w R gP cP X gI cI a2 c2 a8 c8 vS) (hb:Below w.heap.size w w'):LaX w' R gP cP X gI cI a2 c2 a8 c8 vS:=
 ⟨(hb.block _ (lt_of h.rR)).trans h.rR,(hb.cell (World.block_lt_of_cell? w _ h.pP)).trans h.pP,(hb.block _ (lt_of h.xX)).trans h.xX,h.hh.below hb h.lI,Nat.lt_of_lt_of_le h.lI hb.size⟩
def LaS (w:World) (R k:Nat):Prop:=(k=0/\w.heap[R]? =some (.cells #[.slice none 0 0,.slice none 0 0] 109 (0,0)))\/(0<k/\∃gP cP X gI cI a2 c2 a8 c8 vS,LaX w R gP cP X gI cI a2 c2 a8 c8 vS)
theorem LaS.below {w w':World} {R k:Nat} (h:LaS w R k) (hb:Below w.heap.size w w'):LaS w' R k:=by
 rcases h with ⟨h1,h2⟩ | ⟨h1,gP,cP,X,gI,cI,a2,c2,a8,c8,vS,h2⟩
 ·
  exact Or.inl ⟨h1,(hb.block _ (lt_of h2)).trans h2⟩
 exact Or.inr ⟨h1,gP,cP,X,gI,cI,a2,c2,a8,c8,vS,h2.below hb⟩
set_option maxRecDepth 100000 in
set_option maxHeartbeats 4000000 in
theorem lookAll_any (w:World) (B:Nat) (kC kS kF kN kT:Value) (hk:RLk (· <B) w kC kS kF kN kT (linkD baseDL)) (hB:B<=w.heap.size) (hg:GlK w) (hT:Cd.Tabs w):
 Calls Tryz.prog 26 #[.agg #[kC,kS,kF,kN,kT]] w fun r w'=>(∃R gP cP X gI cI a2 c2 a8 c8 vS,r=.returned (.slice (some ⟨R,0,none⟩) 2 2)/\LaX w' R gP cP X gI cI a2 c2 a8 c8 vS)/\Below w.heap.size w w':=by
 obtain ⟨iM,hiM,hzM0,hzM1,hzM2⟩:=info_parts Tryz.infoMt
 obtain ⟨iS,hiS,hzS0,hzS1,hzS2⟩:=info_parts Tryz.infoMs
 have rI:∀V,(Instr.makeSlice 71 (.int .i64 2) (.int .i64 2)).run Tryz.prog V=.ok (.slice (some ⟨V.heap.size,0,none⟩) 2 2) (V.alloc (.cells #[.slice none 0 0,.slice none 0 0] 109)):=fun V=>by
  have:=run_makeSlice (P:=Tryz.prog) V 71 109 iS (.slice none 0 0) Tryz.underlying71 hiS hzS0 .i64 .i64 2 2 (by omega) (by omega) (by rw [hzS1];simp) (by rw [hzS2];omega) (by omega)
  rw [hzS1,show madeCells (Value.slice none 0 0).cells (Int.toNat 2*1)=#[.slice none 0 0,.slice none 0 0] from by kernel_rfl]at this
  simpa using this
 have HLA:Hid (∀V,Below w.heap.size w V->Calls Tryz.prog 43 #[.agg #[kC,kS,kF,kN,kT],.int .i64 0,.int .i64 0] V fun r w'=>(∃X gI cI a2 c2 a8 c8 vS,r=.returned (.pointer (some ⟨X,0,none⟩))/\V.heap.size<=X/\w'.heap[X]? =some (.cells (mtC a2 c2 a8 c8 gI cI vS) 117 (0,0))/\Cd.Has w' gI 0 opsB/\V.heap.size<=gI/\gI<w'.heap.size)/\Below V.heap.size V w'):=fun V hV=>lookAt_any V B _ _ _ _ _ (hk.kept (Kp.below (hV.mono hB))) (Nat.le_trans hB hV.size) (hg.below hV) (hT.below hV)
 obtain ⟨bd,hbd⟩:∃bd,bd=linkD baseDL:=⟨_,rfl⟩
 have hC:=hk.C
 rw [<-hbd]at hk
 obtain ⟨aC,cC,aS,cS,aF,cF,aN,cN,aT,cT,rfl,rfl,rfl,rfl,rfl⟩:=hk.agg
 obtain ⟨v,rfl,hbs⟩:=base_bsc hC
 obtain ⟨b,off,bm,om,cm,a0,c0,a1,c1,am,c9,a2,c2,a8,c8⟩:=v
 have hlC:bd.classes.length=2:=by rw [hbd];rfl
 rw [hlC]at HLA ⊢
 have HBS:Hid (∀V,Below w.heap.size w V->BsC B V _):=fun V hV=>hbs.below (hV.mono hB)
 obtain ⟨W0,hW0,hB0,hs0,k0⟩:=boxes1 w #[.slice (some ⟨b,off,none⟩) 2 cC,.slice aS bd.supers.length cS,.slice aF bd.fields.length cF,.slice aN bd.names.length cN,.slice aT bd.targets.length cT] 28
 obtain ⟨W1,hW1,hB1,hs1,k1⟩:=boxes1 W0 #[.slice none 0 0,.slice none 0 0] 109
 rw [hs0]at k1
 have HB1:Hid (Below w.heap.size w W1):=hB0.trans (hB1.mono hB0.size)
 have HK1:Hid (W1.heap[w.heap.size]? =_):=(hB1.block _ (lt_of k0)).trans k0
 have HR1:=mkHid k1
 have HW0:=mkHid hW0
 have HW1:=mkHid hW1
 have x0:=cell_of HK1.out 0 (x:=.slice (some ⟨b,off,none⟩) 2 cC) rfl
 have hsz:W1.heap.size=w.heap.size+2:=by omega
 clear hC hbs hg hT hB0 hB1 hW0 hW1 k0 k1 hs0 hs1 hk hbd hlC
 go_enter Tryz.func26,Tryz.ntmps26
 go_wp2_with (rw [rI])
 rw [<-HW0.out,<-HW1.out]
 go_loopw [14] (fun i wr=>∃k:Nat,k<=2/\i=.int .i64 k/\Hid (Below w.heap.size w wr/\wr.heap[w.heap.size]? =some (.cells #[.slice (some ⟨b,off,none⟩) 2 cC,.slice aS bd.supers.length cS,.slice aF bd.fields.length cF,.slice aN bd.names.length cN,.slice aT bd.targets.length cT] 28 (0,0))/\LaS wr (w.heap.size+1) k)) (fun i _=>2 - (intOf i).toNat)
 case atStart=>exact ⟨0,Nat.zero_le _,rfl,⟨HB1.out,HK1.out,Or.inl ⟨rfl,HR1.out⟩⟩⟩
 case round=>
  rename World=>wr
  obtain ⟨k,hk2,rfl,HR⟩:=hrel
  have hsr:=HR.out.1.size
  have lK:=lt_of HR.out.2.1
  have bs:=HBS.out wr HR.out.1
  clear x0
  match k,hk2 with
  | 2,_=>
    go_wp2_with fail
    go_ret
    rcases HR.out.2.2 with ⟨h,-⟩ | ⟨-,gP,cP,X,gI,cI,a2,c2,a8,c8,vS,h2⟩
    ·
     cases h
    exact ⟨⟨_,gP,cP,X,gI,cI,a2,c2,a8,c8,vS,rfl,h2⟩,HR.out.1⟩
  | 1,_=>
    have y0:wr.cell? ⟨b,off+4,none⟩=some (.string ⟨#[69,114,114,111,114]⟩):=bs.k4
    have y1:wr.cell? ⟨b,off+5,none⟩=some (.string ⟨#[79,98,106,101,99,116]⟩):=bs.k5
    have y2:wr.cell? ⟨b,off+6,none⟩=some (.slice a1 1 c1):=bs.k6
    have y3:wr.cell? ⟨b,off+7,none⟩=some (.slice am 0 c9):=bs.k7
    have lb:=bs.lb
    obtain ⟨W2,hW2,hB2,hs2,k2⟩:=boxes1 wr #[.string ⟨#[69,114,114,111,114]⟩,.string ⟨#[79,98,106,101,99,116]⟩,.slice a1 1 c1,.slice am 0 c9] 63
    have HW2:=mkHid hW2
    have HR2:Hid (Below w.heap.size w W2/\W2.heap[w.heap.size]? =some (.cells #[.slice (some ⟨b,off,none⟩) 2 cC,.slice aS bd.supers.length cS,.slice aF bd.fields.length cF,.slice aN bd.names.length cN,.slice aT bd.targets.length cT] 28 (0,0))/\LaS W2 (w.heap.size+1) 2):=⟨HR.out.1.trans (hB2.mono hsr),(hB2.block _ lK).trans HR.out.2.1,by
     rcases HR.out.2.2 with ⟨h,-⟩ | ⟨-,h⟩
     ·
      cases h
     exact LaS.below (Or.inr ⟨by decide,h⟩) hB2⟩
    clear bs hB2 k2 hW2
    go_wp2_with fail
    rw [<-HW2.out]
    go_loopw [22] (fun i wq=>i=.int .i64 0/\wq=W2) (fun _ _=>0)
    case atStart=>exact ⟨rfl,rfl⟩
    case round=>
     rename World=>wq
     obtain ⟨rfl,rfl⟩:=hrel
     go_wp2_with fail
     go_roundw
     case rel=>exact ⟨2,Nat.le_refl _,rfl,HR2.out⟩
     case measure=>simp [intOf]
  | 0,_=>
    have y0:wr.cell? ⟨b,off,none⟩=some (.string ⟨#[79,98,106,101,99,116]⟩):=bs.k0
    have y1:wr.cell? ⟨b,off+1,none⟩=some (.string ⟨#[]⟩):=bs.k1
    have y2:wr.cell? ⟨b,off+2,none⟩=some (.slice a0 0 c0):=bs.k2
    have y3:wr.cell? ⟨b,off+3,none⟩=some (.slice (some ⟨bm,om,none⟩) 1 cm):=bs.k3
    have lb:=bs.lb
    obtain ⟨W2,hW2,hB2,hs2,k2⟩:=boxes1 wr #[.string ⟨#[79,98,106,101,99,116]⟩,.string ⟨#[]⟩,.slice a0 0 c0,.slice (some ⟨bm,om,none⟩) 1 cm] 63
    have HW2:=mkHid hW2
    have HR2:Hid (Below w.heap.size w W2/\W2.heap[w.heap.size]? =some (.cells #[.slice (some ⟨b,off,none⟩) 2 cC,.slice aS bd.supers.length cS,.slice aF bd.fields.length cF,.slice aN bd.names.length cN,.slice aT bd.targets.length cT] 28 (0,0))/\LaS W2 (w.heap.size+1) 0):=⟨HR.out.1.trans (hB2.mono hsr),(hB2.block _ lK).trans HR.out.2.1,HR.out.2.2.below hB2⟩
    clear bs hB2 k2 hW2
    go_wp2_with fail
    rw [<-HW2.out]
    go_loopw [22] (fun i wq=>∃j:Nat,j<=1/\i=.int .i64 j/\Hid (Below w.heap.size w wq/\wq.heap[w.heap.size]? =some (.cells #[.slice (some ⟨b,off,none⟩) 2 cC,.slice aS bd.supers.length cS,.slice aF bd.fields.length cF,.slice aN bd.names.length cN,.slice aT bd.targets.length cT] 28 (0,0))/\LaS wq (w.heap.size+1) j)) (fun i _=>1 - (intOf i).toNat)
    case atStart=>exact ⟨0,Nat.zero_le _,rfl,HR2.out⟩
    case round=>
     rename World=>wq
     obtain ⟨j,hj,rfl,HQ⟩:=hrel
     clear y0 y1 y2 y3 lb
     match j,hj with
     | 1,_=>
       go_wp2_with fail
       go_roundw
       case rel=>exact ⟨1,by decide,rfl,HQ.out⟩
       case measure=>simp [intOf]
     | 0,_=>
       obtain ⟨-,hrow⟩ | ⟨h,-⟩:=HQ.out.2.2
       rotate_left
       ·
        cases h
       have HRW:=mkHid hrow
       have kk:=HQ.out.2.1
       have q0:=cell_of kk 0 (x:=.slice (some ⟨b,off,none⟩) 2 cC) rfl
       have q1:=cell_of kk 1 (x:=.slice aS bd.supers.length cS) rfl
       have q2:=cell_of kk 2 (x:=.slice aF bd.fields.length cF) rfl
       have q3:=cell_of kk 3 (x:=.slice aN bd.names.length cN) rfl
       have q4:=cell_of kk 4 (x:=.slice aT bd.targets.length cT) rfl
       have r0:=cell_of hrow 0 (x:=.slice none 0 0) rfl
       have lR:=lt_of hrow
       have lK':=lt_of kk
       clear hrow kk
       go_wp2_with fail
       refine wp_region_til (fun W'=>∀p:Addr,p.block<wq.heap.size->W'.cell? p=wq.cell? p) 13 (by kernel_rfl) (fun p hp=>rfl) fun hH=>?_
       refine til_pure 0 (.slice (some ⟨w.heap.size+1,0,none⟩) 2 2) rfl (by kernel_rfl) (by kernel_rfl) (fun _ _ _ h=>h) ?_ hH ?_
       ·
        intro w
        go_simp
       refine til_pure 1 (.int .i64 0) rfl (by kernel_rfl) (by kernel_rfl) (fun _ _ _ h=>h) ?_ hH ?_
       ·
        intro w
        go_simp
       refine til_pure 2 (.slice (some ⟨w.heap.size+1,0,none⟩) 2 2) rfl (by kernel_rfl) (by kernel_rfl) (fun _ _ _ h=>h) ?_ hH ?_
       ·
        intro w
        go_simp
       refine til_pure 3 (.int .i64 0) rfl (by kernel_rfl) (by kernel_rfl) (fun _ _ _ h=>h) ?_ hH ?_
       ·
        intro w
        go_simp
       refine til_pure 4 (.pointer (some ⟨w.heap.size+1,0,none⟩)) rfl (by kernel_rfl) (by kernel_rfl) (fun _ _ _ h=>h) ?_ hH ?_
       ·
        intro w
        go_simp
       refine til_take 5 (.slice none 0 0) rfl (by kernel_rfl) (by kernel_rfl) (by kernel_rfl) (fun _ _ _ h=>h) ?_ hH ?_
       ·
        intro w hSw;go_simp
       refine til_take 6 (.agg #[.slice (some ⟨b,off,none⟩) 2 cC,.slice aS bd.supers.length cS,.slice aF bd.fields.length cF,.slice aN bd.names.length cN,.slice aT bd.targets.length cT]) rfl (by kernel_rfl) (by kernel_rfl) (by kernel_rfl) (fun _ _ _ h=>h) ?_ hH ?_
       ·
        intro w hSw;go_simp
       refine til_pure 7 (.int .i64 0) rfl (by kernel_rfl) (by kernel_rfl) (fun _ _ _ h=>h) ?_ hH ?_
       ·
        intro w
        go_simp
       refine til_pure 8 (.int .i64 0) rfl (by kernel_rfl) (by kernel_rfl) (fun _ _ _ h=>h) ?_ hH ?_
       ·
        intro w
        go_simp
       refine til_ready (rs:=[9]) (by kernel_rfl) (by simp) ?_
       refine TilR.cons rfl (fun K9 hK9=>?_) TilR.nil
       go_simp
       refine (HLA.out _ (HQ.out.1.trans ((Below.refl _ _).drew.mono HQ.out.1.size))).mono ?_
       rintro r u1 ⟨⟨X,gI,cI,a2,c2,a8,c8,vS,rfl,hX1,hX2,hX3,hX4,hX5⟩,hb1⟩
       have HU1:Hid (Below wq.heap.size wq u1):=(Below.refl _ _).drew.trans hb1
       have HX2:=mkHid hX2
       have HX3:=mkHid hX3
       refine hK9.out _ _ (fun _ _ p hp=>HU1.out.cell hp) ?_
       replace hH:∀p:Addr,p.block<wq.heap.size->u1.cell? p=wq.cell? p:=fun p hp=>HU1.out.cell hp
       clear hb1 hX2 hX3
       refine til_ready (rs:=[10]) (by kernel_rfl) (by simp) ?_
       refine TilR.cons rfl (fun K10 hK10=>?_) TilR.nil
       go_simp
       obtain ⟨u6,hu6,hB6,hs6,hb6⟩:=boxes1 u1 #[.pointer (some ⟨X,0,none⟩)] 73
       rw [<-hu6]
       have HB6:=mkHid hB6
       have HU6:Hid (Below wq.heap.size wq u6):=HU1.out.trans (HB6.out.mono HU1.out.size)
       have HY:=mkHid hb6
       refine hK10.out _ _ (fun _ _ p hp=>HU6.out.cell hp) ?_
       replace hH:∀p:Addr,p.block<wq.heap.size->u6.cell? p=wq.cell? p:=fun p hp=>HU6.out.cell hp
       clear hu6 hB6 hs6 hb6
       refine til_ready (rs:=[11]) (by kernel_rfl) (by simp) ?_
       refine TilR.cons rfl (fun K11 hK11=>?_) TilR.nil
       refine stp_append_nil u6 rfl (.tmp 30) (.tmp 35) 109 rfl 73 iM _ 1 8 Tryz.underlying109 hiM hzM0 hzM1 hzM2 rfl (by decide) (by go_simp) u1.heap.size 1 _ _ rfl (fun u hu=>by simp at hu;rw [hu];rfl) (by go_simp) HY.out (by decide) ?_
       intro cP u7 ho7 hb7 hl7
       have HO7:=mkHid ho7
       have HB7:=mkHid hb7
       have HU7:Hid (Below wq.heap.size wq u7):=HU6.out.trans (hb7.mono HU6.out.size)
       refine hK11.out _ _ (fun _ _ p hp=>HU7.out.cell hp) ?_
       replace hH:∀p:Addr,p.block<wq.heap.size->u7.cell? p=wq.cell? p:=fun p hp=>HU7.out.cell hp
       have z0:=(HU7.out.cell (p:=⟨w.heap.size+1,0,none⟩) lR).trans r0
       have zf:=frz_of ((HU7.out.block _ lR).trans HRW.out)
       clear ho7 hb7 hl7
       refine til_pure 12 (.pointer (some ⟨w.heap.size+1,0,none⟩)) rfl (by kernel_rfl) (by kernel_rfl) (fun _ _ _ h=>h) ?_ hH ?_
       ·
        intro w
        go_simp
       refine til_ready (rs:=[13]) (by kernel_rfl) (by simp) ?_
       refine TilR.cons rfl (fun K13 hK13=>?_) TilR.nil
       go_simp
       refine hK13.out _ _ (fun h=>absurd rfl h) ?_
       refine til_done (by kernel_rfl) ?_ _
       clear hH
       try simp only [Act.put,List.setIfInBounds_toArray,List.set_cons_zero,List.set_cons_succ,List.getElem_toArray,List.getElem_cons_zero,List.getElem_cons_succ]
       go_wp2_with fail
       go_roundw
       case rel=>
        obtain ⟨-,⟨h1,-⟩ | ⟨gq,cq,cu,h1,h2,h3,h4,-,h5,h6⟩⟩:=HO7.out
        ·
         cases h1
        cases h1
        have e0:cu[0]? =some (.pointer (some ⟨X,0,none⟩)):=by
         have:=congrArg (fun l=>l[0]?) h6
         simpa using this
        have n1:=HU1.out.size
        have n6:=HU6.out.size
        have n7:=HU7.out.size
        have nX:wq.heap.size<=X:=hX1
        have nI:wq.heap.size<=gI:=hX4
        have b67:Below u1.heap.size u1 u7:=HB6.out.trans (HB7.out.mono HB6.out.size)
        refine ⟨1,Nat.le_refl _,rfl,(HQ.out.1.trans (HU7.out.mono HQ.out.1.size)).setCell (Nat.le_succ _) _,(Below.heap_setCell _ _ _ _ (by show w.heap.size≠w.heap.size+1;omega)).trans ((HU7.out.block _ lK').trans HQ.out.2.1),Or.inr ⟨by decide,u6.heap.size,cP,X,gI,cI,a2,c2,a8,c8,vS,heap_setR ((HU7.out.block _ lR).trans HRW.out) _,cell_of ((Below.heap_setCell _ _ _ _ (by show u6.heap.size≠w.heap.size+1;omega)).trans h3) 0 e0,(Below.heap_setCell _ _ _ _ (by show X≠w.heap.size+1;omega)).trans ((b67.block _ (lt_of HX2.out)).trans HX2.out),has_same (HX3.out.below b67 hX5) (Below.heap_setCell _ _ _ _ (by show gI≠w.heap.size+1;omega)),?_⟩⟩
        have:=b67.size
        simp only [World.setCell,Array.size_modify]
        omega
       case measure=>simp [intOf]
end Go.Proofs.YtcddpmappmjilaaGreatDoor
namespace Go.Proofs.YtcddpmappmjilaaGreatDoor
open Go.RowKit Go.Maps
theorem callMain1 (args:Array Value) (w:World):(callFunc 46 args).run Tryz.prog w=.ok (.enter 46 args) w:=by kernel_rfl
set_option maxHeartbeats 1000000 in
theorem isMain_any (w:World) (X gI cI:Nat) (a2:Option Addr) (c2:Nat) (a8:Option Addr) (c8:Nat) (vS:Value) (hX:w.heap[X]? =some (.cells (mtC a2 c2 a8 c8 gI cI vS) 117 (0,0))):
 Calls Tryz.prog 46 #[.pointer (some ⟨X,0,none⟩)] w fun r w'=>r=.returned (.bool true)/\w'=w:=by
 have x0:=cell_of hX 0 (x:=.string ⟨#[109,97,105,110]⟩) rfl
 have x1:=cell_of hX 1 (x:=.bool true) rfl
 have x2:=cell_of hX 2 (x:=.slice a2 0 c2) rfl
 have x3:=cell_of hX 3 (x:=.int .i64 0) rfl
 clear hX
 go_enter Tryz.func46,Tryz.ntmps46
 go_wp2_with fail
 go_ret
 exact ⟨rfl,rfl⟩
set_option maxRecDepth 100000 in
set_option maxHeartbeats 1000000 in
theorem ixM_any (w:World) (gS cS X:Nat) (hS:w.cell? ⟨gS,0,none⟩=some (.pointer (some ⟨X,0,none⟩))) (hc:∀V,Below w.heap.size w V->Calls Tryz.prog 46 #[.pointer (some ⟨X,0,none⟩)] V fun r w'=>r=.returned (.bool true)/\w'=V):
 Calls Tryz.prog 45 #[.slice (some ⟨gS,0,none⟩) 1 cS,.func (.func 46) #[] #[]] w fun r w'=>r=.returned (.int .i64 0)/\w'=w:=by
 have HC:=mkHid hc
 have hcf:=callMain1
 have lS:gS<w.heap.size:=World.block_lt_of_cell? w _ hS
 clear hc
 go_enter Tryz.func45,Tryz.ntmps45
 go_wp2_with fail
 go_loopw [8] (fun i wr=>i=.int .i64 0/\wr=w) (fun _ _=>0)
 case atStart=>exact ⟨rfl,rfl⟩
 case round=>
  rename World=>wr
  obtain ⟨rfl,rfl⟩:=hrel
  have HCR:=mkHid (HC.out wr (Below.refl _ _))
  go_wp2_with fail
  refine HCR.out.mono ?_
  rintro r w1 ⟨rfl,rfl⟩
  go_wp2_with fail
  go_ret
  exact ⟨rfl,rfl⟩
set_option maxRecDepth 100000 in
set_option maxHeartbeats 2000000 in
theorem findMain_any (w:World) (B:Nat) (kC kS kF kN kT:Value) (d:LinkD) (hk:RLk (· <B) w kC kS kF kN kT d) (hB:B<=w.heap.size) (hd0:findVal d ⟨#[79,98,106,101,99,116]⟩=0) (R gP cP X gI cI:Nat) (a2:Option Addr) (c2:Nat) (a8:Option Addr) (c8:Nat) (vS:Value) (hx:LaX w R gP cP X gI cI a2 c2 a8 c8 vS):
 Calls Tryz.prog 27 #[.agg #[kC,kS,kF,kN,kT],.slice (some ⟨R,0,none⟩) 2 2] w fun r w'=>r=.returned (.pointer (some ⟨X,0,none⟩))/\Below w.heap.size w w':=by
 have HFD:Hid (∀(V:World) (s:ByteArray),Below w.heap.size w V->s.size<=maxLen->Calls Tryz.prog 44 #[.agg #[kC,kS,kF,kN,kT],.string s] V fun r w'=>r=.returned (.tuple #[.int .i64 (findVal d s),.int .i64 (findErr d s)])/\Below V.heap.size V w'):=fun V s hV hs=>Find_any V B kC kS kF kN kT _ s (hk.kept (Kp.below (hV.mono hB))) (Nat.le_trans hB hV.size) hs
 obtain ⟨aC,cC,aS,cS,aF,cF,aN,cN,aT,cT,rfl,rfl,rfl,rfl,rfl⟩:=hk.agg
 obtain ⟨W0,hW0,hB0,hs0,k0⟩:=boxes1 w #[.slice aC d.classes.length cC,.slice aS d.supers.length cS,.slice aF d.fields.length cF,.slice aN d.names.length cN,.slice aT d.targets.length cT] 28
 have HW0:=mkHid hW0
 have HB0:=mkHid hB0
 have HX:=mkHid hx
 clear hk hW0 hB0 k0 hs0 hx
 go_enter Tryz.func27,Tryz.ntmps27
 go_wp2_with fail
 rw [<-HW0.out]
 refine (HFD.out W0 _ HB0.out (by decide)).mono ?_
 rintro r w1 ⟨rfl,hb1⟩
 rw [hd0]
 have HB1:Hid (Below w.heap.size w w1):=HB0.out.trans (hb1.mono HB0.out.size)
 have hx:=HX.out.below HB1.out
 have r0:=cell_of hx.rR 0 (x:=.slice (some ⟨gP,0,none⟩) 1 cP) rfl
 have p0:=hx.pP
 have HIX:=mkHid (ixM_any w1 gP cP X hx.pP fun V hV=>isMain_any V X gI cI a2 c2 a8 c8 vS ((hV.block _ (lt_of hx.xX)).trans hx.xX))
 clear hb1 hx
 go_wp2_with fail
 refine HIX.out.mono ?_
 rintro r w2 ⟨rfl,rfl⟩
 go_wp2_with fail
 refine (demand_any _ _ _).mono ?_
 rintro r w3 ⟨rfl,⟨hb,rfl⟩ | ⟨hb,rfl⟩⟩
 ·
  exact absurd hb (by simp)
 clear hb
 go_wp2_with fail
 go_ret
 exact ⟨rfl,HB1.out⟩
end Go.Proofs.YtcddpmappmjilaaGreatDoor
namespace Go.Proofs.YtcddpmappmjilaaGreatDoor
open Go.RowKit Go.Maps
theorem base_find0:findVal (linkD baseDL) ⟨#[79,98,106,101,99,116]⟩=0:=by kernel_rfl
theorem base_find1:findVal (linkD baseDL) ⟨#[69,114,114,111,114]⟩=1:=by kernel_rfl
theorem base_flds:(linkD baseDL).fields= [[],[⟨⟨#[99,111,100,101]⟩,⟨1,⟨#[]⟩⟩⟩]]:=by kernel_rfl
def scB:ScD:=⟨none,0,0,none,0,0,none,0,0,none,0,0,20,20,10⟩
theorem base_chkS:chkS (linkD baseDL) scB=0:=by
 have h:=chk_link base_tie
 unfold chkS
 cases hok:okLk (linkD baseDL)with
 | true=>rfl
 | false=>
   unfold chkRes at h
   rw [hok]at h
   cases h
theorem base_facts2:∃(bl:List ClassD) (bd:LinkD),bl=baseDL/\bd=linkD baseDL/\findVal bd ⟨#[79,98,106,101,99,116]⟩=0/\findVal bd ⟨#[69,114,114,111,114]⟩=1/\chkS bd scB=0/\(∃fs0 fd,bd.fields= [fs0,[fd]]/\fd.kind.kind=1)/\
 (∀w B v,SL 4 RC (· <B) w v bl->B<=w.heap.size->Calls Tryz.prog 24 #[v] w fun r w'=>Below w.heap.size w w'/\∃kC kS kF kN kT,r=.returned (.tuple #[.agg #[kC,kS,kF,kN,kT],.int .i64 0])/\RLk (· <w'.heap.size) w' kC kS kF kN kT bd):=
 ⟨_,_,rfl,rfl,base_find0,base_find1,base_chkS,⟨_,_,base_flds,rfl⟩,fun w B v hv hB=>(Link_any w B baseDL v hv hB).mono fun r w' ⟨hb,h⟩=>by
   rcases h with ⟨-,kC,kS,kF,kN,kT,h1,h2⟩ | ⟨h0,-⟩
   ·
    exact ⟨hb,kC,kS,kF,kN,kT,h1,h2.mono fun k h=>h.2⟩
   exact absurd base_tie h0⟩
set_option maxRecDepth 100000 in
set_option maxHeartbeats 4000000 in
theorem run1_any (w:World) (Pl Ps:Nat) (v:Value) (hl:w.cell? ⟨Pl,0,none⟩=some v) (sv:SL 4 RC (· <w.heap.size) w v baseDL) (hs:w.heap[Ps]? =some (.cells #[.slice none 0 0,.slice none 0 0,.slice none 0 0,.slice none 0 0,.int .i64 20,.int .i64 20,.int .i64 10] 30 (0,0))) (hg:GlK w) (hT:Cd.Tabs w):
 Calls Tryz.prog 23 #[.pointer (some ⟨Pl,0,none⟩),.pointer (some ⟨Ps,0,none⟩)] w fun r w'=>Below w.heap.size w w'/\∃g c aE cE,r=.returned (.agg #[.slice (some ⟨g,0,none⟩) 1 c,.slice aE 1 cE,.int .i64 1,.int .i64 3,.bool false])/\LinR w' g/\w.heap.size<=g:=by
 obtain ⟨bl,bd,hbl,hbd,hd0,hd1,hck,⟨fs0,fd,hfs,hfd⟩,hlk⟩:=base_facts2
 rw [<-hbl]at sv
 have HLK:=mkHid hlk
 have HLA:Hid (∀(w:World) (B:Nat) (kC kS kF kN kT:Value),RLk (· <B) w kC kS kF kN kT bd->B<=w.heap.size->GlK w->Cd.Tabs w->Calls Tryz.prog 26 #[.agg #[kC,kS,kF,kN,kT]] w fun r w'=>(∃R gP cP X gI cI a2 c2 a8 c8 vS,r=.returned (.slice (some ⟨R,0,none⟩) 2 2)/\LaX w' R gP cP X gI cI a2 c2 a8 c8 vS)/\Below w.heap.size w w'):=by
  subst hbd
  exact fun w B kC kS kF kN kT h1 h2 h3 h4=>lookAll_any w B kC kS kF kN kT h1 h2 h3 h4
 have HCK:Hid (∀(w:World) (B:Nat) (kC kS kF kN kT:Value),RLk (· <B) w kC kS kF kN kT bd->B<=w.heap.size->Calls Tryz.prog 15 #[.agg #[kC,kS,kF,kN,kT],.agg #[.slice none 0 0,.slice none 0 0,.slice none 0 0,.slice none 0 0,.int .i64 20,.int .i64 20,.int .i64 10]] w fun r w'=>r=.returned (.tuple #[])/\Below w.heap.size w w'):=fun w B kC kS kF kN kT h1 h2=>(checkScript_any w B kC kS kF kN kT bd scB h1 h2).mono fun r w' ⟨h3,h4⟩=>by
  rcases h3 with ⟨h3,-⟩ | ⟨-,h3⟩
  ·
   exact absurd hck h3
  exact ⟨h3,h4⟩
 have HG:=mkHid hg
 have HT:=mkHid hT
 have HS:=mkHid hs
 have HFS:=mkHid hfs
 have HD0:=mkHid hd0
 have HD1:=mkHid hd1
 have HFK:=mkHid hfd
 obtain ⟨W0,hW0,hB0,hs0,k0⟩:=boxes1 w #[.slice none 0 0,.slice none 0 0,.int .i64 0,.int .i64 0,.bool false] 43
 have HW0:=mkHid hW0
 have HB0:=mkHid hB0
 have HK0:=mkHid k0
 have lP:Pl<w.heap.size:=World.block_lt_of_cell? w _ hl
 have HSV:=mkHid (sv.keptC (Kp.below hB0))
 obtain ⟨aV,cV,rfl,-⟩:=sv
 clear hlk hck hbl hbd hg hT hs hfs hd0 hd1 hfd hW0 hB0 k0
 go_enter Tryz.func23,Tryz.ntmps23
 go_wp2_with fail
 rw [<-HW0.out]
 refine (HLK.out W0 w.heap.size _ HSV.out HB0.out.size).mono ?_
 rintro r w1 ⟨hb1,kC,kS,kF,kN,kT,rfl,hk⟩
 obtain ⟨aC,cC,aS,cS,aF,cF,aN,cN,aT,cT,rfl,rfl,rfl,rfl,rfl⟩:=hk.agg
 obtain ⟨W1,hW1,hB1,hs1,k1⟩:=boxes1 w1 #[.slice aC bd.classes.length cC,.slice aS bd.supers.length cS,.slice aF bd.fields.length cF,.slice aN bd.names.length cN,.slice aT bd.targets.length cT] 28
 have HW1:=mkHid hW1
 have HBW1:Hid (Below W0.heap.size W0 W1):=hb1.trans (hB1.mono hb1.size)
 have HB1:Hid (Below w.heap.size w W1):=HB0.out.trans (HBW1.out.mono HB0.out.size)
 have HK1:=mkHid k1
 have HRK:Hid (RLk (· <w1.heap.size) W1 (.slice aC bd.classes.length cC) (.slice aS bd.supers.length cS) (.slice aF bd.fields.length cF) (.slice aN bd.names.length cN) (.slice aT bd.targets.length cT) bd):=hk.kept (Kp.below hB1)
 have s1:=hB1.size
 have l1:=lt_of k1
 have p0:=cell_of HK1.out 0 (x:=.slice aC bd.classes.length cC) rfl
 have p1:=cell_of HK1.out 1 (x:=.slice aS bd.supers.length cS) rfl
 have p2:=cell_of HK1.out 2 (x:=.slice aF bd.fields.length cF) rfl
 have p3:=cell_of HK1.out 3 (x:=.slice aN bd.names.length cN) rfl
 have p4:=cell_of HK1.out 4 (x:=.slice aT bd.targets.length cT) rfl
 clear hb1 hW1 hB1 hk k1 hl HSV HLK
 go_wp2_with fail
 rw [<-HW1.out]
 refine (demand_any _ _ _).mono ?_
 rintro r w0 ⟨rfl,⟨hb,rfl⟩ | ⟨hb,rfl⟩⟩
 ·
  exact absurd hb (by simp)
 clear hb
 go_wp2_with fail
 refine (HLA.out _ w1.heap.size _ _ _ _ _ HRK.out s1 (HG.out.below HB1.out) (HT.out.below HB1.out)).mono ?_
 rintro r w2 ⟨⟨R,gP,cP,X,gI,cI,a2,c2,a8,c8,vS,rfl,hx⟩,hb2⟩
 have HX:=mkHid hx
 have HB2:=mkHid hb2
 have HFM:=mkHid (findMain_any w2 w1.heap.size _ _ _ _ _ bd (HRK.out.kept (Kp.below (hb2.mono s1))) (Nat.le_trans s1 hb2.size) HD0.out R gP cP X gI cI a2 c2 a8 c8 vS hx)
 have k2:=(hb2.block _ l1).trans HK1.out
 have l2:=lt_of k2
 have q0:=cell_of k2 0 (x:=.slice aC bd.classes.length cC) rfl
 have q1:=cell_of k2 1 (x:=.slice aS bd.supers.length cS) rfl
 have q2:=cell_of k2 2 (x:=.slice aF bd.fields.length cF) rfl
 have q3:=cell_of k2 3 (x:=.slice aN bd.names.length cN) rfl
 have q4:=cell_of k2 4 (x:=.slice aT bd.targets.length cT) rfl
 clear p0 p1 p2 p3 p4 hx hb2 k2
 go_wp2_with fail
 refine HFM.out.mono ?_
 rintro r w3 ⟨rfl,hb3⟩
 have HB3:Hid (Below w0.heap.size w0 w3):=HB2.out.trans (hb3.mono HB2.out.size)
 have HX3:=mkHid (HX.out.below hb3)
 have k3:=(HB3.out.block _ l1).trans HK1.out
 have l3:=lt_of k3
 have e3:=((HB1.out.trans (HB3.out.mono HB1.out.size)).block _ (lt_of HS.out)).trans HS.out
 have le3:=lt_of e3
 have p0:=cell_of k3 0 (x:=.slice aC bd.classes.length cC) rfl
 have p1:=cell_of k3 1 (x:=.slice aS bd.supers.length cS) rfl
 have p2:=cell_of k3 2 (x:=.slice aF bd.fields.length cF) rfl
 have p3:=cell_of k3 3 (x:=.slice aN bd.names.length cN) rfl
 have p4:=cell_of k3 4 (x:=.slice aT bd.targets.length cT) rfl
 have u0:=cell_of e3 0 (x:=.slice none 0 0) rfl
 have u1:=cell_of e3 1 (x:=.slice none 0 0) rfl
 have u2:=cell_of e3 2 (x:=.slice none 0 0) rfl
 have u3:=cell_of e3 3 (x:=.slice none 0 0) rfl
 have u4:=cell_of e3 4 (x:=.int .i64 20) rfl
 have u5:=cell_of e3 5 (x:=.int .i64 20) rfl
 have u6:=cell_of e3 6 (x:=.int .i64 10) rfl
 have HC3:=mkHid (HCK.out w3 w1.heap.size _ _ _ _ _ (HRK.out.kept (Kp.below (HB3.out.mono s1))) (Nat.le_trans s1 HB3.out.size))
 clear q0 q1 q2 q3 q4 hb3 k3 e3
 go_wp2_with fail
 refine HC3.out.mono ?_
 rintro r w4 ⟨rfl,hb4⟩
 have HB4:Hid (Below w0.heap.size w0 w4):=HB3.out.trans (hb4.mono HB3.out.size)
 have hx4:=HX3.out.below hb4
 have k4:=(HB4.out.block _ l1).trans HK1.out
 have l4:=lt_of k4
 have HBw4:Hid (Below w.heap.size w w4):=HB1.out.trans (HB4.out.mono HB1.out.size)
 have e4:=(HBw4.out.block _ (lt_of HS.out)).trans HS.out
 have le4:=lt_of e4
 have q0:=cell_of k4 0 (x:=.slice aC bd.classes.length cC) rfl
 have q1:=cell_of k4 1 (x:=.slice aS bd.supers.length cS) rfl
 have q2:=cell_of k4 2 (x:=.slice aF bd.fields.length cF) rfl
 have q3:=cell_of k4 3 (x:=.slice aN bd.names.length cN) rfl
 have q4:=cell_of k4 4 (x:=.slice aT bd.targets.length cT) rfl
 have v0:=cell_of e4 0 (x:=.slice none 0 0) rfl
 have v1:=cell_of e4 1 (x:=.slice none 0 0) rfl
 have v2:=cell_of e4 2 (x:=.slice none 0 0) rfl
 have v3:=cell_of e4 3 (x:=.slice none 0 0) rfl
 have v4:=cell_of e4 4 (x:=.int .i64 20) rfl
 have v5:=cell_of e4 5 (x:=.int .i64 20) rfl
 have v6:=cell_of e4 6 (x:=.int .i64 10) rfl
 have hs4:=HB4.out.size
 have HST:=mkHid (start_any w4 X gI cI _ _ _ _ _ (some ⟨R,0,none⟩) 2 2 bd fs0 fd HFS.out HFK.out HD0.out HD1.out ((HRK.out.kept (Kp.below (HB4.out.mono s1))).mono fun k h=>Nat.lt_of_lt_of_le h (Nat.le_trans s1 hs4)) (cell_of hx4.xX 9 rfl) (cell_of hx4.xX 3 rfl) (cell_of hx4.xX 6 rfl) hx4.hh hx4.lI)
 clear p0 p1 p2 p3 p4 u0 u1 u2 u3 u4 u5 u6 hb4 k4 e4 hx4
 go_wp2_with fail
 refine HST.out.mono ?_
 rintro r w5 ⟨v,rfl,hst,hb5⟩
 have HB5:=mkHid hb5
 have HMR:=mkHid (mrun_any hst)
 clear hst hb5 q0 q1 q2 q3 q4 v0 v1 v2 v3 v4 v5 v6
 go_wp2_with fail
 refine HMR.out.mono ?_
 rintro r w6 ⟨⟨g,c,aE,cE,rfl,hl6,hg6⟩,hb6⟩
 have HB6:Hid (Below w4.heap.size w4 w6):=HB5.out.trans hb6
 have lw:w.heap.size<w0.heap.size:=Nat.lt_of_lt_of_le (lt_of HK0.out) HBW1.out.size
 have kT:w6.heap[w.heap.size]? =_:=((HB6.out.block _ (by omega)).trans ((HB4.out.block _ lw).trans (HBW1.out.block _ (lt_of HK0.out)))).trans HK0.out
 have HKT:=mkHid kT
 have HL6:=mkHid hl6
 have lT:=lt_of kT
 have t0:=cell_of kT 0 (x:=.slice none 0 0) rfl
 have t1:=cell_of kT 1 (x:=.slice none 0 0) rfl
 have t2:=cell_of kT 2 (x:=.int .i64 0) rfl
 have t3:=cell_of kT 3 (x:=.int .i64 0) rfl
 have t4:=cell_of kT 4 (x:=.bool false) rfl
 have tf:=frz_of kT
 have HGB:=mkHid hg6
 clear hb6 kT hl6
 go_wp2_with fail
 have hX:=heap_setR (j:=4) (heap_setR (j:=3) (heap_setR (j:=2) (heap_setR (j:=1) (heap_setR (j:=0) HKT.out (.slice (some ⟨g,0,none⟩) 1 c)) (.slice aE 1 cE)) (.int .i64 1)) (.int .i64 3)) (.bool false)
 have hgK:g≠w.heap.size:=by omega
 have hB:Below w.heap.size w w6:=HBw4.out.trans (HB6.out.mono HBw4.out.size)
 refine bodyPost_ret (results_cell_row rfl _ _ w.heap.size _ _ _ _ rfl hX Tryz.underlying43 rfl rfl) rfl ⟨(((((hB.setCell (Nat.le_refl _) _).setCell (Nat.le_refl _) _).setCell (Nat.le_refl _) _).setCell (Nat.le_refl _) _).setCell (Nat.le_refl _) _),g,c,aE,cE,rfl,HL6.out.same ?_,by omega⟩
 repeat rw [Below.heap_setCell _ _ _ _ hgK]
end Go.Proofs.YtcddpmappmjilaaGreatDoor
namespace Go.Proofs.YtcddpmappmjilaaGreatDoor
open Go.RowKit Go.Maps
theorem callRun1 (args:Array Value) (w:World):(callFunc 23 args).run Tryz.prog w=.ok (.enter 23 args) w:=by kernel_rfl
def OkR (B:Nat) (v:Value) (w:World):Prop:=∃g c aE cE,v=.agg #[.slice (some ⟨g,0,none⟩) 1 c,.slice aE 1 cE,.int .i64 1,.int .i64 3,.bool false]/\LinR w g/\B<=g
set_option maxRecDepth 100000 in
set_option maxHeartbeats 4000000 in
theorem run_base (w:World) (v:Value) (sv:SL 4 RC (· <w.heap.size) w v baseDL) (hg:GlK w) (hT:Cd.Tabs w):
 Calls Tryz.prog 11 #[v,.agg #[.slice none 0 0,.slice none 0 0,.slice none 0 0,.slice none 0 0,.int .i64 20,.int .i64 20,.int .i64 10]] w fun r w'=>Below w.heap.size w w'/\∃g c aE cE,r=.returned (.tuple #[.agg #[.slice (some ⟨g,0,none⟩) 1 c,.slice aE 1 cE,.int .i64 1,.int .i64 3,.bool false],.int .i64 0])/\LinR w' g:=by
 have hmf:∀(fn:Fn) (first cap:Array Value) (w:World),(Instr.makeFunc fn first cap).run Tryz.prog w=.ok (.func fn first cap) w:=fun _ _ _ _=>rfl
 have HSV:=mkHid sv
 obtain ⟨aV,cV,rfl,-⟩:=sv
 obtain ⟨W0,hW0,hB0,hs0,k0⟩:=boxes1 w #[.slice aV baseDL.length cV] 22
 obtain ⟨W1,hW1,hB1,hs1,k1⟩:=boxes1 W0 #[.slice none 0 0,.slice none 0 0,.slice none 0 0,.slice none 0 0,.int .i64 20,.int .i64 20,.int .i64 10] 30
 obtain ⟨W2,hW2,hB2,hs2,k2⟩:=boxes1 W1 #[.slice none 0 0,.slice none 0 0,.int .i64 0,.int .i64 0,.bool false] 43
 rw [hs0]at k1 hs1
 rw [hs1]at k2 hs2
 have HB2:Hid (Below w.heap.size w W2):=(hB0.trans (hB1.mono hB0.size)).trans (hB2.mono (Nat.le_trans hB0.size hB1.size))
 have HK0:=mkHid ((hB2.block _ (by omega)).trans ((hB1.block _ (by omega)).trans k0))
 have HK1:=mkHid ((hB2.block _ (by omega)).trans k1)
 have HK2:=mkHid k2
 have HW0:=mkHid hW0
 have HW1:=mkHid hW1
 have HW2:=mkHid hW2
 have HMD:=mkHid (madeTr_any W2 23 #[.pointer (some ⟨w.heap.size,0,none⟩),.pointer (some ⟨w.heap.size+1,0,none⟩)] (OkR (W2.heap.size+5)) (fun _ _=>False) callRun1 (fun W hb hz=>by
  have hbw:=HB2.out.trans (hb.mono HB2.out.size)
  refine (run1_any W w.heap.size (w.heap.size+1) _ (cell_of ((hb.block _ (by omega)).trans HK0.out) 0 rfl) ((HSV.out.keptC (Kp.below hbw)).monoC fun k hk=>Nat.lt_of_lt_of_le hk hbw.size) ((hb.block _ (by omega)).trans HK1.out) (hg.below hbw) (hT.below hbw)).mono ?_
  rintro r w' ⟨h1,g,c,aE,cE,rfl,h2,h3⟩
  exact ⟨h1,Or.inl ⟨_,rfl,⟨_,_,_,_,_,_,_,_,_,rfl⟩,g,c,aE,cE,rfl,h2,by omega⟩⟩) (by
  rintro v W W' hz hf ⟨g,c,aE,cE,rfl,h2,h3⟩
  exact ⟨g,c,aE,cE,rfl,h2.same (hf.block g (lt_of h2.2.2.choose_spec) (Or.inr h3)),h3⟩))
 have HZ:=mkHid hs2
 clear hg hT hB0 hB1 hB2 hW0 hW1 hW2 k0 k1 k2 hs0 hs1
 go_enter Tryz.func11,Tryz.ntmps11
 go_wp2_with fail
 rw [<-HW0.out,<-HW1.out,<-HW2.out]
 refine HMD.out.mono ?_
 rintro r w3 ⟨hb3,hs3,⟨v,rfl,-,g,c,aE,cE,rfl,hl3,hg3⟩ | ⟨e,p,-,hf⟩⟩
 rotate_left
 ·
  exact hf.elim
 obtain ⟨W4,hW4,hB4,hs4,k4⟩:=boxes1 w3 #[.slice (some ⟨g,0,none⟩) 1 c,.slice aE 1 cE,.int .i64 1,.int .i64 3,.bool false] 43
 obtain ⟨W5,hW5,hB5,hs5,k5⟩:=boxes1 W4 #[.int .i64 0,.int .i64 0] 50
 rw [hs4]at k5 hs5
 have HW4:=mkHid hW4
 have HW5:=mkHid hW5
 have hb35:Below w3.heap.size w3 W5:=hB4.trans (hB5.mono hB4.size)
 have HB5:Hid (Below w.heap.size w W5):=HB2.out.trans ((hb3.trans (hb35.mono hb3.size)).mono HB2.out.size)
 have hq4:=(hB5.block _ (by omega)).trans k4
 have hq2:=((hb35.block _ (by omega)).trans (hb3.block _ (lt_of HK2.out))).trans HK2.out
 have HQ2:=mkHid hq2
 have HL5:=mkHid (hl3.below hb35)
 have lg:=lt_of hl3.2.2.choose_spec
 have n1:g≠w.heap.size+1+1:=by omega
 have p0:=cell_of hq4 0 (x:=.slice (some ⟨g,0,none⟩) 1 c) rfl
 have p1:=cell_of hq4 1 (x:=.slice aE 1 cE) rfl
 have p2:=cell_of hq4 2 (x:=.int .i64 1) rfl
 have p3:=cell_of hq4 3 (x:=.int .i64 3) rfl
 have p4:=cell_of hq4 4 (x:=.bool false) rfl
 have q0:=cell_of hq2 0 (x:=.slice none 0 0) rfl
 have q1:=cell_of hq2 1 (x:=.slice none 0 0) rfl
 have q2:=cell_of hq2 2 (x:=.int .i64 0) rfl
 have q3:=cell_of hq2 3 (x:=.int .i64 0) rfl
 have q4:=cell_of hq2 4 (x:=.bool false) rfl
 have f2:=frz_of hq2
 have f0:=cell_of k5 0 (x:=.int .i64 0) rfl
 have f1:=cell_of k5 1 (x:=.int .i64 0) rfl
 have l4:=lt_of hq4
 have l2:=lt_of hq2
 have l5:=lt_of k5
 have lz:w.heap.size+1+1<w3.heap.size:=by omega
 clear hb3 hB4 hB5 k4 k5 hW4 hW5 hq4 hq2 hb35 hl3 hg3
 go_wp2_with fail
 rw [<-HW4.out,<-HW5.out]
 go_region
 all_goals
  go_wp2_with fail
  have hX:=heap_setR (j:=4) (heap_setR (j:=3) (heap_setR (j:=2) (heap_setR (j:=1) (heap_setR (j:=0) HQ2.out (.slice (some ⟨g,0,none⟩) 1 c)) (.slice aE 1 cE)) (.int .i64 1)) (.int .i64 3)) (.bool false)
  have hB9:Below w.heap.size w (((((W5.setCell ⟨w.heap.size+1+1,0,none⟩ (.slice (some ⟨g,0,none⟩) 1 c)).setCell ⟨w.heap.size+1+1,1,none⟩ (.slice aE 1 cE)).setCell ⟨w.heap.size+1+1,2,none⟩ (.int .i64 1)).setCell ⟨w.heap.size+1+1,3,none⟩ (.int .i64 3)).setCell ⟨w.heap.size+1+1,4,none⟩ (.bool false)):=(((((HB5.out.setCell (Nat.le_trans (Nat.le_succ _) (Nat.le_succ _)) _).setCell (Nat.le_trans (Nat.le_succ _) (Nat.le_succ _)) _).setCell (Nat.le_trans (Nat.le_succ _) (Nat.le_succ _)) _).setCell (Nat.le_trans (Nat.le_succ _) (Nat.le_succ _)) _).setCell (Nat.le_trans (Nat.le_succ _) (Nat.le_succ _)) _)
  have hL9:LinR (((((W5.setCell ⟨w.heap.size+1+1,0,none⟩ (.slice (some ⟨g,0,none⟩) 1 c)).setCell ⟨w.heap.size+1+1,1,none⟩ (.slice aE 1 cE)).setCell ⟨w.heap.size+1+1,2,none⟩ (.int .i64 1)).setCell ⟨w.heap.size+1+1,3,none⟩ (.int .i64 3)).setCell ⟨w.heap.size+1+1,4,none⟩ (.bool false)) g:=HL5.out.same (by repeat rw [Below.heap_setCell _ _ _ _ n1])
  generalize (((((W5.setCell ⟨w.heap.size+1+1,0,none⟩ (.slice (some ⟨g,0,none⟩) 1 c)).setCell ⟨w.heap.size+1+1,1,none⟩ (.slice aE 1 cE)).setCell ⟨w.heap.size+1+1,2,none⟩ (.int .i64 1)).setCell ⟨w.heap.size+1+1,3,none⟩ (.int .i64 3)).setCell ⟨w.heap.size+1+1,4,none⟩ (.bool false))=W9 at hX hB9 hL9 ⊢
  have r0:=cell_of hX 0 (x:=.slice (some ⟨g,0,none⟩) 1 c) rfl
  have r1:=cell_of hX 1 (x:=.slice aE 1 cE) rfl
  have r2:=cell_of hX 2 (x:=.int .i64 1) rfl
  have r3:=cell_of hX 3 (x:=.int .i64 3) rfl
  have r4:=cell_of hX 4 (x:=.bool false) rfl
  exact bodyPost_ret (v:=.tuple #[.agg #[.slice (some ⟨g,0,none⟩) 1 c,.slice aE 1 cE,.int .i64 1,.int .i64 3,.bool false],.int .i64 0]) (by simp [results,Tryz.results11,go_sem,r0,r1,r2,r3,r4]) rfl ⟨hB9.drew,g,c,aE,cE,rfl,hL9.same rfl⟩
set_option maxRecDepth 100000 in
set_option maxHeartbeats 4000000 in
theorem runBegun_any (w:World) (hg:GlK w) (hT:Cd.Tabs w):Calls Tryz.prog 6 #[] w fun r w'=>r=.returned (.bool true)/\Below w.heap.size w w':=by
 have HBA:=mkHid (base_anyL w)
 have HRB:Hid (∀(W:World) (v:Value),Below w.heap.size w W->SL 4 RC (· <W.heap.size) W v baseDL->Calls Tryz.prog 11 #[v,.agg #[.slice none 0 0,.slice none 0 0,.slice none 0 0,.slice none 0 0,.int .i64 20,.int .i64 20,.int .i64 10]] W fun r w'=>Below W.heap.size W w'/\∃g c aE cE,r=.returned (.tuple #[.agg #[.slice (some ⟨g,0,none⟩) 1 c,.slice aE 1 cE,.int .i64 1,.int .i64 3,.bool false],.int .i64 0])/\LinR w' g):=fun W v hb hv=>run_base W v hv (hg.below hb) (hT.below hb)
 clear hg hT
 go_enter Tryz.func6,Tryz.ntmps6
 go_wp2_with fail
 refine HBA.out.mono ?_
 rintro r w1 ⟨hb1,v,rfl,sv⟩
 have HB1:=mkHid hb1
 have HSV:=mkHid sv
 obtain ⟨a0,c0,rfl,-⟩:=sv
 clear hb1
 go_wp2_with fail
 refine (HRB.out w1 _ HB1.out HSV.out).mono ?_
 rintro r w2 ⟨hb2,g,c,aE,cE,rfl,hl⟩
 have HB2:Hid (Below w.heap.size w w2):=HB1.out.trans (hb2.mono HB1.out.size)
 have HB3:=mkHid (fun o=>HB2.out.alloc HB2.out.size o)
 have y1:=hl.2.1
 have lg:=lt_of hl.2.2.choose_spec
 clear hb2 hl HSV
 go_wp2_with fail
 go_ret
 exact ⟨rfl,HB3.out _⟩
set_option maxRecDepth 100000 in
set_option maxHeartbeats 4000000 in
theorem runChecks_any (w:World) (B:Nat) (kC kS kF kN kT:Value) (d:LinkD) (s:ScD) (hk:RLk (· <B) w kC kS kF kN kT d) (hB:B<=w.heap.size) (hg:GlK w) (hT:Cd.Tabs w):
 Calls Tryz.prog 3 #[.agg #[kC,kS,kF,kN,kT],.agg s.cs] w fun r w'=>r=.returned (.bool true)/\Below w.heap.size w w':=by
 obtain ⟨aC,cC,aS,cS,aF,cF,aN,cN,aT,cT,rfl,rfl,rfl,rfl,rfl⟩:=hk.agg
 obtain ⟨W0,hW0,hB0,hs0,k0⟩:=boxes1 w #[.slice aC d.classes.length cC,.slice aS d.supers.length cS,.slice aF d.fields.length cF,.slice aN d.names.length cN,.slice aT d.targets.length cT] 28
 obtain ⟨W1,hW1,hB1,hs1,k1⟩:=boxes1 W0 #[.slice s.aI s.nI s.cI,.slice s.aP s.nP s.cP,.slice s.aS s.nS s.cS,.slice s.aG s.nG s.cG,.int .i64 s.y,.int .i64 s.o,.int .i64 s.f] 30
 rw [hs0]at k1
 have HB1:Hid (Below w.heap.size w W1):=hB0.trans (hB1.mono hB0.size)
 have HK0:=mkHid ((hB1.block _ (lt_of k0)).trans k0)
 have HK1:=mkHid k1
 have HW0:=mkHid hW0
 have HW1:=mkHid hW1
 have HCL:=mkHid (CheckLinked_any W1 B _ _ _ _ _ d (hk.kept (Kp.below (HB1.out.mono hB))) (Nat.le_trans hB HB1.out.size))
 have HRG:Hid (∀W,Below w.heap.size w W->Calls Tryz.prog 6 #[] W fun r w'=>r=.returned (.bool true)/\Below W.heap.size W w'):=fun W hW=>runBegun_any W (hg.below hW) (hT.below hW)
 have HCK:Hid (∀W,Below w.heap.size w W->Calls Tryz.prog 7 #[.agg #[.slice aC d.classes.length cC,.slice aS d.supers.length cS,.slice aF d.fields.length cF,.slice aN d.names.length cN,.slice aT d.targets.length cT],.agg #[.slice s.aI s.nI s.cI,.slice s.aP s.nP s.cP,.slice s.aS s.nS s.cS,.slice s.aG s.nG s.cG,.int .i64 s.y,.int .i64 s.o,.int .i64 s.f]] W fun r w'=>r=.returned (.int .i64 (chkS d s))/\Below W.heap.size W w'):=fun W hW=>RCheck_any W B _ _ _ _ _ d s (hk.kept (Kp.below (hW.mono hB))) (Nat.le_trans hB hW.size)
 rw [linkedErr_chk]at HCL
 unfold ScD.cs
 clear hk hg hT hB0 hB1 hW0 hW1 k0 k1 hs0 hs1
 cases hok:okLk d with
 | false=>
   have hc4:chkRes d []=4:=by unfold chkRes;rw [hok];rfl
   have hcs:chkS d s=4:=by unfold chkS;rw [hok];rfl
   rw [hc4]at HCL
   rw [hcs]at HCK
   go_enter Tryz.func3,Tryz.ntmps3
   go_wp2_with fail
   rw [<-HW0.out,<-HW1.out]
   refine HCL.out.mono ?_
   rintro r w1 ⟨rfl,hb1⟩
   have HB2:Hid (Below w.heap.size w w1):=HB1.out.trans (hb1.mono HB1.out.size)
   have HK02:=mkHid ((hb1.block _ (lt_of HK0.out)).trans HK0.out)
   have HK12:=mkHid ((hb1.block _ (lt_of HK1.out)).trans HK1.out)
   clear hb1 HCL
   go_wp2_with fail
   refine (HRG.out w1 HB2.out).mono ?_
   rintro r w2 ⟨rfl,hb2⟩
   have HB3:Hid (Below w.heap.size w w2):=HB2.out.trans (hb2.mono HB2.out.size)
   have k0:=(hb2.block _ (lt_of HK02.out)).trans HK02.out
   have k1:=(hb2.block _ (lt_of HK12.out)).trans HK12.out
   have l0:=lt_of k0
   have l1:=lt_of k1
   have p0:=cell_of k0 0 (x:=.slice aC d.classes.length cC) rfl
   have p1:=cell_of k0 1 (x:=.slice aS d.supers.length cS) rfl
   have p2:=cell_of k0 2 (x:=.slice aF d.fields.length cF) rfl
   have p3:=cell_of k0 3 (x:=.slice aN d.names.length cN) rfl
   have p4:=cell_of k0 4 (x:=.slice aT d.targets.length cT) rfl
   have x0:=cell_of k1 0 (x:=.slice s.aI s.nI s.cI) rfl
   have x1:=cell_of k1 1 (x:=.slice s.aP s.nP s.cP) rfl
   have x2:=cell_of k1 2 (x:=.slice s.aS s.nS s.cS) rfl
   have x3:=cell_of k1 3 (x:=.slice s.aG s.nG s.cG) rfl
   have x4:=cell_of k1 4 (x:=.int .i64 s.y) rfl
   have x5:=cell_of k1 5 (x:=.int .i64 s.o) rfl
   have x6:=cell_of k1 6 (x:=.int .i64 s.f) rfl
   have HCR:=mkHid (HCK.out w2 HB3.out)
   clear hb2 k0 k1
   go_wp2_with fail
   refine HCR.out.mono ?_
   rintro r w3 ⟨rfl,hb3⟩
   have HB4:Hid (Below w.heap.size w w3):=HB3.out.trans (hb3.mono HB3.out.size)
   clear hb3 p0 p1 p2 p3 p4 x0 x1 x2 x3 x4 x5 x6
   go_wp2_with fail
   go_ret
   exact ⟨rfl,HB4.out⟩
 | true=>
   have hc4:chkRes d []=0:=by unfold chkRes;rw [hok];rfl
   have hcs:chkS d s=s.err:=by unfold chkS;rw [hok];rfl
   rw [hc4]at HCL
   rw [hcs]at HCK
   go_enter Tryz.func3,Tryz.ntmps3
   go_wp2_with fail
   rw [<-HW0.out,<-HW1.out]
   refine HCL.out.mono ?_
   rintro r w0 ⟨rfl,hb0⟩
   have HB0:Hid (Below w.heap.size w w0):=HB1.out.trans (hb0.mono HB1.out.size)
   have HK00:=mkHid ((hb0.block _ (lt_of HK0.out)).trans HK0.out)
   have HK10:=mkHid ((hb0.block _ (lt_of HK1.out)).trans HK1.out)
   have ls:=lt_of HK10.out
   have x0:=cell_of HK10.out 0 (x:=.slice s.aI s.nI s.cI) rfl
   have x1:=cell_of HK10.out 1 (x:=.slice s.aP s.nP s.cP) rfl
   have x2:=cell_of HK10.out 2 (x:=.slice s.aS s.nS s.cS) rfl
   have x3:=cell_of HK10.out 3 (x:=.slice s.aG s.nG s.cG) rfl
   have x4:=cell_of HK10.out 4 (x:=.int .i64 s.y) rfl
   have x5:=cell_of HK10.out 5 (x:=.int .i64 s.o) rfl
   have x6:=cell_of HK10.out 6 (x:=.int .i64 s.f) rfl
   have HCS:=mkHid (CheckScript_any w0 s)
   unfold ScD.cs at HCS
   clear hb0 HCL
   go_wp2_with fail
   refine HCS.out.mono ?_
   rintro r w1 ⟨rfl,hb1⟩
   have HB2:Hid (Below w.heap.size w w1):=HB0.out.trans (hb1.mono HB0.out.size)
   have HK02:=mkHid ((hb1.block _ (lt_of HK00.out)).trans HK00.out)
   have HK12:=mkHid ((hb1.block _ (lt_of HK10.out)).trans HK10.out)
   clear hb1 x0 x1 x2 x3 x4 x5 x6 ls
   go_wp2_with fail
   refine (HRG.out w1 HB2.out).mono ?_
   rintro r w2 ⟨rfl,hb2⟩
   have HB3:Hid (Below w.heap.size w w2):=HB2.out.trans (hb2.mono HB2.out.size)
   have k0:=(hb2.block _ (lt_of HK02.out)).trans HK02.out
   have k1:=(hb2.block _ (lt_of HK12.out)).trans HK12.out
   have l0:=lt_of k0
   have l1:=lt_of k1
   have p0:=cell_of k0 0 (x:=.slice aC d.classes.length cC) rfl
   have p1:=cell_of k0 1 (x:=.slice aS d.supers.length cS) rfl
   have p2:=cell_of k0 2 (x:=.slice aF d.fields.length cF) rfl
   have p3:=cell_of k0 3 (x:=.slice aN d.names.length cN) rfl
   have p4:=cell_of k0 4 (x:=.slice aT d.targets.length cT) rfl
   have x0:=cell_of k1 0 (x:=.slice s.aI s.nI s.cI) rfl
   have x1:=cell_of k1 1 (x:=.slice s.aP s.nP s.cP) rfl
   have x2:=cell_of k1 2 (x:=.slice s.aS s.nS s.cS) rfl
   have x3:=cell_of k1 3 (x:=.slice s.aG s.nG s.cG) rfl
   have x4:=cell_of k1 4 (x:=.int .i64 s.y) rfl
   have x5:=cell_of k1 5 (x:=.int .i64 s.o) rfl
   have x6:=cell_of k1 6 (x:=.int .i64 s.f) rfl
   have HCR:=mkHid (HCK.out w2 HB3.out)
   clear hb2 k0 k1
   go_wp2_with fail
   refine HCR.out.mono ?_
   rintro r w3 ⟨rfl,hb3⟩
   have HB4:Hid (Below w.heap.size w w3):=HB3.out.trans (hb3.mono HB3.out.size)
   clear hb3 p0 p1 p2 p3 p4 x0 x1 x2 x3 x4 x5 x6
   go_wp2_with fail
   go_ret
   exact ⟨rfl,HB4.out⟩
end Go.Proofs.YtcddpmappmjilaaGreatDoor
