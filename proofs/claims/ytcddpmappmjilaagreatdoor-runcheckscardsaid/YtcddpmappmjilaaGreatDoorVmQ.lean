import Derived.Test.YtcddpmappmjilaaGreatDoorTka
import Derived.Test.YtcddpmappmjilaaGreatDoorJVkJVmI
import Derived.Test.YtcddpmappmjilaaGreatDoorJVmPVmC
import Derived.Deep.DeepCutAuto
namespace Go.Proofs.YtcddpmappmjilaaGreatDoor
open Go.RowKit Go.Maps
theorem seven_below {W0 W:World} {F:Nat} (Q:Nat) (v0 v1 v2 v3 v4 v5 v6:Value) (h:Below F W0 W) (hQ:F<=Q):Below F W0 (((((((W.setCell ⟨Q,0,none⟩ v0).setCell ⟨Q,1,none⟩ v1).setCell ⟨Q,2,none⟩ v2).setCell ⟨Q,3,none⟩ v3).setCell ⟨Q,4,none⟩ v4).setCell ⟨Q,5,none⟩ v5).setCell ⟨Q,6,none⟩ v6):=
 ((((((h.setCell hQ _).setCell hQ _).setCell hQ _).setCell hQ _).setCell hQ _).setCell hQ _).setCell hQ _
theorem step_made {c:Lkr} {F P Q:Nat} {x:Cd.Op4} {W:World} {vL vS:Value} {lo st:List KindD} (h:W.heap[Q]? =some (.cells #[.pointer none,.int .i64 0,.int .i64 0,.int .i64 0,.int .i64 0,.slice none 0 0,.slice none 0 0] 288 (0,0))) (FQ:F<=Q) (oL:OwnK W F vL lo) (oS:OwnK W F vS st) (nL:vL.ownBlock≠some Q) (nS:vS.ownBlock≠some Q) (ne:∀b,vL.ownBlock=some b->vS.ownBlock≠some b) (gL:∀k∈lo,GdK (Kn c) k) (gS:∀k∈st,GdK (Kn c) k):
 Sp c F P Q x (((((((W.setCell ⟨Q,0,none⟩ (.pointer (some ⟨P,0,none⟩))).setCell ⟨Q,1,none⟩ (.int .i64 x.loc)).setCell ⟨Q,2,none⟩ (.int .i64 x.op)).setCell ⟨Q,3,none⟩ (.int .i64 x.a)).setCell ⟨Q,4,none⟩ (.int .i64 x.b)).setCell ⟨Q,5,none⟩ vL).setCell ⟨Q,6,none⟩ vS) vL vS lo st:=
 ⟨heap_setX (heap_setX (heap_setX (heap_setX (heap_setX (heap_setX (heap_setX h _) _) _) _) _) _) _,FQ,own_setK (own_setK (own_setK (own_setK (own_setK (own_setK (own_setK oL nL) nL) nL) nL) nL) nL) nL,own_setK (own_setK (own_setK (own_setK (own_setK (own_setK (own_setK oS nS) nS) nS) nS) nS) nS) nS,nL,nS,ne,gL,gS⟩
def look3 (c:Lkr) (x:Cd.Op4) (r:LS) (s3:SA):Option SA:=if brD x.op then comeAtD c s3 x.a r.1 r.2 else some s3
def look2 (c:Lkr) (x:Cd.Op4) (n:Nat) (r:LS) (s2:SA):Option SA:=(if goesD x.op then comeD c s2 (n+1) r.1 r.2 else some s2).bind (look3 c x r)
def look1 (c:Lkr) (x:Cd.Op4) (n:Nat) (r:LS) (s1:SA):Option SA:=(if x.op=4 then handsD c x.loc r.1 c.m.hands s1 else some s1).bind (look2 c x n r)
theorem look_no {c:Lkr} {s:SA} {n:Nat} (hn:n<s.S.length) (h:runD c (Cd.get4 c.ins n) s.S[n].locals s.S[n].stack=none):lookD c s n=none:=by
 unfold lookD
 rw [st_at hn,h]
 rfl
theorem look_last {c:Lkr} {s:SA} {n:Nat} {r:LS} (hn:n<s.S.length) (h:runD c (Cd.get4 c.ins n) s.S[n].locals s.S[n].stack=some r) (h1:n+1=c.ins.length) (h2:goesD (Cd.get4 c.ins n).op=true):lookD c s n=none:=by
 unfold lookD
 rw [st_at hn,h,decide_eq_true h1,h2]
 rfl
theorem look_eq {c:Lkr} {s:SA} {n:Nat} {r:LS} (hn:n<s.S.length) (h:runD c (Cd.get4 c.ins n) s.S[n].locals s.S[n].stack=some r) (h1:¬n+1=c.ins.length\/goesD (Cd.get4 c.ins n).op=false):lookD c s n=(handsD c (Cd.get4 c.ins n).loc s.S[n].locals c.m.hands s).bind (look1 c (Cd.get4 c.ins n) n r):=by
 unfold lookD
 rw [st_at hn,h]
 show (if (decide (n+1=c.ins.length)&&goesD (Cd.get4 c.ins n).op)=true then _ else _)=_
 rw [if_neg]
 ·
  rfl
 rcases h1 with h1 | h1
 ·
  rw [decide_eq_false h1];simp
 rw [h1];simp
theorem hands_inv {c:Lkr} (hw:Wf c) (hi1:0<c.ins.length) {loc:Int} {lo:List KindD} (hlo:lo.length=c.m.locals.toNat) (gl:∀k∈lo,GdK (Kn c) k):∀(l:List HandD),(∀h∈l,Kn c h.cls)->∀(s s':SA),s.S.length=c.ins.length->Inv c s->handsD c loc lo l s=some s'->s'.S.length=c.ins.length/\Inv c s'/\∀k (hk:k<s.S.length),s.S[k].comes=true->∃h':k<s'.S.length,s'.S[k].comes=true
 | [],_,s,s',hl,hi,h=>by
   cases h
   exact ⟨hl,hi,fun k hk hc=>⟨hk,hc⟩⟩
 | hd::l,hk,s,s',hl,hi,h=>by
   unfold handsD at h
   split at h
   ·
    obtain ⟨s1,e1,e2⟩:=Option.bind_eq_some_iff.1 h
    obtain ⟨n,-,hn,hnt⟩:=placeN_nat c.ins hd.loc hi1
    unfold comeAtD at e1
    rw [hnt]at e1
    have hn':n<s.S.length:=by rw [hl];exact hn
    have gs:∀k∈ [(⟨3,hd.cls⟩:KindD)],GdK (Kn c) k:=fun x hx=>by
     simp at hx
     rw [hx]
     exact Or.inl ⟨Or.inl rfl,hk hd (by simp)⟩
    obtain ⟨i1,i2,i3⟩:=hands_inv hw hi1 hlo gl l (fun h hh=>hk h (by simp [hh])) s1 s' (by rw [(come_len e1).1,hl]) (come_inv hw hn' hi hlo gl gs e1) e2
    exact ⟨i1,i2,fun k hk' hc=>by
     obtain ⟨h1,h2⟩:=come_comes hn' e1 k hk' hc
     exact i3 k h1 h2⟩
   exact hands_inv hw hi1 hlo gl l (fun h hh=>hk h (by simp [hh])) s s' hl hi h
structure Lkg (c:Lkr) (B P:Nat) (v:LkV) (own:Own) (sl:Nat->Value×Value) (s:SA) (w:World) (F Q:Nat) (x:Cd.Op4) (vL vS:Value) (r:LS) (own1:Own) (sl1:Nat->Value×Value) (s1:SA) (w1:World):Prop where
 cg:Cmg c B v own sl s w own1 sl1 s1 w1
 sp:Sp c F P Q x w1 vL vS r.1 r.2
 fq:own1 Q=none
 fl:∀b,vL.ownBlock=some b->own1 b=none
 fs:∀b,vS.ownBlock=some b->own1 b=none
 lw:LkW c B P v w1
theorem Sp.kpo {c:Lkr} {F P Q:Nat} {x:Cd.Op4} {w w':World} {vL vS:Value} {lo st:List KindD} {own:Own} (h:Sp c F P Q x w vL vS lo st) (hk:Kpo own w w') (hq:own Q=none) (hl:∀b,vL.ownBlock=some b->own b=none) (hs:∀b,vS.ownBlock=some b->own b=none):Sp c F P Q x w' vL vS lo st:=by
 have keep:∀ {v:Value} {l:List KindD},OwnK w F v l->(∀b,v.ownBlock=some b->own b=none)->OwnK w' F v l:=fun {v l} ho hn=>by
  refine ⟨ho.1,?_⟩
  rcases ho.2 with h1 | ⟨g,cap,cur,rfl,h2,h3,h4⟩
  ·
   exact Or.inl h1
  exact Or.inr ⟨g,cap,cur,rfl,h2,(hk.block g (lt_of h3) (by rw [hn g rfl];simp)).trans h3,h4⟩
 exact ⟨(hk.block Q (lt_of h.blk) (by rw [hq];simp)).trans h.blk,h.FQ,keep h.oL hl,keep h.oS hs,h.nL,h.nS,h.ne,h.gL,h.gS⟩
section
variable {c:Lkr} {B P:Nat} {v:LkV} {own own1 own2:Own} {sl sl1 sl2:Nat->Value×Value} {s s1 s2:SA} {w w1 w2:World} {F Q:Nat} {x:Cd.Op4} {vL vS:Value} {r:LS}
theorem Lkg.next (h:Lkg c B P v own sl s w F Q x vL vS r own1 sl1 s1 w1) (hk:Kpo own1 w1 w2) (ho:∀b,b<w1.heap.size->own2 b=own1 b) (hs:∀n (h:n<s1.S.length),s1.S[n].comes=true->sl2 n=sl1 n) (hm:LkM c B v own2 sl2 s2 w2) (hi:Inv c s2) (hcm:∀k (hk:k<s1.S.length),s1.S[k].comes=true->∃h':k<s2.S.length,s2.S[k].comes=true):Lkg c B P v own sl s w F Q x vL vS r own2 sl2 s2 w2:=
 ⟨⟨kpo_trans h.cg.kp h.cg.ox hk,fun b hb=>(ho b (Nat.lt_of_lt_of_le hb h.cg.kp.size)).trans (h.cg.ox b hb),fun k hk' hck=>by
   obtain ⟨h1,h2⟩:=h.cg.cm k hk' hck
   exact (hs k h1 h2).trans (h.cg.sx k hk' hck),fun k hk' hck=>by
   obtain ⟨h1,h2⟩:=h.cg.cm k hk' hck
   exact hcm k h1 h2,hm,hi⟩,h.sp.kpo hk h.fq h.fl h.fs,by rw [ho Q (lt_of h.sp.blk)];exact h.fq,fun b e=>by rw [ho b (h.sp.oL.lt b e).2];exact h.fl b e,fun b e=>by rw [ho b (h.sp.oS.lt b e).2];exact h.fs b e,h.lw.kpo h.cg.lk hk⟩
theorem Lkg.up (h:Lkg c B P v own sl s w F Q x vL vS r own1 sl1 s1 w1) (hb:Below w1.heap.size w1 w2):Lkg c B P v own sl s w F Q x vL vS r own1 sl1 s1 w2:=⟨h.cg.up hb,h.sp.up hb,h.fq,h.fl,h.fs,h.lw.below (hb.mono h.lw.bw)⟩
theorem Lkg.srcL (hc:Cls c.d c.L) (h:Lkg c B P v own sl s w F Q x vL vS r own1 sl1 s1 w1):Src own1 sl1 s1 w1 vL r.1:=Or.inl ⟨_,own_SLK h.sp.oL (fun k hk=>gd_small hc h.lw.kd (h.sp.gL k hk)),fun b hb=>⟨h.fl b hb,(h.sp.oL.lt b hb).2⟩⟩
theorem Lkg.slS (hc:Cls c.d c.L) (h:Lkg c B P v own sl s w F Q x vL vS r own1 sl1 s1 w1):SL 2 RK (fun b=>vS.ownBlock=some b) w1 vS r.2:=own_SLK h.sp.oS (fun k hk=>gd_small hc h.lw.kd (h.sp.gS k hk))
theorem CmOut.kpo {res:Option SA} {e:Ending} (h:CmOut c B v own1 sl1 s1 res e w1 w2):Kpo own1 w1 w2:=h.1
end
def RunOk (c:Lkr) (B P:Nat) (v:LkV) (x:Cd.Op4):Prop:=∀(W:World) (F Q:Nat) (vL vS:Value) (lo st:List KindD),LkW c B P v W->B<=F->Sp c F P Q x W vL vS lo st->st.length<=10->lo.length<=10->Calls Tryz.prog 245 #[.pointer (some ⟨Q,0,none⟩)] W fun r w'=>SpOut c F P Q x (runD c x lo st) r W w'
set_option maxRecDepth 100000 in
set_option maxHeartbeats 16000000 in
theorem look_any {c:Lkr} {B P:Nat} {v:LkV} (hw:Wf c) (w:World) (hl:LkW c B P v w) (h1:0<c.ins.length) {own:Own} {sl:Nat->Value×Value} {s:SA} (hm:LkM c B v own sl s w) (hi:Inv c s) (n:Nat) (hn:n<c.ins.length) (hcm:(s.S[n]'(by rw [hm.ls];exact hn)).comes=true) (hrun:RunOk c B P v (Cd.get4 c.ins n)) (hA:∀x lo st lo' st',runD c x lo st=some (lo',st')->lo'.length=lo.length/\(st'.length:Int)<=c.m.stack):
 Calls Tryz.prog 175 #[.pointer (some ⟨P,0,none⟩),.int .i64 (n:Int)] w fun r w'=>CmOut c B v own sl s (lookD c s n) r w w':=by
 have hnS:n<s.S.length:=by rw [hm.ls];exact hn
 have HL:=mkHid hl
 have HM:=mkHid hm
 have HI:=mkHid hi
 have HW:=mkHid hw
 have HRN:=mkHid hrun
 have HAL:=mkHid hA
 have HCM:Hid ((s.S[n]'hnS).comes=true):=hcm
 obtain ⟨x,hx⟩:∃x,x=Cd.get4 c.ins n:=⟨_,rfl⟩
 obtain ⟨lo,hlo⟩:∃lo,lo=s.S[n].locals:=⟨_,rfl⟩
 obtain ⟨st,hst⟩:∃st,st=s.S[n].stack:=⟨_,rfl⟩
 have HX:=mkHid hx
 have HLO:=mkHid hlo
 have HST:=mkHid hst
 have HLN:Hid (lo.length=c.m.locals.toNat/\lo.length<=10/\st.length<=10):=by
  have h9:=(hi n hnS).1 hcm
  have:=hw.lc.2
  rw [hlo,hst]
  exact ⟨h9.1,by omega,h9.2⟩
 have HGL:Hid (∀k∈lo,GdK (Kn c) k):=by rw [hlo];exact (hi n hnS).2.1
 have HGS:Hid (∀k∈st,GdK (Kn c) k):=by rw [hst];exact (hi n hnS).2.2
 obtain ⟨k0,k1,k2⟩:=hm.cS n hnS
 rw [hcm]at k0
 obtain ⟨aL,cL,eL,-⟩:=hm.rL n hnS
 obtain ⟨aS,cS,eS,-⟩:=hm.rS n hnS
 rw [<-hlo]at eL
 rw [<-hst]at eS
 rw [eL]at k1
 rw [eS]at k2
 have HEL:=mkHid eL
 obtain ⟨W0,hW0,hB0,hs0,hK0⟩:=boxes1 w #[.bool true,.slice aL lo.length cL,.slice aS st.length cS] 285
 have HB0:=mkHid hB0
 have HK0:=mkHid hK0
 have hl0:=hl.below (hB0.mono hl.bw)
 have hm0:=hm.up hB0
 have HL0:=mkHid hl0
 have HM0:=mkHid hm0
 have HS0:=mkHid hs0
 have p16:=cell_of hl.blk 16 (x:=.slice (some ⟨v.bS,0,none⟩) c.ins.length c.ins.length) rfl
 have p15:=cell_of hl0.blk 15 (x:=.slice (some ⟨v.gI,0,none⟩) c.ins.length v.cI) rfl
 have i0:W0.cell? ⟨v.gI,n*4,none⟩=some (.int .i64 x.loc):=by rw [hx];have:=hl0.hi.c0 n hn;rwa [Nat.zero_add]at this
 have i1:W0.cell? ⟨v.gI,n*4+1,none⟩=some (.int .i64 x.op):=by rw [hx];have:=hl0.hi.c1 n hn;rwa [Nat.zero_add]at this
 have i2:W0.cell? ⟨v.gI,n*4+2,none⟩=some (.int .i64 x.a):=by rw [hx];have:=hl0.hi.c2 n hn;rwa [Nat.zero_add]at this
 have i3:W0.cell? ⟨v.gI,n*4+3,none⟩=some (.int .i64 x.b):=by rw [hx];have:=hl0.hi.c3 n hn;rwa [Nat.zero_add]at this
 have b0:=cell_of hK0 0 (x:=.bool true) rfl
 have b1:=cell_of hK0 1 (x:=.slice aL lo.length cL) rfl
 have b2:=cell_of hK0 2 (x:=.slice aS st.length cS) rfl
 have lP:P<W0.heap.size:=lt_of hl0.blk
 have lI:v.gI<W0.heap.size:=hl0.hi.lt
 have lK:w.heap.size<W0.heap.size:=lt_of hK0
 have hn0:(0:Int)<=n:=by omega
 have hn1:(n:Int)<c.ins.length:=by omega
 have hN200:c.ins.length<=200:=hw.le
 have HC1:Hid (∀W,Below W0.heap.size W0 W->Calls Tryz.prog 100 #[.slice aL lo.length cL] W fun r w'=>Below W.heap.size W w'/\∃v',r=.returned v'/\OwnK w' W.heap.size v' lo):=fun W hW=>by
  have h9:=(hm0.up hW).rL n hnS
  rw [eL,<-hlo]at h9
  exact cloneKK_any W _ _ lo h9 (by have:=HLN.out;omega)
 have HC2:Hid (∀W,Below W0.heap.size W0 W->Calls Tryz.prog 100 #[.slice aS st.length cS] W fun r w'=>Below W.heap.size W w'/\∃v',r=.returned v'/\OwnK w' W.heap.size v' st):=fun W hW=>by
  have h9:=(hm0.up hW).rS n hnS
  rw [eS,<-hst]at h9
  exact cloneKK_any W _ _ st h9 (by have:=HLN.out;omega)
 clear hl hm hi hcm hrun hA hw eL eS hl0 hm0 hK0 hB0 hs0 hx hlo hst
 go_enter Tryz.func175,Tryz.ntmps175
 go_upto_region 1 with fail
 go_cut [5] (fun v5 W=>∃Q vL vS,v5=.pointer (some ⟨Q,0,none⟩)/\Sp c W0.heap.size P Q x W vL vS lo st/\Below W0.heap.size W0 W)
 case first=>
  rw [<-hW0]
  clear hW0 k0 k1 k2 p16
  refine wp_region_held_drew (S:=fun W'=>∀p:Addr,p.block<W0.heap.size->W'.cell? p=W0.cell? p) (by kernel_rfl) (fun p hp=>rfl) fun hH=>?_
  refine ta 0 (.pointer (some ⟨P,0,none⟩)) rfl hH ?_
  refine ta 1 (.pointer (some ⟨P,0,none⟩)) rfl hH ?_
  refine ta 2 (.pointer (some ⟨P,0,none⟩)) rfl hH ?_
  refine ta 3 (.pointer (some ⟨P,15,none⟩)) rfl hH ?_
  refine ta 4 (.slice (some ⟨v.gI,0,none⟩) c.ins.length v.cI) rfl hH ?_
  refine ta 5 (.int .i64 (n:Int)) rfl hH ?_
  refine ta 6 (.pointer (some ⟨v.gI,n*4,none⟩)) rfl hH ?_
  refine ta 7 (.agg #[.int .i64 x.loc,.int .i64 x.op,.int .i64 x.a,.int .i64 x.b]) rfl hH ?_
  refine ta 8 (.pointer (some ⟨w.heap.size,1,none⟩)) rfl hH ?_
  refine ta 9 (.slice aL lo.length cL) rfl hH ?_
  refine ta 11 (.pointer (some ⟨w.heap.size,2,none⟩)) rfl hH ?_
  refine ta 12 (.slice aS st.length cS) rfl hH ?_
  refine wpAnyH_ready (rs:=[10,15]) (by kernel_rfl) (by simp) ?_
  refine AllReadyH.cons rfl (fun K10 hK10=>?_) (AllReadyH.cons rfl (fun K15 hK15=>?_) AllReadyH.nil)
  ·
   go_simp
   refine (HC1.out _ (((Below.refl W0.heap.size W0).drew))).mono ?_
   rintro r w1 ⟨hb1,v1,rfl,ho1⟩
   obtain ⟨a1,c1,rfl⟩:=own_shape ho1
   have HB1:=mkHid hb1
   have HO1:=mkHid ho1
   clear hb1 ho1
   refine hK10.out _ _ (fun p hp=>Below.cell (B:=W0.heap.size) (w:=W0) ((((Below.refl W0.heap.size W0).drew)).trans (HB1.out.mono (((Below.refl W0.heap.size W0).drew)).size)) hp) fun hH=>?_
   refine wpAnyH_ready (rs:=[13,15]) (by kernel_rfl) (by simp) ?_
   refine AllReadyH.cons rfl (fun K13 hK13=>?_) (AllReadyH.cons rfl (fun K15 hK15=>?_) AllReadyH.nil)
   ·
    go_simp
    refine (HC2.out _ ((((Below.refl W0.heap.size W0).drew).trans HB1.out))).mono ?_
    rintro r w2 ⟨hb2,v2,rfl,ho2⟩
    obtain ⟨a2,c2,rfl⟩:=own_shape ho2
    have HB2:=mkHid hb2
    have HO2:=mkHid ho2
    clear hb2 ho2
    refine hK13.out _ _ (fun p hp=>Below.cell (B:=W0.heap.size) (w:=W0) (((((Below.refl W0.heap.size W0).drew).trans HB1.out)).trans (HB2.out.mono ((((Below.refl W0.heap.size W0).drew).trans HB1.out)).size)) hp) fun hH=>?_
    refine ta 14 (.agg #[.pointer (some ⟨P,0,none⟩),.int .i64 x.loc,.int .i64 x.op,.int .i64 x.a,.int .i64 x.b,.slice a1 lo.length c1,.slice a2 st.length c2]) rfl hH ?_
    refine wpAnyH_ready (rs:=[15]) (by kernel_rfl) (by simp) ?_
    refine AllReadyH.cons rfl (fun K15 hK15=>?_) AllReadyH.nil
    go_simp
    refine hK15.out _ _ (fun p hp=>Below.cell (B:=W0.heap.size) (w:=W0) ((((((Below.refl W0.heap.size W0).drew).trans HB1.out).trans (HB2.out.mono (((Below.refl W0.heap.size W0).drew).trans HB1.out).size))).alloc (((((Below.refl W0.heap.size W0).drew).trans HB1.out).trans (HB2.out.mono (((Below.refl W0.heap.size W0).drew).trans HB1.out).size))).size _) hp) fun hH=>?_
    have hs2:=HB2.out.size
    have hs1:W0.heap.size<=w1.heap.size:=HB1.out.size
    have hbb:Below w2.heap.size w2 (w2.alloc (.cells #[.pointer (some ⟨P,0,none⟩),.int .i64 x.loc,.int .i64 x.op,.int .i64 x.a,.int .i64 x.b,.slice a1 lo.length c1,.slice a2 st.length c2] 288)):=(Below.refl _ _).alloc (Nat.le_refl _) _
    have hFQ:W0.heap.size<=w2.heap.size:=by omega
    have HSP:Hid (Sp c W0.heap.size P w2.heap.size x (w2.alloc (.cells #[.pointer (some ⟨P,0,none⟩),.int .i64 x.loc,.int .i64 x.op,.int .i64 x.a,.int .i64 x.b,.slice a1 lo.length c1,.slice a2 st.length c2] 288)) (.slice a1 lo.length c1) (.slice a2 st.length c2) lo st):=⟨heap_alloc_new w2 _,hFQ,own_up (own_up HO1.out HB2.out) hbb,own_up (own_lower HO2.out hs1) hbb,(fun e=>by have:=(HO1.out.lt _ e).2;omega),(fun e=>by have:=(HO2.out.lt _ e).2;omega),(fun b e e'=>by have:=(HO1.out.lt _ e).2;have:=(HO2.out.lt _ e').1;omega),HGL.out,HGS.out⟩
    have HBE:Hid (Below W0.heap.size W0 (w2.alloc (.cells #[.pointer (some ⟨P,0,none⟩),.int .i64 x.loc,.int .i64 x.op,.int .i64 x.a,.int .i64 x.b,.slice a1 lo.length c1,.slice a2 st.length c2] 288))):=((((Below.refl W0.heap.size W0).drew).trans HB1.out).trans (HB2.out.mono hs1)).alloc (by omega) _
    clear hbb hFQ hs2 hs1
    refine wpAnyH_ready (rs:=[16]) (by kernel_rfl) (by simp) ?_
    refine AllReadyH.cons rfl (fun K16 hK16=>?_) AllReadyH.nil
    go_simp
    refine hK16.out _ _ (fun p hp=>Below.cell (B:=W0.heap.size) (w:=W0) HBE.out hp) fun hH=>?_
    refine wpAnyH_done (by kernel_rfl) ?_ _
    clear hH
    try simp only [Act.put,List.setIfInBounds_toArray,List.set_cons_zero,List.set_cons_succ,List.getElem_toArray,List.getElem_cons_zero,List.getElem_cons_succ]
    go_wp2_with fail
    go_meet
    exact ⟨_,_,_,rfl,HSP.out,HBE.out⟩
   go_simp
   refine hK15.out _ _ (fun p hp=>Below.cell (B:=W0.heap.size) (w:=W0) (((((Below.refl W0.heap.size W0).drew).trans HB1.out)).alloc ((((Below.refl W0.heap.size W0).drew).trans HB1.out)).size _) hp) fun hH=>?_
   refine wpAnyH_ready (rs:=[13]) (by kernel_rfl) (by simp) ?_
   refine AllReadyH.cons rfl (fun K13 hK13=>?_) AllReadyH.nil
   go_simp
   refine (HC2.out _ ((((Below.refl W0.heap.size W0).drew).trans HB1.out).alloc (((Below.refl W0.heap.size W0).drew).trans HB1.out).size (.cells #[.pointer none,.int .i64 0,.int .i64 0,.int .i64 0,.int .i64 0,.slice none 0 0,.slice none 0 0] 288))).mono ?_
   rintro r w2 ⟨hb2,v2,rfl,ho2⟩
   obtain ⟨a2,c2,rfl⟩:=own_shape ho2
   have HB2:=mkHid hb2
   have HO2:=mkHid ho2
   clear hb2 ho2
   refine hK13.out _ _ (fun p hp=>Below.cell (B:=W0.heap.size) (w:=W0) (((((Below.refl W0.heap.size W0).drew).trans HB1.out).alloc (((Below.refl W0.heap.size W0).drew).trans HB1.out).size (.cells #[.pointer none,.int .i64 0,.int .i64 0,.int .i64 0,.int .i64 0,.slice none 0 0,.slice none 0 0] 288)).trans (HB2.out.mono ((((Below.refl W0.heap.size W0).drew).trans HB1.out).alloc (((Below.refl W0.heap.size W0).drew).trans HB1.out).size (.cells #[.pointer none,.int .i64 0,.int .i64 0,.int .i64 0,.int .i64 0,.slice none 0 0,.slice none 0 0] 288)).size)) hp) fun hH=>?_
   refine ta 14 (.agg #[.pointer (some ⟨P,0,none⟩),.int .i64 x.loc,.int .i64 x.op,.int .i64 x.a,.int .i64 x.b,.slice a1 lo.length c1,.slice a2 st.length c2]) rfl hH ?_
   have hs1:W0.heap.size<=w1.heap.size:=HB1.out.size
   have hwz:(w1.alloc (.cells #[.pointer none,.int .i64 0,.int .i64 0,.int .i64 0,.int .i64 0,.slice none 0 0,.slice none 0 0] 288)).heap.size=w1.heap.size+1:=by simp
   have hbb:Below w1.heap.size w1 (w1.alloc (.cells #[.pointer none,.int .i64 0,.int .i64 0,.int .i64 0,.int .i64 0,.slice none 0 0,.slice none 0 0] 288)):=(Below.refl _ _).alloc (Nat.le_refl _) _
   have hZ:w2.heap[w1.heap.size]? =some (.cells #[.pointer none,.int .i64 0,.int .i64 0,.int .i64 0,.int .i64 0,.slice none 0 0,.slice none 0 0] 288 (0,0)):=(HB2.out.block _ (by omega)).trans (heap_alloc_new w1 _)
   have hFQ:W0.heap.size<=w1.heap.size:=hs1
   have hL9:OwnK w2 W0.heap.size (.slice a1 lo.length c1) lo:=own_up (own_up HO1.out hbb) HB2.out
   have hS9:OwnK w2 W0.heap.size (.slice a2 st.length c2) st:=own_lower HO2.out (by omega)
   have hqL:(Value.slice a1 lo.length c1).ownBlock≠some w1.heap.size:=fun e=>by have:=(HO1.out.lt _ e).2;omega
   have hqS:(Value.slice a2 st.length c2).ownBlock≠some w1.heap.size:=fun e=>by have:=(HO2.out.lt _ e).1;omega
   have hne:∀b,(Value.slice a1 lo.length c1).ownBlock=some b->(Value.slice a2 st.length c2).ownBlock≠some b:=fun b e e'=>by have:=(HO1.out.lt _ e).2;have:=(HO2.out.lt _ e').1;omega
   have hBZ:Below W0.heap.size W0 w2:=((((Below.refl W0.heap.size W0).drew).trans HB1.out).alloc hs1 _).trans (HB2.out.mono (by omega))
   have z0:=cell_of hZ 0 (x:=.pointer none) rfl
   have z1:=cell_of hZ 1 (x:=.int .i64 0) rfl
   have z2:=cell_of hZ 2 (x:=.int .i64 0) rfl
   have z3:=cell_of hZ 3 (x:=.int .i64 0) rfl
   have z4:=cell_of hZ 4 (x:=.int .i64 0) rfl
   have z5:=cell_of hZ 5 (x:=.slice none 0 0) rfl
   have z6:=cell_of hZ 6 (x:=.slice none 0 0) rfl
   have zf:=frz_of hZ
   have HSP:=mkHid (step_made (c:=c) (P:=P) (x:=x) hZ hFQ hL9 hS9 hqL hqS hne HGL.out HGS.out)
   have HBE:=mkHid (seven_below (w1.heap.size) (.pointer (some ⟨P,0,none⟩)) (.int .i64 x.loc) (.int .i64 x.op) (.int .i64 x.a) (.int .i64 x.b) (.slice a1 lo.length c1) (.slice a2 st.length c2) hBZ hFQ)
   clear hZ hFQ hL9 hS9 hqL hqS hne hBZ
   refine wpAnyH_ready (rs:=[16]) (by kernel_rfl) (by simp) ?_
   refine AllReadyH.cons rfl (fun K16 hK16=>?_) AllReadyH.nil
   go_simp
   refine hK16.out _ _ (fun p hp=>Below.cell (B:=W0.heap.size) (w:=W0) HBE.out hp) fun hH=>?_
   refine wpAnyH_done (by kernel_rfl) ?_ _
   clear hH
   try simp only [Act.put,List.setIfInBounds_toArray,List.set_cons_zero,List.set_cons_succ,List.getElem_toArray,List.getElem_cons_zero,List.getElem_cons_succ]
   go_wp2_with fail
   go_meet
   exact ⟨_,_,_,rfl,HSP.out,HBE.out⟩
  go_simp
  refine hK15.out _ _ (fun p hp=>Below.cell (B:=W0.heap.size) (w:=W0) ((((Below.refl W0.heap.size W0).drew)).alloc (((Below.refl W0.heap.size W0).drew)).size _) hp) fun hH=>?_
  refine wpAnyH_ready (rs:=[10]) (by kernel_rfl) (by simp) ?_
  refine AllReadyH.cons rfl (fun K10 hK10=>?_) AllReadyH.nil
  go_simp
  refine (HC1.out _ ((((Below.refl W0.heap.size W0).drew).alloc (Nat.le_refl _) (.cells #[.pointer none,.int .i64 0,.int .i64 0,.int .i64 0,.int .i64 0,.slice none 0 0,.slice none 0 0] 288)))).mono ?_
  rintro r w1 ⟨hb1,v1,rfl,ho1⟩
  obtain ⟨a1,c1,rfl⟩:=own_shape ho1
  have HB1:=mkHid hb1
  have HO1:=mkHid ho1
  clear hb1 ho1
  refine hK10.out _ _ (fun p hp=>Below.cell (B:=W0.heap.size) (w:=W0) (((((Below.refl W0.heap.size W0).drew).alloc (Nat.le_refl _) (.cells #[.pointer none,.int .i64 0,.int .i64 0,.int .i64 0,.int .i64 0,.slice none 0 0,.slice none 0 0] 288))).trans (HB1.out.mono ((((Below.refl W0.heap.size W0).drew).alloc (Nat.le_refl _) (.cells #[.pointer none,.int .i64 0,.int .i64 0,.int .i64 0,.int .i64 0,.slice none 0 0,.slice none 0 0] 288))).size)) hp) fun hH=>?_
  refine wpAnyH_ready (rs:=[13]) (by kernel_rfl) (by simp) ?_
  refine AllReadyH.cons rfl (fun K13 hK13=>?_) AllReadyH.nil
  go_simp
  refine (HC2.out _ ((((Below.refl W0.heap.size W0).drew).alloc (Nat.le_refl _) (.cells #[.pointer none,.int .i64 0,.int .i64 0,.int .i64 0,.int .i64 0,.slice none 0 0,.slice none 0 0] 288)).trans (HB1.out.mono ((((Below.refl W0.heap.size W0).drew).alloc (Nat.le_refl _) (.cells #[.pointer none,.int .i64 0,.int .i64 0,.int .i64 0,.int .i64 0,.slice none 0 0,.slice none 0 0] 288))).size))).mono ?_
  rintro r w2 ⟨hb2,v2,rfl,ho2⟩
  obtain ⟨a2,c2,rfl⟩:=own_shape ho2
  have HB2:=mkHid hb2
  have HO2:=mkHid ho2
  clear hb2 ho2
  refine hK13.out _ _ (fun p hp=>Below.cell (B:=W0.heap.size) (w:=W0) (((((Below.refl W0.heap.size W0).drew).alloc (Nat.le_refl _) (.cells #[.pointer none,.int .i64 0,.int .i64 0,.int .i64 0,.int .i64 0,.slice none 0 0,.slice none 0 0] 288)).trans (HB1.out.mono ((((Below.refl W0.heap.size W0).drew).alloc (Nat.le_refl _) (.cells #[.pointer none,.int .i64 0,.int .i64 0,.int .i64 0,.int .i64 0,.slice none 0 0,.slice none 0 0] 288))).size)).trans (HB2.out.mono ((((Below.refl W0.heap.size W0).drew).alloc (Nat.le_refl _) (.cells #[.pointer none,.int .i64 0,.int .i64 0,.int .i64 0,.int .i64 0,.slice none 0 0,.slice none 0 0] 288)).trans (HB1.out.mono ((((Below.refl W0.heap.size W0).drew).alloc (Nat.le_refl _) (.cells #[.pointer none,.int .i64 0,.int .i64 0,.int .i64 0,.int .i64 0,.slice none 0 0,.slice none 0 0] 288))).size)).size)) hp) fun hH=>?_
  refine ta 14 (.agg #[.pointer (some ⟨P,0,none⟩),.int .i64 x.loc,.int .i64 x.op,.int .i64 x.a,.int .i64 x.b,.slice a1 lo.length c1,.slice a2 st.length c2]) rfl hH ?_
  have hwz:(W0.drew.alloc (.cells #[.pointer none,.int .i64 0,.int .i64 0,.int .i64 0,.int .i64 0,.slice none 0 0,.slice none 0 0] 288)).heap.size=W0.heap.size+1:=by simp
  have hZ:w2.heap[W0.heap.size]? =some (.cells #[.pointer none,.int .i64 0,.int .i64 0,.int .i64 0,.int .i64 0,.slice none 0 0,.slice none 0 0] 288 (0,0)):=(HB2.out.block _ (by have:=HB1.out.size;omega)).trans ((HB1.out.block _ (by omega)).trans (heap_alloc_new W0.drew _))
  have hFQ:W0.heap.size<=W0.heap.size:=Nat.le_refl _
  have hL9:OwnK w2 W0.heap.size (.slice a1 lo.length c1) lo:=own_lower (own_up HO1.out HB2.out) (by omega)
  have hS9:OwnK w2 W0.heap.size (.slice a2 st.length c2) st:=own_lower HO2.out (by have:=HB1.out.size;omega)
  have hqL:(Value.slice a1 lo.length c1).ownBlock≠some W0.heap.size:=fun e=>by have:=(HO1.out.lt _ e).1;omega
  have hqS:(Value.slice a2 st.length c2).ownBlock≠some W0.heap.size:=fun e=>by have:=(HO2.out.lt _ e).1;have:=HB1.out.size;omega
  have hne:∀b,(Value.slice a1 lo.length c1).ownBlock=some b->(Value.slice a2 st.length c2).ownBlock≠some b:=fun b e e'=>by have:=(HO1.out.lt _ e).2;have:=(HO2.out.lt _ e').1;omega
  have hBZ:Below W0.heap.size W0 w2:=((((Below.refl W0.heap.size W0).drew).alloc (Nat.le_refl _) (.cells #[.pointer none,.int .i64 0,.int .i64 0,.int .i64 0,.int .i64 0,.slice none 0 0,.slice none 0 0] 288)).trans (HB1.out.mono (by omega))).trans (HB2.out.mono (by have:=HB1.out.size;omega))
  have z0:=cell_of hZ 0 (x:=.pointer none) rfl
  have z1:=cell_of hZ 1 (x:=.int .i64 0) rfl
  have z2:=cell_of hZ 2 (x:=.int .i64 0) rfl
  have z3:=cell_of hZ 3 (x:=.int .i64 0) rfl
  have z4:=cell_of hZ 4 (x:=.int .i64 0) rfl
  have z5:=cell_of hZ 5 (x:=.slice none 0 0) rfl
  have z6:=cell_of hZ 6 (x:=.slice none 0 0) rfl
  have zf:=frz_of hZ
  have HSP:=mkHid (step_made (c:=c) (P:=P) (x:=x) hZ hFQ hL9 hS9 hqL hqS hne HGL.out HGS.out)
  have HBE:=mkHid (seven_below (W0.heap.size) (.pointer (some ⟨P,0,none⟩)) (.int .i64 x.loc) (.int .i64 x.op) (.int .i64 x.a) (.int .i64 x.b) (.slice a1 lo.length c1) (.slice a2 st.length c2) hBZ hFQ)
  clear hZ hFQ hL9 hS9 hqL hqS hne hBZ
  refine wpAnyH_ready (rs:=[16]) (by kernel_rfl) (by simp) ?_
  refine AllReadyH.cons rfl (fun K16 hK16=>?_) AllReadyH.nil
  go_simp
  refine hK16.out _ _ (fun p hp=>Below.cell (B:=W0.heap.size) (w:=W0) HBE.out hp) fun hH=>?_
  refine wpAnyH_done (by kernel_rfl) ?_ _
  clear hH
  try simp only [Act.put,List.setIfInBounds_toArray,List.set_cons_zero,List.set_cons_succ,List.getElem_toArray,List.getElem_cons_zero,List.getElem_cons_succ]
  go_wp2_with fail
  go_meet
  exact ⟨_,_,_,rfl,HSP.out,HBE.out⟩
 case rest=>
  rename World=>W
  obtain ⟨Q,vL,vS,rfl,hsp,hbw⟩:=hcut
  have HBW:=mkHid hbw
  have hlW:=HL0.out.below (hbw.mono HL0.out.bw)
  have HR0:Hid (Calls Tryz.prog 245 #[.pointer (some ⟨Q,0,none⟩)] W fun r w'=>SpOut c W0.heap.size P Q x (runD c x lo st) r W w'):=(by rw [HX.out];exact HRN.out W W0.heap.size Q vL vS lo st hlW HL0.out.bw (HX.out ▸ hsp) HLN.out.2.2 HLN.out.2.1)
  have HRD:Hid (runD c (Cd.get4 c.ins n) s.S[n].locals s.S[n].stack=runD c x lo st):=by show _=_;rw [HX.out,HLO.out,HST.out]
  have HBa:=mkHid (HB0.out.trans (HBW.out.mono HB0.out.size))
  clear hlW hsp hbw k0 k1 k2 p15 p16 i0 i1 i2 i3 b0 b1 b2 hW0 HC1 HC2
  go_wp2_with fail
  refine HR0.out.mono ?_
  rintro r w1 ⟨hb1,⟨⟨lo1,st1⟩,vL1,vS1,hres,rfl,hp1⟩ | ⟨hres,e1,p1,he1,rfl⟩⟩
  rotate_left
  ·
   exact ⟨rfl,Wr.of (HBa.out.trans (hb1.mono HB0.out.size)),Or.inr ⟨look_no hnS (HRD.out.trans hres),e1,p1,he1,rfl⟩⟩
  have HB1:=mkHid (HBa.out.trans (hb1.mono HB0.out.size))
  have hB01:Below W0.heap.size W0 w1:=HBW.out.trans hb1
  have HP1:=mkHid hp1
  have HRS:=mkHid (HRD.out.trans hres)
  have HLS:=mkHid (HAL.out _ _ _ _ _ hres)
  have own0:∀b,w.heap.size<=b->own b=none:=fun b hb=>by
   cases e:own b with
   | none=>rfl
   | some t=>exact absurd (HM.out.lt e) (by omega)
  have HG1:Hid (Lkg c B P v own sl s w W0.heap.size Q x vL1 vS1 (lo1,st1) own sl s w1):=⟨(Cmg.start HM.out HI.out).up HB1.out,hp1,own0 Q (by have:=hp1.FQ;have:=HS0.out;omega),fun b e=>own0 b (by have:=(hp1.oL.lt b e).1;have:=HS0.out;omega),fun b e=>own0 b (by have:=(hp1.oS.lt b e).1;have:=HS0.out;omega),HL.out.below (HB1.out.mono HL.out.bw)⟩
  have q1:=cell_of hp1.blk 1 (x:=.int .i64 x.loc) rfl
  have q2:=cell_of hp1.blk 2 (x:=.int .i64 x.op) rfl
  have m15:=cell_of HG1.out.lw.blk 15 (x:=.slice (some ⟨v.gI,0,none⟩) c.ins.length v.cI) rfl
  have hK1:=(hB01.block _ (lt_of HK0.out)).trans HK0.out
  have n1:=cell_of hK1 1 (x:=.slice aL lo.length cL) rfl
  have hwr:IntKind.i64.wrap ((c.ins.length:Int) - 1)=(c.ins.length:Int) - 1:=by rw [IntKind.wrap_i64];omega
  have HGO:=mkHid (goesOn_any w1 hp1)
  have HDM:=mkHid (fun b=>sdemand_any w1 hp1 b 1)
  have HHN:Hid (Calls Tryz.prog 248 #[.pointer (some ⟨P,0,none⟩),.int .i64 x.loc,.slice aL lo.length cL] w1 fun r w'=>CmOut c B v own sl s (handsD c x.loc lo c.m.hands s) r w1 w'):=hands_any HW.out w1 HG1.out.lw h1 HG1.out.cg.lk HI.out x.loc (.slice aL lo.length cL) lo (Or.inr ⟨n,hnS,HCM.out,HEL.out.symm,HLO.out⟩) HLN.out.1 HGL.out
  clear hb1 hres hp1 hB01 hK1 own0
  have HCONT:Hid (∀(hls:¬n+1=c.ins.length\/goesD x.op=false),lookD c s n=(handsD c x.loc lo c.m.hands s).bind (look1 c x n (lo1,st1))):=fun hls=>by
   have:=look_eq hnS HRS.out (HX.out ▸ hls)
   rw [<-HX.out,<-HLO.out]at this
   exact this
  by_cases hls:n+1=c.ins.length
  ·
   have hlb:((n:Int)==(c.ins.length:Int) - 1)=true:=by rw [beq_iff_eq];omega
   cases hg:goesD x.op with
   | true=>
     have HLK:=mkHid (look_last hnS HRS.out hls (by rw [<-HX.out];exact hg))
     rw [hg]at HGO
     go_wp2_with fail
     refine HGO.out.mono ?_
     rintro r w2 ⟨rfl,hw2⟩
     rw [hw2]
     go_wp2_with fail
     refine (HDM.out _).mono ?_
     rintro r w3 ⟨hw3,⟨hb,rfl⟩ | ⟨hb,rfl⟩⟩
     ·
      exact ⟨rfl,by rw [hw3];exact Wr.of HB1.out,Or.inr ⟨HLK.out,1,_,by decide,rfl⟩⟩
     exact absurd hb (by simp)
   | false=>
     have HEQ:=mkHid (HCONT.out (Or.inr hg))
     have HGO2:=mkHid hg
     rw [hg]at HGO
     go_wp2_with fail
     refine HGO.out.mono ?_
     rintro r w2 ⟨rfl,hw2⟩
     rw [hw2]
     clear hw2 w2
     go_wp2_with fail
     refine (HDM.out _).mono ?_
     rintro r w3 ⟨hw3,⟨hb,rfl⟩ | ⟨hb,rfl⟩⟩
     ·
      exact absurd hb (by simp)
     rw [hw3]
     clear hw3 hb w3
     have HLO1:Hid (lo1.length=c.m.locals.toNat):=HLS.out.1.trans HLN.out.1
     have HST1:Hid (st1.length<=1000):=(by have:=HLS.out.2;have:=HW.out.st.2;omega:st1.length<=1000)
     go_wp2_with fail
     refine HHN.out.mono ?_
     rintro r w4 ⟨hk4,⟨s4,own4,sl4,hr4,rfl,ho4,hs4,hm4⟩ | ⟨hr4,e4,p4,he4,rfl⟩⟩
     rotate_left
     ·
      exact ⟨rfl,kpo_trans HG1.out.cg.kp HG1.out.cg.ox hk4,Or.inr ⟨HEQ.out.trans (by rw [hr4];rfl),e4,p4,he4,rfl⟩⟩
     obtain ⟨hl4,hi4,hc4⟩:=hands_inv HW.out h1 HLN.out.1 HGL.out c.m.hands HW.out.hk s s4 HM.out.ls HI.out hr4
     have HG4:=mkHid (HG1.out.next hk4 ho4 hs4 hm4 hi4 hc4)
     have HE4:=mkHid (HEQ.out.trans (by rw [hr4];rfl:_=look1 c x n (lo1,st1) s4))
     have q1_4:=cell_of HG4.out.sp.blk 1 (x:=.int .i64 x.loc) rfl
     have q2_4:=cell_of HG4.out.sp.blk 2 (x:=.int .i64 x.op) rfl
     have q3_4:=cell_of HG4.out.sp.blk 3 (x:=.int .i64 x.a) rfl
     have q5_4:=cell_of HG4.out.sp.blk 5 (x:=vL1) rfl
     have q6_4:=cell_of HG4.out.sp.blk 6 (x:=vS1) rfl
     clear hk4 hr4 ho4 hs4 hm4 hi4 hc4 hl4 q1 q2 m15 n1 HHN
     have h4:¬x.op=4:=fun e=>by rw [e]at hg;cases hg
     have h4b:(x.op==4)=false:=beq_eq_false_iff_ne.2 h4
     have HE5:=mkHid (HE4.out.trans (by unfold look1;rw [if_neg h4];show look2 c x n (lo1,st1) s4=_;unfold look2;rw [hg];rfl:_=look3 c x (lo1,st1) s4))
     clear h4 hg
     go_wp2_with fail
     refine (goesOn_any _ HG4.out.sp).mono ?_
     rw [HGO2.out]
     rintro r w8 ⟨rfl,hw8⟩
     rw [hw8]
     clear hw8 w8
     go_wp2_with fail
     cases hbr:brD x.op with
     | false=>
       have HBR:=mkHid hbr
       have HE9:=mkHid (HE5.out.trans (by unfold look3;rw [hbr];rfl:_=some s4))
       refine (branches_any _ HG4.out.sp).mono ?_
       rw [HBR.out]
       rintro r w8 ⟨rfl,hw8⟩
       rw [hw8]
       clear hw8 w8
       go_wp2_with fail
       go_end0
       exact HG4.out.cg.out HE9.out
     | true=>
       have HBR:=mkHid hbr
       have HE9:=mkHid (HE5.out.trans (by unfold look3;rw [if_pos hbr]:_=comeAtD c s4 x.a lo1 st1))
       refine (branches_any _ HG4.out.sp).mono ?_
       rw [HBR.out]
       rintro r w8 ⟨rfl,hw8⟩
       rw [hw8]
       clear hw8 w8
       go_wp2_with fail
       refine (comeAt_any HW.out _ HG4.out.lw h1 HG4.out.cg.lk HG4.out.cg.iv x.a vL1 vS1 lo1 st1 (HG4.out.srcL HW.out.cls) _ (HG4.out.slS HW.out.cls) (fun b hb=>HG4.out.fs b hb) HLO1.out HST1.out HG4.out.sp.gL HG4.out.sp.gS).mono ?_
       rintro r w9 ⟨hk9,⟨s9,own9,sl9,hr9,rfl,ho9,hs9,hm9⟩ | ⟨hr9,e9,p9,he9,rfl⟩⟩
       rotate_left
       ·
        exact ⟨rfl,kpo_trans HG4.out.cg.kp HG4.out.cg.ox hk9,Or.inr ⟨HE9.out.trans hr9,e9,p9,he9,rfl⟩⟩
       obtain ⟨nP9,-,hnP9,hnt9⟩:=placeN_nat c.ins x.a h1
       have HN9:Hid (nP9<s4.S.length):=(by rw [HG4.out.cg.lk.ls];exact hnP9:nP9<s4.S.length)
       have hr9':comeD c s4 nP9 lo1 st1=some s9:=by rw [<-hr9];unfold comeAtD;rw [hnt9]
       have HG9:=mkHid (HG4.out.next hk9 ho9 hs9 hm9 (come_inv HW.out HN9.out HG4.out.cg.iv HLO1.out HG4.out.sp.gL HG4.out.sp.gS hr9') (come_comes HN9.out hr9'))
       have HE10:=mkHid (HE9.out.trans (by rw [hr9]))
       clear hk9 hr9 hr9' ho9 hs9 hm9
       go_wp2_with fail
       go_end0
       exact HG9.out.cg.out HE10.out
  have hlb:((n:Int)==(c.ins.length:Int) - 1)=false:=by rw [beq_eq_false_iff_ne];omega
  have HEQ:=mkHid (HCONT.out (Or.inl hls))
  go_wp2_with fail
  refine (HDM.out _).mono ?_
  rintro r w3 ⟨hw3,⟨hb,rfl⟩ | ⟨hb,rfl⟩⟩
  ·
   exact absurd hb (by simp)
  rw [hw3]
  clear hw3 hb w3
  cases hg:goesD x.op with
  | false=>
    have HGO2:=mkHid hg
    have HLO1:Hid (lo1.length=c.m.locals.toNat):=HLS.out.1.trans HLN.out.1
    have HST1:Hid (st1.length<=1000):=(by have:=HLS.out.2;have:=HW.out.st.2;omega:st1.length<=1000)
    go_wp2_with fail
    refine HHN.out.mono ?_
    rintro r w4 ⟨hk4,⟨s4,own4,sl4,hr4,rfl,ho4,hs4,hm4⟩ | ⟨hr4,e4,p4,he4,rfl⟩⟩
    rotate_left
    ·
     exact ⟨rfl,kpo_trans HG1.out.cg.kp HG1.out.cg.ox hk4,Or.inr ⟨HEQ.out.trans (by rw [hr4];rfl),e4,p4,he4,rfl⟩⟩
    obtain ⟨hl4,hi4,hc4⟩:=hands_inv HW.out h1 HLN.out.1 HGL.out c.m.hands HW.out.hk s s4 HM.out.ls HI.out hr4
    have HG4:=mkHid (HG1.out.next hk4 ho4 hs4 hm4 hi4 hc4)
    have HE4:=mkHid (HEQ.out.trans (by rw [hr4];rfl:_=look1 c x n (lo1,st1) s4))
    have q1_4:=cell_of HG4.out.sp.blk 1 (x:=.int .i64 x.loc) rfl
    have q2_4:=cell_of HG4.out.sp.blk 2 (x:=.int .i64 x.op) rfl
    have q3_4:=cell_of HG4.out.sp.blk 3 (x:=.int .i64 x.a) rfl
    have q5_4:=cell_of HG4.out.sp.blk 5 (x:=vL1) rfl
    have q6_4:=cell_of HG4.out.sp.blk 6 (x:=vS1) rfl
    clear hk4 hr4 ho4 hs4 hm4 hi4 hc4 hl4 q1 q2 m15 n1 HHN
    have h4:¬x.op=4:=fun e=>by rw [e]at hg;cases hg
    have h4b:(x.op==4)=false:=beq_eq_false_iff_ne.2 h4
    have HE5:=mkHid (HE4.out.trans (by unfold look1;rw [if_neg h4];show look2 c x n (lo1,st1) s4=_;unfold look2;rw [hg];rfl:_=look3 c x (lo1,st1) s4))
    clear h4 hg
    go_wp2_with fail
    refine (goesOn_any _ HG4.out.sp).mono ?_
    rw [HGO2.out]
    rintro r w8 ⟨rfl,hw8⟩
    rw [hw8]
    clear hw8 w8
    go_wp2_with fail
    cases hbr:brD x.op with
    | false=>
      have HBR:=mkHid hbr
      have HE9:=mkHid (HE5.out.trans (by unfold look3;rw [hbr];rfl:_=some s4))
      refine (branches_any _ HG4.out.sp).mono ?_
      rw [HBR.out]
      rintro r w8 ⟨rfl,hw8⟩
      rw [hw8]
      clear hw8 w8
      go_wp2_with fail
      go_end0
      exact HG4.out.cg.out HE9.out
    | true=>
      have HBR:=mkHid hbr
      have HE9:=mkHid (HE5.out.trans (by unfold look3;rw [if_pos hbr]:_=comeAtD c s4 x.a lo1 st1))
      refine (branches_any _ HG4.out.sp).mono ?_
      rw [HBR.out]
      rintro r w8 ⟨rfl,hw8⟩
      rw [hw8]
      clear hw8 w8
      go_wp2_with fail
      refine (comeAt_any HW.out _ HG4.out.lw h1 HG4.out.cg.lk HG4.out.cg.iv x.a vL1 vS1 lo1 st1 (HG4.out.srcL HW.out.cls) _ (HG4.out.slS HW.out.cls) (fun b hb=>HG4.out.fs b hb) HLO1.out HST1.out HG4.out.sp.gL HG4.out.sp.gS).mono ?_
      rintro r w9 ⟨hk9,⟨s9,own9,sl9,hr9,rfl,ho9,hs9,hm9⟩ | ⟨hr9,e9,p9,he9,rfl⟩⟩
      rotate_left
      ·
       exact ⟨rfl,kpo_trans HG4.out.cg.kp HG4.out.cg.ox hk9,Or.inr ⟨HE9.out.trans hr9,e9,p9,he9,rfl⟩⟩
      obtain ⟨nP9,-,hnP9,hnt9⟩:=placeN_nat c.ins x.a h1
      have HN9:Hid (nP9<s4.S.length):=(by rw [HG4.out.cg.lk.ls];exact hnP9:nP9<s4.S.length)
      have hr9':comeD c s4 nP9 lo1 st1=some s9:=by rw [<-hr9];unfold comeAtD;rw [hnt9]
      have HG9:=mkHid (HG4.out.next hk9 ho9 hs9 hm9 (come_inv HW.out HN9.out HG4.out.cg.iv HLO1.out HG4.out.sp.gL HG4.out.sp.gS hr9') (come_comes HN9.out hr9'))
      have HE10:=mkHid (HE9.out.trans (by rw [hr9]))
      clear hk9 hr9 hr9' ho9 hs9 hm9
      go_wp2_with fail
      go_end0
      exact HG9.out.cg.out HE10.out
  | true=>
    have HGO2:=mkHid hg
    have HLO1:Hid (lo1.length=c.m.locals.toNat):=HLS.out.1.trans HLN.out.1
    have HST1:Hid (st1.length<=1000):=(by have:=HLS.out.2;have:=HW.out.st.2;omega:st1.length<=1000)
    have HN1:Hid (n+1<c.ins.length):=(by omega:n+1<c.ins.length)
    go_wp2_with fail
    refine HHN.out.mono ?_
    rintro r w4 ⟨hk4,⟨s4,own4,sl4,hr4,rfl,ho4,hs4,hm4⟩ | ⟨hr4,e4,p4,he4,rfl⟩⟩
    rotate_left
    ·
     exact ⟨rfl,kpo_trans HG1.out.cg.kp HG1.out.cg.ox hk4,Or.inr ⟨HEQ.out.trans (by rw [hr4];rfl),e4,p4,he4,rfl⟩⟩
    obtain ⟨hl4,hi4,hc4⟩:=hands_inv HW.out h1 HLN.out.1 HGL.out c.m.hands HW.out.hk s s4 HM.out.ls HI.out hr4
    have HG4:=mkHid (HG1.out.next hk4 ho4 hs4 hm4 hi4 hc4)
    have HE4:=mkHid (HEQ.out.trans (by rw [hr4];rfl:_=look1 c x n (lo1,st1) s4))
    have q1_4:=cell_of HG4.out.sp.blk 1 (x:=.int .i64 x.loc) rfl
    have q2_4:=cell_of HG4.out.sp.blk 2 (x:=.int .i64 x.op) rfl
    have q3_4:=cell_of HG4.out.sp.blk 3 (x:=.int .i64 x.a) rfl
    have q5_4:=cell_of HG4.out.sp.blk 5 (x:=vL1) rfl
    have q6_4:=cell_of HG4.out.sp.blk 6 (x:=vS1) rfl
    clear hk4 hr4 ho4 hs4 hm4 hi4 hc4 hl4 q1 q2 m15 n1 HHN
    by_cases h4:x.op=4
    ·
     have h4b:(x.op==4)=true:=by rw [h4];rfl
     have HE4b:=mkHid (HE4.out.trans (by unfold look1;rw [if_pos h4]:_=(handsD c x.loc lo1 c.m.hands s4).bind (look2 c x n (lo1,st1))))
     clear h4
     go_wp2_with fail
     refine (hands_any HW.out _ HG4.out.lw h1 HG4.out.cg.lk HG4.out.cg.iv x.loc vL1 lo1 (HG4.out.srcL HW.out.cls) HLO1.out HG4.out.sp.gL).mono ?_
     rintro r w5 ⟨hk5,⟨s5,own5,sl5,hr5,rfl,ho5,hs5,hm5⟩ | ⟨hr5,e5,p5,he5,rfl⟩⟩
     rotate_left
     ·
      exact ⟨rfl,kpo_trans HG4.out.cg.kp HG4.out.cg.ox hk5,Or.inr ⟨HE4b.out.trans (by rw [hr5];rfl),e5,p5,he5,rfl⟩⟩
     obtain ⟨hl5,hi5,hc5⟩:=hands_inv HW.out h1 HLO1.out HG4.out.sp.gL c.m.hands HW.out.hk s4 s5 HG4.out.cg.lk.ls HG4.out.cg.iv hr5
     have HG5:=mkHid (HG4.out.next hk5 ho5 hs5 hm5 hi5 hc5)
     have HE5:=mkHid (HE4b.out.trans (by rw [hr5];show look2 c x n (lo1,st1) s5=_;unfold look2;rw [hg];rfl:_=(comeD c s5 (n+1) lo1 st1).bind (look3 c x (lo1,st1))))
     have q1_5:=cell_of HG5.out.sp.blk 1 (x:=.int .i64 x.loc) rfl
     have q2_5:=cell_of HG5.out.sp.blk 2 (x:=.int .i64 x.op) rfl
     have q3_5:=cell_of HG5.out.sp.blk 3 (x:=.int .i64 x.a) rfl
     have q5_5:=cell_of HG5.out.sp.blk 5 (x:=vL1) rfl
     have q6_5:=cell_of HG5.out.sp.blk 6 (x:=vS1) rfl
     clear q1_4 q2_4 q3_4 q5_4 q6_4
     clear hk5 hr5 ho5 hs5 hm5 hi5 hc5 hl5
     go_wp2_with fail
     refine (goesOn_any _ HG5.out.sp).mono ?_
     rw [HGO2.out]
     rintro r w8 ⟨rfl,hw8⟩
     rw [hw8]
     clear hw8 w8
     go_wp2_with fail
     refine (come_any HW.out _ HG5.out.lw HG5.out.cg.lk HG5.out.cg.iv (n+1) HN1.out vL1 vS1 lo1 st1 (HG5.out.srcL HW.out.cls) _ (HG5.out.slS HW.out.cls) (fun b hb=>HG5.out.fs b hb) HLO1.out HST1.out HG5.out.sp.gL HG5.out.sp.gS).mono ?_
     rintro r w6 ⟨hk6,⟨s6,own6,sl6,hr6,rfl,ho6,hs6,hm6⟩ | ⟨hr6,e6,p6,he6,rfl⟩⟩
     rotate_left
     ·
      exact ⟨rfl,kpo_trans HG5.out.cg.kp HG5.out.cg.ox hk6,Or.inr ⟨HE5.out.trans (by rw [hr6];rfl),e6,p6,he6,rfl⟩⟩
     have HN6:Hid (n+1<s5.S.length):=(by rw [HG5.out.cg.lk.ls];exact HN1.out:n+1<s5.S.length)
     have HG6:=mkHid (HG5.out.next hk6 ho6 hs6 hm6 (come_inv HW.out HN6.out HG5.out.cg.iv HLO1.out HG5.out.sp.gL HG5.out.sp.gS hr6) (come_comes HN6.out hr6))
     have HE6:=mkHid (HE5.out.trans (by rw [hr6];rfl:_=look3 c x (lo1,st1) s6))
     have q1_6:=cell_of HG6.out.sp.blk 1 (x:=.int .i64 x.loc) rfl
     have q2_6:=cell_of HG6.out.sp.blk 2 (x:=.int .i64 x.op) rfl
     have q3_6:=cell_of HG6.out.sp.blk 3 (x:=.int .i64 x.a) rfl
     have q5_6:=cell_of HG6.out.sp.blk 5 (x:=vL1) rfl
     have q6_6:=cell_of HG6.out.sp.blk 6 (x:=vS1) rfl
     clear hk6 hr6 ho6 hs6 hm6
     clear q1_5 q2_5 q3_5 q5_5 q6_5
     go_wp2_with fail
     cases hbr:brD x.op with
     | false=>
       have HBR:=mkHid hbr
       have HE9:=mkHid (HE6.out.trans (by unfold look3;rw [hbr];rfl:_=some s6))
       refine (branches_any _ HG6.out.sp).mono ?_
       rw [HBR.out]
       rintro r w8 ⟨rfl,hw8⟩
       rw [hw8]
       clear hw8 w8
       go_wp2_with fail
       go_end0
       exact HG6.out.cg.out HE9.out
     | true=>
       have HBR:=mkHid hbr
       have HE9:=mkHid (HE6.out.trans (by unfold look3;rw [if_pos hbr]:_=comeAtD c s6 x.a lo1 st1))
       refine (branches_any _ HG6.out.sp).mono ?_
       rw [HBR.out]
       rintro r w8 ⟨rfl,hw8⟩
       rw [hw8]
       clear hw8 w8
       go_wp2_with fail
       refine (comeAt_any HW.out _ HG6.out.lw h1 HG6.out.cg.lk HG6.out.cg.iv x.a vL1 vS1 lo1 st1 (HG6.out.srcL HW.out.cls) _ (HG6.out.slS HW.out.cls) (fun b hb=>HG6.out.fs b hb) HLO1.out HST1.out HG6.out.sp.gL HG6.out.sp.gS).mono ?_
       rintro r w9 ⟨hk9,⟨s9,own9,sl9,hr9,rfl,ho9,hs9,hm9⟩ | ⟨hr9,e9,p9,he9,rfl⟩⟩
       rotate_left
       ·
        exact ⟨rfl,kpo_trans HG6.out.cg.kp HG6.out.cg.ox hk9,Or.inr ⟨HE9.out.trans hr9,e9,p9,he9,rfl⟩⟩
       obtain ⟨nP9,-,hnP9,hnt9⟩:=placeN_nat c.ins x.a h1
       have HN9:Hid (nP9<s6.S.length):=(by rw [HG6.out.cg.lk.ls];exact hnP9:nP9<s6.S.length)
       have hr9':comeD c s6 nP9 lo1 st1=some s9:=by rw [<-hr9];unfold comeAtD;rw [hnt9]
       have HG9:=mkHid (HG6.out.next hk9 ho9 hs9 hm9 (come_inv HW.out HN9.out HG6.out.cg.iv HLO1.out HG6.out.sp.gL HG6.out.sp.gS hr9') (come_comes HN9.out hr9'))
       have HE10:=mkHid (HE9.out.trans (by rw [hr9]))
       clear hk9 hr9 hr9' ho9 hs9 hm9
       go_wp2_with fail
       go_end0
       exact HG9.out.cg.out HE10.out
    have h4b:(x.op==4)=false:=beq_eq_false_iff_ne.2 h4
    have HE5:=mkHid (HE4.out.trans (by unfold look1;rw [if_neg h4];show look2 c x n (lo1,st1) s4=_;unfold look2;rw [hg];rfl:_=(comeD c s4 (n+1) lo1 st1).bind (look3 c x (lo1,st1))))
    clear h4
    go_wp2_with fail
    refine (goesOn_any _ HG4.out.sp).mono ?_
    rw [HGO2.out]
    rintro r w8 ⟨rfl,hw8⟩
    rw [hw8]
    clear hw8 w8
    go_wp2_with fail
    refine (come_any HW.out _ HG4.out.lw HG4.out.cg.lk HG4.out.cg.iv (n+1) HN1.out vL1 vS1 lo1 st1 (HG4.out.srcL HW.out.cls) _ (HG4.out.slS HW.out.cls) (fun b hb=>HG4.out.fs b hb) HLO1.out HST1.out HG4.out.sp.gL HG4.out.sp.gS).mono ?_
    rintro r w6 ⟨hk6,⟨s6,own6,sl6,hr6,rfl,ho6,hs6,hm6⟩ | ⟨hr6,e6,p6,he6,rfl⟩⟩
    rotate_left
    ·
     exact ⟨rfl,kpo_trans HG4.out.cg.kp HG4.out.cg.ox hk6,Or.inr ⟨HE5.out.trans (by rw [hr6];rfl),e6,p6,he6,rfl⟩⟩
    have HN6:Hid (n+1<s4.S.length):=(by rw [HG4.out.cg.lk.ls];exact HN1.out:n+1<s4.S.length)
    have HG6:=mkHid (HG4.out.next hk6 ho6 hs6 hm6 (come_inv HW.out HN6.out HG4.out.cg.iv HLO1.out HG4.out.sp.gL HG4.out.sp.gS hr6) (come_comes HN6.out hr6))
    have HE6:=mkHid (HE5.out.trans (by rw [hr6];rfl:_=look3 c x (lo1,st1) s6))
    have q1_6:=cell_of HG6.out.sp.blk 1 (x:=.int .i64 x.loc) rfl
    have q2_6:=cell_of HG6.out.sp.blk 2 (x:=.int .i64 x.op) rfl
    have q3_6:=cell_of HG6.out.sp.blk 3 (x:=.int .i64 x.a) rfl
    have q5_6:=cell_of HG6.out.sp.blk 5 (x:=vL1) rfl
    have q6_6:=cell_of HG6.out.sp.blk 6 (x:=vS1) rfl
    clear hk6 hr6 ho6 hs6 hm6
    clear q1_4 q2_4 q3_4 q5_4 q6_4
    go_wp2_with fail
    cases hbr:brD x.op with
    | false=>
      have HBR:=mkHid hbr
      have HE9:=mkHid (HE6.out.trans (by unfold look3;rw [hbr];rfl:_=some s6))
      refine (branches_any _ HG6.out.sp).mono ?_
      rw [HBR.out]
      rintro r w8 ⟨rfl,hw8⟩
      rw [hw8]
      clear hw8 w8
      go_wp2_with fail
      go_end0
      exact HG6.out.cg.out HE9.out
    | true=>
      have HBR:=mkHid hbr
      have HE9:=mkHid (HE6.out.trans (by unfold look3;rw [if_pos hbr]:_=comeAtD c s6 x.a lo1 st1))
      refine (branches_any _ HG6.out.sp).mono ?_
      rw [HBR.out]
      rintro r w8 ⟨rfl,hw8⟩
      rw [hw8]
      clear hw8 w8
      go_wp2_with fail
      refine (comeAt_any HW.out _ HG6.out.lw h1 HG6.out.cg.lk HG6.out.cg.iv x.a vL1 vS1 lo1 st1 (HG6.out.srcL HW.out.cls) _ (HG6.out.slS HW.out.cls) (fun b hb=>HG6.out.fs b hb) HLO1.out HST1.out HG6.out.sp.gL HG6.out.sp.gS).mono ?_
      rintro r w9 ⟨hk9,⟨s9,own9,sl9,hr9,rfl,ho9,hs9,hm9⟩ | ⟨hr9,e9,p9,he9,rfl⟩⟩
      rotate_left
      ·
       exact ⟨rfl,kpo_trans HG6.out.cg.kp HG6.out.cg.ox hk9,Or.inr ⟨HE9.out.trans hr9,e9,p9,he9,rfl⟩⟩
      obtain ⟨nP9,-,hnP9,hnt9⟩:=placeN_nat c.ins x.a h1
      have HN9:Hid (nP9<s6.S.length):=(by rw [HG6.out.cg.lk.ls];exact hnP9:nP9<s6.S.length)
      have hr9':comeD c s6 nP9 lo1 st1=some s9:=by rw [<-hr9];unfold comeAtD;rw [hnt9]
      have HG9:=mkHid (HG6.out.next hk9 ho9 hs9 hm9 (come_inv HW.out HN9.out HG6.out.cg.iv HLO1.out HG6.out.sp.gL HG6.out.sp.gS hr9') (come_comes HN9.out hr9'))
      have HE10:=mkHid (HE9.out.trans (by rw [hr9]))
      clear hk9 hr9 hr9' ho9 hs9 hm9
      go_wp2_with fail
      go_end0
      exact HG9.out.cg.out HE10.out
end Go.Proofs.YtcddpmappmjilaaGreatDoor
