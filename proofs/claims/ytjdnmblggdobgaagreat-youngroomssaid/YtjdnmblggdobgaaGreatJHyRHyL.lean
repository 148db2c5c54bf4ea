import Derived.Test.YtjdnmblggdobgaaGreatJTk2Dies
import Derived.Test.YtjdnmblggdobgaaGreatJHyBHyC
import Derived.Test.YtjdnmblggdobgaaGreatJHyDHyF
import Derived.Test.YtjdnmblggdobgaaGreatHmK
import Derived.Test.YtjdnmblggdobgaaGreatJHyIHyJ
set_option maxHeartbeats 4000000
set_option maxRecDepth 100000
namespace Go.Proofs.YtjdnmblggdobgaaGreat
open Go.RowKit Go.Maps
theorem zv3 (d:LinkD) (h:HeapD):openErr d h []=heapErr d h:=by
 unfold openErr
 split
 ·
  rename_i e
  rw [e]
  rfl
 rfl
def TaskV (b:Nat) (kC kS kF kN kT:Value) (h:HeapD) (rs:List Int) (v:Value) (w:World):Prop:=
 ∃nW dW nO dO nR dR,v=.agg #[.slice nW h.words.length dW,.int .i64 h.young,.int .i64 h.old,.int .i64 h.ytop,.int .i64 h.otop,.slice nO h.noted.length dO,.int .i64 h.next,kC,kS,kF,kN,kT,.slice nR rs.length dR]/\OwnV b w (.slice nW h.words.length dW) (.slice nO h.noted.length dO) h/\w.ownsRow b 3 1 (.slice nR rs.length dR) rs.length (intV rs)/\
  ∀k,(Value.slice nR rs.length dR).ownBlock=some k->(Value.slice nW h.words.length dW).ownBlock≠some k/\(Value.slice nO h.noted.length dO).ownBlock≠some k
theorem TaskV.far {lo hi b:Nat} {w w':World} {kC kS kF kN kT v:Value} {h:HeapD} {rs:List Int} (o:TaskV b kC kS kF kN kT h rs v w) (hf:Far lo hi w w') (hb:hi<=b):TaskV b kC kS kF kN kT h rs v w':=by
 obtain ⟨nW,dW,nO,dO,nR,dR,e,h1,h2,h3⟩:=o
 exact ⟨nW,dW,nO,dO,nR,dR,e,h1.far hf hb,zm3 h2 hf hb,h3⟩
theorem zv4 (w:World) (B P0 P1:Nat) (vW vO kC kS kF kN kT:Value) (h:HeapD) (d:LinkD) (g:Hd B w vW vO kC kS kF kN kT h d) (k0:w.heap[P0]? =some (.cells #[vW,.int .i64 h.young,.int .i64 h.old,.int .i64 h.ytop,.int .i64 h.otop,vO,.int .i64 h.next] 24 (0,0))) (k1:w.heap[P1]? =some (.cells #[kC,kS,kF,kN,kT] 36 (0,0))):
 Calls Tryz.prog 89 #[.pointer (some ⟨P0,0,none⟩),.pointer (some ⟨P1,0,none⟩)] w fun r w'=>Below w.heap.size w w'/\((∃v,r=.returned v/\IsTk v/\heapErr d h=0/\TaskV w.heap.size kC kS kF kN kT h [] v w')\/∃e p,r=.panicked [wrongV e p]/\e=heapErr d h/\p=0/\heapErr d h≠0):=by
 have HG:=mk0 g
 obtain ⟨aW,cW,aO,cO,aC,cC,aS,cS,aF,cF,aN,cN,aT,cT,rfl,rfl,rfl,rfl,rfl,rfl,rfl⟩:=g.agg
 clear g
 obtain ⟨W0,hW0,hB0,hs0,z0⟩:=boxes1 w #[.slice none 0 0,.int .i64 0,.int .i64 0,.int .i64 0,.int .i64 0,.slice none 0 0,.int .i64 0,.slice none 0 0,.slice none 0 0,.slice none 0 0,.slice none 0 0,.slice none 0 0,.slice none 0 0] 131
 have l0:=lt0 k0
 have l1:=lt0 k1
 have lz:=lt0 z0
 have k0':=(hB0.block _ l0).trans k0
 have k1':=(hB0.block _ l1).trans k1
 rw [hW0]at k0' k1'
 obtain ⟨a0,a1,a2,a3,a4,a5,a6,az,al⟩:=cells7 k0'
 obtain ⟨b0,b1,b2,b3,b4,bl⟩:=cells5 k1'
 have HCK:=mk0 (zv0 W0 B _ _ _ _ _ _ _ h d (HG.out.below (hB0.mono HG.out.le)) (.slice none 0 0) [] (nilI _ _) (by intro x hx;cases hx))
 have HB0:=mk0 hB0
 have HE0:=mk0 hW0
 have HS0:=mk0 hs0
 have HZ:=mk0 z0
 clear hB0 hW0 hs0 z0 k0 k1 k0' k1'
 go_enter Tryz.func89,Tryz.ntmps89
 go_wp2_with fail
 rw [<-HE0.out]
 refine HCK.out.mono ?_
 rintro r w1 ⟨hb1,⟨h0,nW,dW,nO,dO,nR,dR,(hr:r=.returned (.agg #[.slice nW h.words.length dW,.int .i64 h.young,.int .i64 h.old,.int .i64 h.ytop,.int .i64 h.otop,.slice nO h.noted.length dO,.int .i64 h.next,.slice aC d.classes.length cC,.slice aS d.supers.length cS,.slice aF d.fields.length cF,.slice aN d.names.length cN,.slice aT d.targets.length cT,.slice nR 0 dR])),hov,hor,hap⟩ | ⟨h0,rfl⟩⟩
 rotate_left
 ·
  rw [zv3]at h0 ⊢
  exact ⟨rfl,HB0.out.trans (hb1.mono HB0.out.size),Or.inr ⟨_,_,rfl,rfl,rfl,h0⟩⟩
 subst hr
 rw [zv3]at h0
 have H00:=mk0 h0
 have k8:=(hb1.block _ lz).trans HZ.out
 have hB8:Below w.heap.size w w1:=HB0.out.trans (hb1.mono HB0.out.size)
 have hs0:=HS0.out
 have hs8:=hb1.size
 obtain ⟨W9,h9,hgS,hq,hr,rz,rl⟩:=setN (zs:=[.slice none 0 0,.int .i64 0,.int .i64 0,.int .i64 0,.int .i64 0,.slice none 0 0,.int .i64 0,.slice none 0 0,.slice none 0 0,.slice none 0 0,.slice none 0 0,.slice none 0 0,.slice none 0 0]) k8 [.slice nW h.words.length dW,.int .i64 h.young,.int .i64 h.old,.int .i64 h.ytop,.int .i64 h.otop,.slice nO h.noted.length dO,.int .i64 h.next,.slice aC d.classes.length cC,.slice aS d.supers.length cS,.slice aF d.fields.length cF,.slice aN d.names.length cN,.slice aT d.targets.length cT,.slice nR 0 dR] rfl
 have r0:=hr 0 _ rfl
 have r1:=hr 1 _ rfl
 have r2:=hr 2 _ rfl
 have r3:=hr 3 _ rfl
 have r4:=hr 4 _ rfl
 have r5:=hr 5 _ rfl
 have r6:=hr 6 _ rfl
 have r7:=hr 7 _ rfl
 have r8:=hr 8 _ rfl
 have r9:=hr 9 _ rfl
 have r10:=hr 10 _ rfl
 have r11:=hr 11 _ rfl
 have r12:=hr 12 _ rfl
 have q0:=hq 0 _ rfl
 have q1:=hq 1 _ rfl
 have q2:=hq 2 _ rfl
 have q3:=hq 3 _ rfl
 have q4:=hq 4 _ rfl
 have q5:=hq 5 _ rfl
 have q6:=hq 6 _ rfl
 have q7:=hq 7 _ rfl
 have q8:=hq 8 _ rfl
 have q9:=hq 9 _ rfl
 have q10:=hq 10 _ rfl
 have q11:=hq 11 _ rfl
 have q12:=hq 12 _ rfl
 have hw9:=hgS.size
 have HB9:=mk0 (bg0 (hB8) hgS (by omega))
 have HG9:=mk0 hgS
 simp only [setL,Nat.reduceAdd]at h9
 have H9:=mk0 h9
 clear hgS hq hr h9
 have HOF:Hid (OwnV w.heap.size W9 (.slice nW h.words.length dW) (.slice nO h.noted.length dO) h):=(hov.grown HG9.out (fun e=>by have:=(hov.rW.lt _ e).1;omega) (fun e=>by have:=(hov.rO.lt _ e).1;omega)).mono (by omega)
 have HRF:Hid (W9.ownsRow w.heap.size 3 1 (.slice nR 0 dR) 0 (intV [])):=zhp (World.ownsRow.kept hor HG9.out (Or.inr fun e=>by have:=(hor.lt _ e).1;omega)) (by omega)
 have HAP:=mk0 hap
 clear hor hov hb1 k8 hB8 HCK hap
 clear a0 a1 a2 a3 a4 a5 a6 al az
 clear b0 b1 b2 b3 b4 bl
 go_wp2_with fail
 rw [H9.out]
 exact bodyPost_ret (v:=.agg #[.slice nW h.words.length dW,.int .i64 h.young,.int .i64 h.old,.int .i64 h.ytop,.int .i64 h.otop,.slice nO h.noted.length dO,.int .i64 h.next,.slice aC d.classes.length cC,.slice aS d.supers.length cS,.slice aF d.fields.length cF,.slice aN d.names.length cN,.slice aT d.targets.length cT,.slice nR 0 dR]) (by simp [results,Tryz.results89,go_sem,q0,q1,q2,q3,q4,q5,q6,q7,q8,q9,q10,q11,q12]) rfl ⟨HB9.out,Or.inl ⟨_,rfl,⟨_,_,_,_,_,_,_,_,_,_,_,_,_,_,_,_,_,_,_,_,_,_,_,_,_,_,_,_,_,rfl⟩,H00.out,nW,dW,nO,dO,nR,dR,rfl,HOF.out,HRF.out,HAP.out⟩⟩
theorem callRoom1 (args:Array Value) (w:World):(callFunc 89 args).run Tryz.prog w=.ok (.enter 89 args) w:=by kernel_rfl
theorem zv5 (w:World) (B:Nat) (vW vO kC kS kF kN kT:Value) (h:HeapD) (d:LinkD) (g:Hd B w vW vO kC kS kF kN kT h d):
 Calls Tryz.prog 38 #[.agg #[vW,.int .i64 h.young,.int .i64 h.old,.int .i64 h.ytop,.int .i64 h.otop,vO,.int .i64 h.next],.agg #[kC,kS,kF,kN,kT]] w fun r w'=>Below w.heap.size w w'/\((heapErr d h=0/\r=.returned (.tuple #[.int .i64 (leftD h),.int .i64 0]))\/(heapErr d h≠0/\r=.returned (.tuple #[.int .i64 0,.int .i64 (heapErr d h)]))):=by
 have hmf:=mkf Tryz.prog
 have HG:=mk0 g
 obtain ⟨aW,cW,aO,cO,aC,cC,aS,cS,aF,cF,aN,cN,aT,cT,rfl,rfl,rfl,rfl,rfl,rfl,rfl⟩:=g.agg
 clear g
 obtain ⟨W0,hW0,hB0,hs0,k0,k1⟩:=boxes2 w #[.slice aW h.words.length cW,.int .i64 h.young,.int .i64 h.old,.int .i64 h.ytop,.int .i64 h.otop,.slice aO h.noted.length cO,.int .i64 h.next] #[.slice aC d.classes.length cC,.slice aS d.supers.length cS,.slice aF d.fields.length cF,.slice aN d.names.length cN,.slice aT d.targets.length cT] 24 36
 have HMD:Hid (Calls Tryz.prog 79 #[.func (.func 89) #[] #[.pointer (some ⟨w.heap.size,0,none⟩),.pointer (some ⟨w.heap.size+1,0,none⟩)]] W0 fun r w'=>Below W0.heap.size W0 w'/\W0.heap.size+5<=w'.heap.size/\
  ((∃v,r=.returned (.tuple #[v,.agg #[.int .i64 0,.int .i64 0]])/\IsTk v/\heapErr d h=0/\TaskV (W0.heap.size+5) (.slice aC d.classes.length cC) (.slice aS d.supers.length cS) (.slice aF d.fields.length cF) (.slice aN d.names.length cN) (.slice aT d.targets.length cT) h [] v w')\/
   (∃e p,r=.returned (.tuple #[.agg #[.slice none 0 0,.int .i64 0,.int .i64 0,.int .i64 0,.int .i64 0,.slice none 0 0,.int .i64 0,.slice none 0 0,.slice none 0 0,.slice none 0 0,.slice none 0 0,.slice none 0 0,.slice none 0 0],.agg #[.int .i64 e,.int .i64 p]])/\(e=heapErr d h/\p=0/\heapErr d h≠0)))):=by
  refine zv2 W0 89 _ (fun v w'=>heapErr d h=0/\TaskV (W0.heap.size+5) (.slice aC d.classes.length cC) (.slice aS d.supers.length cS) (.slice aF d.fields.length cF) (.slice aN d.names.length cN) (.slice aT d.targets.length cT) h [] v w') (fun e p=>e=heapErr d h/\p=0/\heapErr d h≠0) callRoom1 ?_ ?_
  ·
   intro W hW hs
   have hk:∀(b:Nat) (ob:Obj),W0.heap[b]? =some ob->W.heap[b]? =some ob:=fun b ob e=>(hW.block b (lt0 e)).trans e
   have:=zv4 W B _ _ _ _ _ _ _ _ _ h d (HG.out.below ((hB0.trans (hW.mono hB0.size)).mono HG.out.le)) (hk _ _ k0) (hk _ _ k1)
   rw [<-hs]
   exact this
  rintro v W W' hs hf ⟨h0,o⟩
  exact ⟨h0,o.far hf (Nat.le_refl _)⟩
 have HB0:=mk0 hB0
 have HE0:=mk0 hW0
 have HS0:=mk0 hs0
 rw [HE0.out]at HMD
 clear k0 k1 hB0 hW0 hs0
 go_enter Tryz.func38,Tryz.ntmps38
 go_wp2_with fail
 refine HMD.out.mono ?_
 rw [<-HE0.out]
 rintro r w1 ⟨hb1,hs1,⟨v,rfl,-,h0,nW,dW,nO,dO,nR,dR,rfl,hov,-,-⟩ | ⟨e,p,rfl,rfl,rfl,h0⟩⟩
 ·
  obtain ⟨ts,rt⟩:=zs6 h0
  have hz:=rt.sized
  have z1:=hz.young
  have z2:=hz.old
  have z3:=hz.len
  have z4:=hz.ytop
  have z5:=hz.otop
  have H00:=mk0 h0
  obtain ⟨W2,hW2,hB2,hs2,m0,m1⟩:=boxes2 w1 #[.slice nW h.words.length dW,.int .i64 h.young,.int .i64 h.old,.int .i64 h.ytop,.int .i64 h.otop,.slice nO h.noted.length dO,.int .i64 h.next,.slice aC d.classes.length cC,.slice aS d.supers.length cS,.slice aF d.fields.length cF,.slice aN d.names.length cN,.slice aT d.targets.length cT,.slice nR 0 dR] #[.int .i64 0,.int .i64 0] 131 84
  have HRM:=mk0 (fun q=>zu1 (W2.drewN q) w1.heap.size nW h.words.length dW h.ytop h.otop (cl0 m0 0 rfl) (cl0 m0 3 rfl) (cl0 m0 4 rfl) (by omega) ⟨by omega,by omega⟩ ⟨by omega,by omega⟩)
  have u0:=cl0 m1 0 (x:=.int .i64 0) rfl
  have lm:=lt0 m1
  have HF:Hid (Below w.heap.size w W2):=HB0.out.trans ((hb1.trans (hB2.mono hb1.size)).mono HB0.out.size)
  have HW2:=mk0 hW2
  have HRM0:=mk0 (HRM.out 0)
  clear hb1 hW2 hB2 m0 m1 hov rt hz HMD HRM z1 z2 z3 z4 z5
  go_wp2_with fail
  rw [<-HW2.out]
  go_wp2_with fail
  refine HRM0.out.mono ?_
  rintro r w3 ⟨rfl,q,rfl⟩
  go_wp2_with fail
  exact bodyPost_ret (v:=.tuple #[.int .i64 (leftD h),.int .i64 0]) (by simp [results,Tryz.results38,go_sem,leftD]) rfl ⟨zdq HF.out q,Or.inl ⟨H00.out,rfl⟩⟩
 have H00:=mk0 h0
 have hne:(heapErr d h==0)=false:=by simpa using h0
 obtain ⟨W2,hW2,hB2,hs2,m0,m1⟩:=boxes2 w1 #[.slice none 0 0,.int .i64 0,.int .i64 0,.int .i64 0,.int .i64 0,.slice none 0 0,.int .i64 0,.slice none 0 0,.slice none 0 0,.slice none 0 0,.slice none 0 0,.slice none 0 0,.slice none 0 0] #[.int .i64 (heapErr d h),.int .i64 0] 131 84
 have u0:=cl0 m1 0 (x:=.int .i64 (heapErr d h)) rfl
 have lm:=lt0 m1
 have HF:Hid (Below w.heap.size w W2):=HB0.out.trans ((hb1.trans (hB2.mono hb1.size)).mono HB0.out.size)
 have HW2:=mk0 hW2
 clear hb1 hW2 hB2 m0 m1 HMD
 go_wp2_with fail
 rw [<-HW2.out]
 go_wp2_with fail
 go_quiet (fail)
 go_wp2_with fail
 exact bodyPost_ret (v:=.tuple #[.int .i64 0,.int .i64 (heapErr d h)]) (by simp [results,Tryz.results38,go_sem]) rfl ⟨zdq HF.out _,Or.inr ⟨H00.out,rfl⟩⟩
def colErr (d:LinkD) (h:HeapD) (rs:List Int):Int:=if openErr d h rs=0 then (if 0<=leftD h then 0 else 8) else openErr d h rs
theorem zv6 {d:LinkD} {h:HeapD} {rs:List Int} (h0:openErr d h rs=0):∃ts,Right d h ts/\rs.length<=1000/\∀v∈rs,leadB ts v=true:=by
 unfold openErr at h0
 by_cases hE:heapErr d h=0
 ·
  rw [if_pos hE]at h0
  obtain ⟨ts,rt⟩:=zs6 hE
  have e:tsOf d h=ts:=by unfold tsOf;rw [rt.both];rfl
  rw [e]at h0
  unfold rootErr at h0
  by_cases h1:(rs.length:Int)<=1000
  ·
   rw [if_pos (decide_eq_true h1)]at h0
   cases h2:rs.any fun x=>!leadB ts x with
   | true=>rw [h2]at h0;simp at h0
   | false=>
     refine ⟨ts,rt,by omega,fun v hv=>?_⟩
     have:=List.any_eq_false.1 h2 v hv
     cases hc:leadB ts v with
     | true=>rfl
     | false=>rw [hc]at this;exact absurd rfl this
  rw [if_neg (by simpa using h1)]at h0
  cases h0
 rw [if_neg hE]at h0
 exact absurd h0 hE
theorem zv7 (w:World) (B P0 P1 P2:Nat) (vW vO kC kS kF kN kT:Value) (h:HeapD) (d:LinkD) (g:Hd B w vW vO kC kS kF kN kT h d) (vR:Value) (rs:List Int) (hs:SL 1 RI (· <B) w vR rs) (hwr:∀x∈rs,(Lit.int .i64 x).wf=true) (k0:w.heap[P0]? =some (.cells #[vW,.int .i64 h.young,.int .i64 h.old,.int .i64 h.ytop,.int .i64 h.otop,vO,.int .i64 h.next] 24 (0,0))) (k1:w.heap[P1]? =some (.cells #[kC,kS,kF,kN,kT] 36 (0,0))) (k2:w.heap[P2]? =some (.cells #[vR] 22 (0,0))):
 Calls Tryz.prog 80 #[.pointer (some ⟨P0,0,none⟩),.pointer (some ⟨P1,0,none⟩),.pointer (some ⟨P2,0,none⟩)] w fun r w'=>Below w.heap.size w w'/\((∃v,r=.returned v/\IsTk v/\colErr d h rs=0/\TaskV w.heap.size kC kS kF kN kT (collectD d h rs) (collectR h rs) v w')\/∃e p,r=.panicked [wrongV e p]/\e=colErr d h rs/\p=0/\colErr d h rs≠0):=by
 have HG:=mk0 g
 obtain ⟨aW,cW,aO,cO,aC,cC,aS,cS,aF,cF,aN,cN,aT,cT,rfl,rfl,rfl,rfl,rfl,rfl,rfl⟩:=g.agg
 have HSR:=mk0 hs
 obtain ⟨aR,cR,rfl,-⟩:=hs
 clear g
 obtain ⟨W0,hW0,hB0,hs0,z0⟩:=boxes1 w #[.slice none 0 0,.int .i64 0,.int .i64 0,.int .i64 0,.int .i64 0,.slice none 0 0,.int .i64 0,.slice none 0 0,.slice none 0 0,.slice none 0 0,.slice none 0 0,.slice none 0 0,.slice none 0 0] 131
 have l0:=lt0 k0
 have l1:=lt0 k1
 have l2:=lt0 k2
 have lz:=lt0 z0
 have k0':=(hB0.block _ l0).trans k0
 have k1':=(hB0.block _ l1).trans k1
 have k2':=(hB0.block _ l2).trans k2
 rw [hW0]at k0' k1' k2'
 have e2:=cl0 k2' 0 (x:=.slice aR rs.length cR) rfl
 obtain ⟨a0,a1,a2,a3,a4,a5,a6,az,al⟩:=cells7 k0'
 obtain ⟨b0,b1,b2,b3,b4,bl⟩:=cells5 k1'
 have HGV:Hid (∀V,Below W0.heap.size W0 V->Hd B V (.slice aW h.words.length cW) (.slice aO h.noted.length cO) (.slice aC d.classes.length cC) (.slice aS d.supers.length cS) (.slice aF d.fields.length cF) (.slice aN d.names.length cN) (.slice aT d.targets.length cT) h d):=fun V hV=>HG.out.below ((hB0.trans (hV.mono hB0.size)).mono HG.out.le)
 have HCK:=mk0 (zv0 W0 B _ _ _ _ _ _ _ h d (HGV.out W0 (Below.refl _ _)) (.slice aR rs.length cR) rs (HSR.out.keptI (Kp.below (hB0.mono HG.out.le))) hwr)
 have HB0:=mk0 hB0
 have HE0:=mk0 hW0
 have HS0:=mk0 hs0
 have HZ:=mk0 z0
 have HWR:=mk0 hwr
 clear hB0 hW0 hs0 z0 k0 k1 k2 k0' k1' k2' hwr
 go_enter Tryz.func80,Tryz.ntmps80
 go_wp2_with fail
 rw [<-HE0.out]
 refine HCK.out.mono ?_
 rintro r w1 ⟨hb1,⟨h0,nW,dW,nO,dO,nR,dR,rfl,hov,hor,hap⟩ | ⟨h0,rfl⟩⟩
 rotate_left
 ·
  have hce:colErr d h rs=openErr d h rs:=by unfold colErr;rw [if_neg h0]
  exact ⟨rfl,HB0.out.trans (hb1.mono HB0.out.size),Or.inr ⟨_,_,rfl,hce.symm,rfl,by rw [hce];exact h0⟩⟩
 obtain ⟨ts,rt,hrl,hrd⟩:=zv6 h0
 have hz:=rt.sized
 have z1:=hz.young
 have z2:=hz.old
 have z3:=hz.len
 have z4:=hz.ytop
 have z5:=hz.otop
 have hgl:=HG.out.le
 have hs0:=HS0.out
 have hs1:=hb1.size
 obtain ⟨W2,hW2,hB2,hs2,m0⟩:=boxes1 w1 #[.slice nW h.words.length dW,.int .i64 h.young,.int .i64 h.old,.int .i64 h.ytop,.int .i64 h.otop,.slice nO h.noted.length dO,.int .i64 h.next,.slice aC d.classes.length cC,.slice aS d.supers.length cS,.slice aF d.fields.length cF,.slice aN d.names.length cN,.slice aT d.targets.length cT,.slice nR rs.length dR] 131
 have hb2:Below W0.heap.size W0 W2:=hb1.trans (hB2.mono hs1)
 have hTK:Tsk W0.heap.size B W2 w1.heap.size (.slice nW h.words.length dW) (.slice nO h.noted.length dO) (.slice nR rs.length dR) (.slice aC d.classes.length cC) (.slice aS d.supers.length cS) (.slice aF d.fields.length cF) (.slice aN d.names.length cN) (.slice aT d.targets.length cT) h rs d:=by
  refine ⟨m0,zhj hov.rW hB2,zhj hov.rO hB2,zhj hor hB2,(HGV.out W2 hb2).lk,by omega,hs1,?_⟩
  unfold sepB
  simp only [List.pairwise_cons,List.mem_cons,List.not_mem_nil,or_false,forall_eq_or_imp,forall_eq,List.Pairwise.nil,and_true,false_implies,implies_true]
  exact ⟨⟨fun k e e2=>by have:=Option.some.inj e;have:=(hov.rW.lt k e2).2;omega,fun k e e2=>by have:=Option.some.inj e;have:=(hov.rO.lt k e2).2;omega,fun k e e2=>by have:=Option.some.inj e;have:=(hor.lt k e2).2;omega⟩,⟨fun k e=>hov.ne k e,fun k e e2=>(hap k e2).1 e⟩,fun k e e2=>(hap k e2).2 e⟩
 have HRM:=mk0 (zu1 W2 w1.heap.size nW h.words.length dW h.ytop h.otop (cl0 m0 0 rfl) (cl0 m0 3 rfl) (cl0 m0 4 rfl) (by omega) ⟨by omega,by omega⟩ ⟨by omega,by omega⟩)
 have HTK:=mk0 hTK
 have HB2:=mk0 hb2
 have HW2:=mk0 hW2
 have HO0:=mk0 h0
 have HLD:Hid ((h.words.length:Int) - h.otop - (h.ytop - 1)=leftD h):=rfl
 rw [HLD.out]at HRM
 have HRT:=mk0 (And.intro rt (And.intro hrl hrd))
 clear hb1 hov hor hap hW2 hB2 hb2 hTK m0 h0 rt hrl hrd hz z1 z2 z3 z4 z5 HCK HLD hgl e2
 clear a0 a1 a2 a3 a4 a5 a6 al az
 clear b0 b1 b2 b3 b4 bl
 go_wp2_with fail
 rw [<-HW2.out]
 refine HRM.out.mono ?_
 rintro r w3 ⟨rfl,q,rfl⟩
 have hbq:Below W2.heap.size W2 (W2.drewN q):=zdq (Below.refl _ _) q
 by_cases hlf:0<=leftD h
 rotate_left
 ·
  have hdm:decide (0<=leftD h)=false:=decide_eq_false hlf
  have hce:colErr d h rs=8:=by unfold colErr;rw [if_pos HO0.out,if_neg hlf]
  have HCE:=mk0 hce
  have HBF:Hid (Below w.heap.size w (W2.drewN q)):=HB0.out.trans ((HB2.out.trans (hbq.mono (HB2.out.size))).mono HB0.out.size)
  generalize leftD h=lf at*
  clear hce hbq
  go_wp2_with fail
  refine (dm0 _ _ _).mono ?_
  rintro r w4 ⟨rfl,⟨hb,rfl⟩ | ⟨hb,rfl⟩⟩
  ·
   exact ⟨rfl,HBF.out,Or.inr ⟨_,_,rfl,HCE.out.symm,rfl,by rw [HCE.out];decide⟩⟩
  exact absurd hb (by simp)
 have hce:colErr d h rs=0:=by unfold colErr;rw [if_pos HO0.out,if_pos hlf]
 have HCE:=mk0 hce
 have HCY:=mk0 (zvv (W2.drewN q) W0.heap.size B w1.heap.size _ _ _ _ _ _ _ _ h rs d (HTK.out.below hbq) ts HRT.out.1 hlf HRT.out.2.2 HG.out.ww HWR.out (by have:=HRT.out.2.1;omega))
 have HLF:=mk0 hlf
 have HBQ:=mk0 hbq
 generalize leftD h=lf at*
 clear hce hbq HTK
 go_wp2_with fail
 refine (dm0 _ _ _).mono ?_
 rintro r w4 ⟨rfl,⟨hb,rfl⟩ | ⟨hb,rfl⟩⟩
 ·
  exact absurd hb (by simp)
 clear hlf hb
 go_wp2_with fail
 refine HCY.out.mono ?_
 rintro r w5 ⟨rfl,o5,hb5⟩
 obtain ⟨hc,hhc⟩:∃hc,collectD d h rs=hc:=⟨_,rfl⟩
 obtain ⟨rc,hrc⟩:∃rc,collectR h rs=rc:=⟨_,rfl⟩
 rw [hhc,hrc]at o5
 have HHC:=mk0 (And.intro hhc hrc)
 obtain ⟨aW3,cW3,hnW⟩:=zfz o5.rW
 obtain ⟨aR3,cR3,hnR⟩:=zfz o5.rR
 have hb05:Below W0.heap.size W0 w5:=HB2.out.trans ((HBQ.out.mono HB2.out.size).trans hb5)
 have k8:=(hb05.block _ lz).trans HZ.out
 have hB8:Below w.heap.size w w5:=HB0.out.trans (hb05.mono HB0.out.size)
 have hs8:=hb05.size
 rw [hnW,hnR]at o5
 have v0:=cl0 o5.blk 0 (x:=.slice aW3 hc.words.length cW3) rfl
 have v1:=cl0 o5.blk 1 (x:=.int .i64 hc.young) rfl
 have v2:=cl0 o5.blk 2 (x:=.int .i64 hc.old) rfl
 have v3:=cl0 o5.blk 3 (x:=.int .i64 hc.ytop) rfl
 have v4:=cl0 o5.blk 4 (x:=.int .i64 hc.otop) rfl
 have v5:=cl0 o5.blk 5 (x:=.slice none 0 0) rfl
 have v6:=cl0 o5.blk 6 (x:=.int .i64 hc.next) rfl
 have v7:=cl0 o5.blk 7 (x:=.slice aC d.classes.length cC) rfl
 have v8:=cl0 o5.blk 8 (x:=.slice aS d.supers.length cS) rfl
 have v9:=cl0 o5.blk 9 (x:=.slice aF d.fields.length cF) rfl
 have v10:=cl0 o5.blk 10 (x:=.slice aN d.names.length cN) rfl
 have v11:=cl0 o5.blk 11 (x:=.slice aT d.targets.length cT) rfl
 have v12:=cl0 o5.blk 12 (x:=.slice aR3 rc.length cR3) rfl
 have lv:=lt0 o5.blk
 have lTw:w.heap.size<w1.heap.size:=by omega
 obtain ⟨W9,h9,hgS,hq,hr,rz,rl⟩:=setN (zs:=[.slice none 0 0,.int .i64 0,.int .i64 0,.int .i64 0,.int .i64 0,.slice none 0 0,.int .i64 0,.slice none 0 0,.slice none 0 0,.slice none 0 0,.slice none 0 0,.slice none 0 0,.slice none 0 0]) k8 [.slice aW3 hc.words.length cW3,.int .i64 hc.young,.int .i64 hc.old,.int .i64 hc.ytop,.int .i64 hc.otop,.slice none 0 0,.int .i64 hc.next,.slice aC d.classes.length cC,.slice aS d.supers.length cS,.slice aF d.fields.length cF,.slice aN d.names.length cN,.slice aT d.targets.length cT,.slice aR3 rc.length cR3] rfl
 have r0:=hr 0 _ rfl
 have r1:=hr 1 _ rfl
 have r2:=hr 2 _ rfl
 have r3:=hr 3 _ rfl
 have r4:=hr 4 _ rfl
 have r5:=hr 5 _ rfl
 have r6:=hr 6 _ rfl
 have r7:=hr 7 _ rfl
 have r8:=hr 8 _ rfl
 have r9:=hr 9 _ rfl
 have r10:=hr 10 _ rfl
 have r11:=hr 11 _ rfl
 have r12:=hr 12 _ rfl
 have q0:=hq 0 _ rfl
 have q1:=hq 1 _ rfl
 have q2:=hq 2 _ rfl
 have q3:=hq 3 _ rfl
 have q4:=hq 4 _ rfl
 have q5:=hq 5 _ rfl
 have q6:=hq 6 _ rfl
 have q7:=hq 7 _ rfl
 have q8:=hq 8 _ rfl
 have q9:=hq 9 _ rfl
 have q10:=hq 10 _ rfl
 have q11:=hq 11 _ rfl
 have q12:=hq 12 _ rfl
 have hw9:=hgS.size
 have HB9:=mk0 (bg0 (hB8) hgS (by omega))
 have HG9:=mk0 hgS
 simp only [setL,Nat.reduceAdd]at h9
 have H9:=mk0 h9
 clear hgS hq hr h9
 have hne:∀k,W0.heap.size<=k->w.heap.size≠k:=fun k hk=>by omega
 have HOF:Hid (OwnV w.heap.size W9 (.slice aW3 hc.words.length cW3) (.slice none 0 hc.noted.length) hc/\hc.noted= []):=by
  have hno:hc.noted= []:=by rw [<-hhc];rfl
  refine ⟨⟨zhp (o5.rW.kept HG9.out (Or.inr fun e=>by have:=(o5.rW.lt _ e).1;omega)) (by omega),?_,fun k e1 e2=>(by cases e2)⟩,hno⟩
  rw [hno]
  exact World.ownsRow_nil _ _ _ _
 have HRF:Hid (W9.ownsRow w.heap.size 3 1 (.slice aR3 rc.length cR3) rc.length (intV rc)):=zhp (o5.rR.kept HG9.out (Or.inr fun e=>by have:=(o5.rR.lt _ e).1;omega)) (by omega)
 have HAP:Hid (∀k,(Value.slice aR3 rc.length cR3).ownBlock=some k->(Value.slice aW3 hc.words.length cW3).ownBlock≠some k):=fun k e e2=>zu6 o5.sep (i:=1) (j:=3) (by decide) (congrArg some e2) (congrArg some e)
 clear o5 hb5 hb05 k8 hB8 HCY hhc hrc hnW hnR
 go_wp2_with fail
 rw [H9.out]
 refine bodyPost_ret (v:=.agg #[.slice aW3 hc.words.length cW3,.int .i64 hc.young,.int .i64 hc.old,.int .i64 hc.ytop,.int .i64 hc.otop,.slice none 0 0,.int .i64 hc.next,.slice aC d.classes.length cC,.slice aS d.supers.length cS,.slice aF d.fields.length cF,.slice aN d.names.length cN,.slice aT d.targets.length cT,.slice aR3 rc.length cR3]) (by simp [results,Tryz.results80,go_sem,q0,q1,q2,q3,q4,q5,q6,q7,q8,q9,q10,q11,q12]) rfl ⟨HB9.out,Or.inl ⟨_,rfl,⟨_,_,_,_,_,_,_,_,_,_,_,_,_,_,_,_,_,_,_,_,_,_,_,_,_,_,_,_,_,rfl⟩,HCE.out,?_⟩⟩
 rw [HHC.out.1,HHC.out.2]
 have hno:=HOF.out.2
 refine ⟨aW3,cW3,none,0,aR3,cR3,?_,?_,HRF.out,fun k e=>⟨HAP.out k e,fun e2=>(by cases e2)⟩⟩
 ·
  rw [hno]
  rfl
 have:=HOF.out.1
 rw [hno]at this ⊢
 exact this
theorem callCollect1 (args:Array Value) (w:World):(callFunc 80 args).run Tryz.prog w=.ok (.enter 80 args) w:=by kernel_rfl
def ColOut (w:World) (d:LinkD) (h:HeapD) (rs:List Int) (r:Ending) (w':World):Prop:=
 (colErr d h rs=0/\∃nW dW nO dO nR dR,r=.returned (.tuple #[.agg #[.slice nW (collectD d h rs).words.length dW,.int .i64 (collectD d h rs).young,.int .i64 (collectD d h rs).old,.int .i64 (collectD d h rs).ytop,.int .i64 (collectD d h rs).otop,.slice nO (collectD d h rs).noted.length dO,.int .i64 (collectD d h rs).next],.slice nR (collectR h rs).length dR,.int .i64 0])/\OwnV w.heap.size w' (.slice nW (collectD d h rs).words.length dW) (.slice nO (collectD d h rs).noted.length dO) (collectD d h rs)/\w'.ownsRow w.heap.size 3 1 (.slice nR (collectR h rs).length dR) (collectR h rs).length (intV (collectR h rs)))\/
  (colErr d h rs≠0/\r=.returned (.tuple #[.agg #[.slice none 0 0,.int .i64 0,.int .i64 0,.int .i64 0,.int .i64 0,.slice none 0 0,.int .i64 0],.slice none 0 0,.int .i64 (colErr d h rs)]))
theorem zv8 (w:World) (B:Nat) (vW vO kC kS kF kN kT:Value) (h:HeapD) (d:LinkD) (g:Hd B w vW vO kC kS kF kN kT h d) (vR:Value) (rs:List Int) (hs:SL 1 RI (· <B) w vR rs) (hwr:∀x∈rs,(Lit.int .i64 x).wf=true):
 Calls Tryz.prog 33 #[.agg #[vW,.int .i64 h.young,.int .i64 h.old,.int .i64 h.ytop,.int .i64 h.otop,vO,.int .i64 h.next],.agg #[kC,kS,kF,kN,kT],vR] w fun r w'=>Below w.heap.size w w'/\ColOut w d h rs r w':=by
 have hmf:=mkf Tryz.prog
 have HG:=mk0 g
 have HSR:=mk0 hs
 obtain ⟨aW,cW,aO,cO,aC,cC,aS,cS,aF,cF,aN,cN,aT,cT,rfl,rfl,rfl,rfl,rfl,rfl,rfl⟩:=g.agg
 obtain ⟨aR,cR,rfl,-⟩:=hs
 clear g
 obtain ⟨W0,hW0,hB0,hs0,k0,k1,k2,k3⟩:=boxes4 w #[.slice aW h.words.length cW,.int .i64 h.young,.int .i64 h.old,.int .i64 h.ytop,.int .i64 h.otop,.slice aO h.noted.length cO,.int .i64 h.next] #[.slice aC d.classes.length cC,.slice aS d.supers.length cS,.slice aF d.fields.length cF,.slice aN d.names.length cN,.slice aT d.targets.length cT] #[.slice aR rs.length cR] #[.slice none 0 0,.int .i64 0,.int .i64 0,.int .i64 0,.int .i64 0,.slice none 0 0,.int .i64 0] 24 36 22 24
 have HMD:Hid (Calls Tryz.prog 79 #[.func (.func 80) #[] #[.pointer (some ⟨w.heap.size,0,none⟩),.pointer (some ⟨w.heap.size+1,0,none⟩),.pointer (some ⟨w.heap.size+1+1,0,none⟩)]] W0 fun r w'=>Below W0.heap.size W0 w'/\W0.heap.size+5<=w'.heap.size/\
  ((∃v,r=.returned (.tuple #[v,.agg #[.int .i64 0,.int .i64 0]])/\IsTk v/\colErr d h rs=0/\TaskV (W0.heap.size+5) (.slice aC d.classes.length cC) (.slice aS d.supers.length cS) (.slice aF d.fields.length cF) (.slice aN d.names.length cN) (.slice aT d.targets.length cT) (collectD d h rs) (collectR h rs) v w')\/
   (∃e p,r=.returned (.tuple #[.agg #[.slice none 0 0,.int .i64 0,.int .i64 0,.int .i64 0,.int .i64 0,.slice none 0 0,.int .i64 0,.slice none 0 0,.slice none 0 0,.slice none 0 0,.slice none 0 0,.slice none 0 0,.slice none 0 0],.agg #[.int .i64 e,.int .i64 p]])/\(e=colErr d h rs/\p=0/\colErr d h rs≠0)))):=by
  refine zv2 W0 80 _ (fun v w'=>colErr d h rs=0/\TaskV (W0.heap.size+5) (.slice aC d.classes.length cC) (.slice aS d.supers.length cS) (.slice aF d.fields.length cF) (.slice aN d.names.length cN) (.slice aT d.targets.length cT) (collectD d h rs) (collectR h rs) v w') (fun e p=>e=colErr d h rs/\p=0/\colErr d h rs≠0) callCollect1 ?_ ?_
  ·
   intro W hW hs
   have hk:∀(b:Nat) (ob:Obj),W0.heap[b]? =some ob->W.heap[b]? =some ob:=fun b ob e=>(hW.block b (lt0 e)).trans e
   have hbb:=(hB0.trans (hW.mono hB0.size)).mono HG.out.le
   have:=zv7 W B _ _ _ _ _ _ _ _ _ _ h d (HG.out.below hbb) _ rs (HSR.out.keptI (Kp.below hbb)) hwr (hk _ _ k0) (hk _ _ k1) (hk _ _ k2)
   rw [<-hs]
   exact this
  rintro v W W' hs hf ⟨h0,o⟩
  exact ⟨h0,o.far hf (Nat.le_refl _)⟩
 have HB0:=mk0 hB0
 have HE0:=mk0 hW0
 have HS0:=mk0 hs0
 have HK3:=mk0 k3
 rw [HE0.out]at HMD
 clear k0 k1 k2 k3 hB0 hW0 hs0 hwr
 go_enter Tryz.func33,Tryz.ntmps33
 go_wp2_with fail
 refine HMD.out.mono ?_
 rw [<-HE0.out]
 rintro r w1 ⟨hb1,hs1,⟨v,rfl,-,h0,nW,dW,nO,dO,nR,dR,rfl,hov,hor,-⟩ | ⟨e,p,rfl,rfl,rfl,h0⟩⟩
 ·
  obtain ⟨hc,hhc⟩:∃hc,collectD d h rs=hc:=⟨_,rfl⟩
  obtain ⟨rc,hrc⟩:∃rc,collectR h rs=rc:=⟨_,rfl⟩
  rw [hhc]at hov
  rw [hrc]at hor
  rw [hhc,hrc]
  have hs0:=HS0.out
  have HM0:=mk0 h0
  have HHC:=mk0 (And.intro hhc hrc)
  clear hhc hrc HMD h0
  obtain ⟨W2,hW2,hA2,hs2,m0,m1⟩:=boxes2 w1 #[.slice nW hc.words.length dW,.int .i64 hc.young,.int .i64 hc.old,.int .i64 hc.ytop,.int .i64 hc.otop,.slice nO hc.noted.length dO,.int .i64 hc.next,.slice aC d.classes.length cC,.slice aS d.supers.length cS,.slice aF d.fields.length cF,.slice aN d.names.length cN,.slice aT d.targets.length cT,.slice nR rc.length dR] #[.int .i64 0,.int .i64 0] 131 84
  have hs2':=hA2.size
  have k2:W2.heap[w.heap.size+1+1+1]? =some (.cells #[.slice none 0 0,.int .i64 0,.int .i64 0,.int .i64 0,.int .i64 0,.slice none 0 0,.int .i64 0] 24 (0,0)):=(hA2.block _ (by omega)).trans ((hb1.block _ (lt0 HK3.out)).trans HK3.out)
  have hB2:Below w.heap.size w W2:=(HB0.out.trans (hb1.mono HB0.out.size)).trans (hA2.mono (by omega))
  obtain ⟨W9,h9,hgS,hq,hr,rz,rl⟩:=setN (zs:=[.slice none 0 0,.int .i64 0,.int .i64 0,.int .i64 0,.int .i64 0,.slice none 0 0,.int .i64 0]) k2 [.slice nW hc.words.length dW,.int .i64 hc.young,.int .i64 hc.old,.int .i64 hc.ytop,.int .i64 hc.otop,.slice nO hc.noted.length dO,.int .i64 hc.next] rfl
  have r0:=hr 0 _ rfl
  have r1:=hr 1 _ rfl
  have r2:=hr 2 _ rfl
  have r3:=hr 3 _ rfl
  have r4:=hr 4 _ rfl
  have r5:=hr 5 _ rfl
  have r6:=hr 6 _ rfl
  have q0:=hq 0 _ rfl
  have q1:=hq 1 _ rfl
  have q2:=hq 2 _ rfl
  have q3:=hq 3 _ rfl
  have q4:=hq 4 _ rfl
  have q5:=hq 5 _ rfl
  have q6:=hq 6 _ rfl
  have hw9:=hgS.size
  have HB9:=mk0 (bg0 (hB2) hgS (by omega))
  have HG9:=mk0 hgS
  simp only [setL,Nat.reduceAdd]at h9
  have H9:=mk0 h9
  clear hgS hq hr h9
  have v0:=cl0 m0 0 (x:=.slice nW hc.words.length dW) rfl
  have v1:=cl0 m0 1 (x:=.int .i64 hc.young) rfl
  have v2:=cl0 m0 2 (x:=.int .i64 hc.old) rfl
  have v3:=cl0 m0 3 (x:=.int .i64 hc.ytop) rfl
  have v4:=cl0 m0 4 (x:=.int .i64 hc.otop) rfl
  have v5:=cl0 m0 5 (x:=.slice nO hc.noted.length dO) rfl
  have v6:=cl0 m0 6 (x:=.int .i64 hc.next) rfl
  have v7:=cl0 m0 7 (x:=.slice aC d.classes.length cC) rfl
  have v8:=cl0 m0 8 (x:=.slice aS d.supers.length cS) rfl
  have v9:=cl0 m0 9 (x:=.slice aF d.fields.length cF) rfl
  have v10:=cl0 m0 10 (x:=.slice aN d.names.length cN) rfl
  have v11:=cl0 m0 11 (x:=.slice aT d.targets.length cT) rfl
  have v12:=cl0 m0 12 (x:=.slice nR rc.length dR) rfl
  have u0:=cl0 m1 0 (x:=.int .i64 0) rfl
  have lm0:=lt0 m0
  have lm1:=lt0 m1
  have ne0:¬w1.heap.size=w.heap.size+1+1+1:=by omega
  have ne1:¬w1.heap.size+1=w.heap.size+1+1+1:=by omega
  have ne2:¬w1.heap.size=w.heap.size+1+1:=by omega
  have ne3:¬w1.heap.size=w.heap.size+2:=by omega
  have HCL:Hid (∀p:Addr,p.block<W2.heap.size->p.block≠w.heap.size+1+1+1->W9.cell? p=W2.cell? p):=fun p hp hne=>World.cell?_of_block (a:=p) (HG9.out.block p.block hp (fun e=>hne (Option.some.inj e)))
  have HOF:Hid (OwnV w.heap.size W9 (.slice nW hc.words.length dW) (.slice nO hc.noted.length dO) hc):=((hov.below hA2).mono (by omega)).grown HG9.out (fun e=>by have:=(hov.rW.lt _ e).1;omega) (fun e=>by have:=(hov.rO.lt _ e).1;omega)
  have HRF:Hid (W9.ownsRow w.heap.size 3 1 (.slice nR rc.length dR) rc.length (intV rc)):=zhp ((zhj hor hA2).kept HG9.out (Or.inr fun e=>by have:=(hor.lt _ e).1;omega)) (by omega)
  clear hov hor hs0
  have HW2:=mk0 hW2
  clear hA2 m0 m1 k2 hB2 hb1 hW2 hs2'
  go_wp2_with fail
  rw [<-HW2.out]
  refine wp_region_held_drew (S:=fun W'=>∀p:Addr,p.block<W2.heap.size->p.block≠w.heap.size+1+1+1->W'.cell? p=W2.cell? p) (by kernel_rfl) (fun p hp _=>rfl) fun hH=>?_
  refine ta 0 (.pointer (some ⟨w1.heap.size,0,none⟩)) rfl hH ?_
  refine ta 1 (.pointer (some ⟨w1.heap.size,0,none⟩)) rfl hH ?_
  refine ta 2 (.agg #[.slice nW hc.words.length dW,.int .i64 hc.young,.int .i64 hc.old,.int .i64 hc.ytop,.int .i64 hc.otop,.slice nO hc.noted.length dO,.int .i64 hc.next]) rfl hH ?_
  refine ta 3 (.pointer (some ⟨w1.heap.size,12,none⟩)) rfl hH ?_
  refine ta 4 (.slice nR rc.length dR) rfl hH ?_
  refine ta 5 (.pointer (some ⟨w1.heap.size+1,0,none⟩)) rfl hH ?_
  refine ta 6 (.int .i64 0) rfl hH ?_
  refine wpAnyH_ready (rs:=[7]) (by kernel_rfl) (by simp) ?_
  refine AllReadyH.cons rfl (fun K7 hK7=>?_) AllReadyH.nil
  go_simp
  rw [H9.out]
  refine hK7.out _ _ HCL.out fun hH=>?_
  refine ta 8 (.slice nR rc.length dR) rfl hH ?_
  refine ta 9 (.int .i64 0) rfl hH ?_
  refine wpAnyH_done (by kernel_rfl) ?_ _
  clear hH
  try simp only [Act.put,List.setIfInBounds_toArray,List.set_cons_zero,List.set_cons_succ,List.getElem_toArray,List.getElem_cons_zero,List.getElem_cons_succ]
  go_wp2_with fail
  exact bodyPost_ret (v:=.tuple #[.agg #[.slice nW hc.words.length dW,.int .i64 hc.young,.int .i64 hc.old,.int .i64 hc.ytop,.int .i64 hc.otop,.slice nO hc.noted.length dO,.int .i64 hc.next],.slice nR rc.length dR,.int .i64 0]) (by simp [results,Tryz.results33,go_sem,q0,q1,q2,q3,q4,q5,q6]) rfl ⟨HB9.out.drew,Or.inl ⟨HM0.out,nW,dW,nO,dO,nR,dR,by rw [HHC.out.1,HHC.out.2],by rw [HHC.out.1];exact HOF.out.below (Below.refl _ _).drew,by rw [HHC.out.2];exact zhj HRF.out (Below.refl _ _).drew⟩⟩
 have hs0:=HS0.out
 have HM0:=mk0 h0
 obtain ⟨mr,hmr⟩:∃mr,colErr d h rs=mr:=⟨_,rfl⟩
 rw [hmr]at HM0 ⊢
 have HMR:=mk0 hmr
 clear hmr HMD h0
 obtain ⟨W2,hW2,hA2,hs2,m0,m1⟩:=boxes2 w1 #[.slice none 0 0,.int .i64 0,.int .i64 0,.int .i64 0,.int .i64 0,.slice none 0 0,.int .i64 0,.slice none 0 0,.slice none 0 0,.slice none 0 0,.slice none 0 0,.slice none 0 0,.slice none 0 0] #[.int .i64 mr,.int .i64 0] 131 84
 have hs2':=hA2.size
 have k2:W2.heap[w.heap.size+1+1+1]? =some (.cells #[.slice none 0 0,.int .i64 0,.int .i64 0,.int .i64 0,.int .i64 0,.slice none 0 0,.int .i64 0] 24 (0,0)):=(hA2.block _ (by omega)).trans ((hb1.block _ (lt0 HK3.out)).trans HK3.out)
 have hB2:Below w.heap.size w W2:=(HB0.out.trans (hb1.mono HB0.out.size)).trans (hA2.mono (by omega))
 obtain ⟨W9,h9,hgS,hq,hr,rz,rl⟩:=setN (zs:=[.slice none 0 0,.int .i64 0,.int .i64 0,.int .i64 0,.int .i64 0,.slice none 0 0,.int .i64 0]) k2 [.slice none 0 0,.int .i64 0,.int .i64 0,.int .i64 0,.int .i64 0,.slice none 0 0,.int .i64 0] rfl
 have r0:=hr 0 _ rfl
 have r1:=hr 1 _ rfl
 have r2:=hr 2 _ rfl
 have r3:=hr 3 _ rfl
 have r4:=hr 4 _ rfl
 have r5:=hr 5 _ rfl
 have r6:=hr 6 _ rfl
 have q0:=hq 0 _ rfl
 have q1:=hq 1 _ rfl
 have q2:=hq 2 _ rfl
 have q3:=hq 3 _ rfl
 have q4:=hq 4 _ rfl
 have q5:=hq 5 _ rfl
 have q6:=hq 6 _ rfl
 have hw9:=hgS.size
 have HB9:=mk0 (bg0 (hB2) hgS (by omega))
 have HG9:=mk0 hgS
 simp only [setL,Nat.reduceAdd]at h9
 have H9:=mk0 h9
 clear hgS hq hr h9
 have v0:=cl0 m0 0 (x:=.slice none 0 0) rfl
 have v1:=cl0 m0 1 (x:=.int .i64 0) rfl
 have v2:=cl0 m0 2 (x:=.int .i64 0) rfl
 have v3:=cl0 m0 3 (x:=.int .i64 0) rfl
 have v4:=cl0 m0 4 (x:=.int .i64 0) rfl
 have v5:=cl0 m0 5 (x:=.slice none 0 0) rfl
 have v6:=cl0 m0 6 (x:=.int .i64 0) rfl
 have v7:=cl0 m0 7 (x:=.slice none 0 0) rfl
 have v8:=cl0 m0 8 (x:=.slice none 0 0) rfl
 have v9:=cl0 m0 9 (x:=.slice none 0 0) rfl
 have v10:=cl0 m0 10 (x:=.slice none 0 0) rfl
 have v11:=cl0 m0 11 (x:=.slice none 0 0) rfl
 have v12:=cl0 m0 12 (x:=.slice none 0 0) rfl
 have u0:=cl0 m1 0 (x:=.int .i64 mr) rfl
 have lm0:=lt0 m0
 have lm1:=lt0 m1
 have ne0:¬w1.heap.size=w.heap.size+1+1+1:=by omega
 have ne1:¬w1.heap.size+1=w.heap.size+1+1+1:=by omega
 have ne2:¬w1.heap.size=w.heap.size+1+1:=by omega
 have ne3:¬w1.heap.size=w.heap.size+2:=by omega
 have HCL:Hid (∀p:Addr,p.block<W2.heap.size->p.block≠w.heap.size+1+1+1->W9.cell? p=W2.cell? p):=fun p hp hne=>World.cell?_of_block (a:=p) (HG9.out.block p.block hp (fun e=>hne (Option.some.inj e)))
 clear hs0
 have HW2:=mk0 hW2
 clear hA2 m0 m1 k2 hB2 hb1 hW2 hs2'
 go_wp2_with fail
 rw [<-HW2.out]
 refine wp_region_held_drew (S:=fun W'=>∀p:Addr,p.block<W2.heap.size->p.block≠w.heap.size+1+1+1->W'.cell? p=W2.cell? p) (by kernel_rfl) (fun p hp _=>rfl) fun hH=>?_
 refine ta 0 (.pointer (some ⟨w1.heap.size,0,none⟩)) rfl hH ?_
 refine ta 1 (.pointer (some ⟨w1.heap.size,0,none⟩)) rfl hH ?_
 refine ta 2 (.agg #[.slice none 0 0,.int .i64 0,.int .i64 0,.int .i64 0,.int .i64 0,.slice none 0 0,.int .i64 0]) rfl hH ?_
 refine ta 3 (.pointer (some ⟨w1.heap.size,12,none⟩)) rfl hH ?_
 refine ta 4 (.slice none 0 0) rfl hH ?_
 refine ta 5 (.pointer (some ⟨w1.heap.size+1,0,none⟩)) rfl hH ?_
 refine ta 6 (.int .i64 mr) rfl hH ?_
 refine wpAnyH_ready (rs:=[7]) (by kernel_rfl) (by simp) ?_
 refine AllReadyH.cons rfl (fun K7 hK7=>?_) AllReadyH.nil
 go_simp
 rw [H9.out]
 refine hK7.out _ _ HCL.out fun hH=>?_
 refine ta 8 (.slice none 0 0) rfl hH ?_
 refine ta 9 (.int .i64 mr) rfl hH ?_
 refine wpAnyH_done (by kernel_rfl) ?_ _
 clear hH
 try simp only [Act.put,List.setIfInBounds_toArray,List.set_cons_zero,List.set_cons_succ,List.getElem_toArray,List.getElem_cons_zero,List.getElem_cons_succ]
 go_wp2_with fail
 exact bodyPost_ret (v:=.tuple #[.agg #[.slice none 0 0,.int .i64 0,.int .i64 0,.int .i64 0,.int .i64 0,.slice none 0 0,.int .i64 0],.slice none 0 0,.int .i64 mr]) (by simp [results,Tryz.results33,go_sem,q0,q1,q2,q3,q4,q5,q6]) rfl ⟨HB9.out.drew,Or.inr ⟨by rw [HMR.out];exact HM0.out,by rw [HMR.out]⟩⟩
end Go.Proofs.YtjdnmblggdobgaaGreat
