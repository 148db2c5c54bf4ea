import Derived.Test.YtjdnmblggdobgaaGreatHqB
import Derived.Test.YtjdnmblggdobgaaGreatJHmCBx
set_option maxHeartbeats 2000000
set_option maxRecDepth 100000
namespace Go.Proofs.YtjdnmblggdobgaaGreat
open Go.RowKit Go.Maps
def formErr (d:LinkD) (tag len:Int):Int:=if isTagB d.classes.length tag then (if mayHaveB d.fields tag len then 0 else 3) else 7
theorem formOf_any (w:World) (B:Nat) (kC kS kF kN kT:Value) (d:LinkD) (hk:RLk (· <B) w kC kS kF kN kT d) (hB:B<=w.heap.size) (hd:Few d) (tag len:Int):
 Calls Tryz.prog 23 #[.agg #[kC,kS,kF,kN,kT],.int .i64 tag,.int .i64 len] w fun r w'=>r=.returned (.int .i64 (formErr d tag len))/\Below w.heap.size w w':=by
 have HK:=mk0 hk
 obtain ⟨aC,cC,aS,cS,aF,cF,aN,cN,aT,cT,rfl,rfl,rfl,rfl,rfl⟩:=hk.agg
 clear hk
 obtain ⟨W0,hW0,hB0,hs0,k0⟩:=boxes1 w #[.slice aC d.classes.length cC,.slice aS d.supers.length cS,.slice aF d.fields.length cF,.slice aN d.names.length cN,.slice aT d.targets.length cT] 36
 have HTG:Hid (Calls Tryz.prog 59 #[.agg #[.slice aC d.classes.length cC,.slice aS d.supers.length cS,.slice aF d.fields.length cF,.slice aN d.names.length cN,.slice aT d.targets.length cT],.int .i64 tag] W0 fun r w'=>r=.returned (.bool (isTagB d.classes.length tag))/\Below W0.heap.size W0 w'):=rTag_any W0 B _ _ _ _ _ d (HK.out.kept (Kp.below (hB0.mono hB))) tag (by have:=hd.cn;omega)
 have HLN:Hid (isTagB d.classes.length tag=true->∀V,Below W0.heap.size W0 V->Calls Tryz.prog 60 #[.agg #[.slice aC d.classes.length cC,.slice aS d.supers.length cS,.slice aF d.fields.length cF,.slice aN d.names.length cN,.slice aT d.targets.length cT],.int .i64 tag,.int .i64 len] V fun r w'=>r=.returned (.bool (mayHaveB d.fields tag len))/\Below V.heap.size V w'):=fun h0 V hV=>by
  unfold isTagB at h0
  simp only [Bool.and_eq_true,decide_eq_true_eq]at h0
  have hb:=hB0.trans (hV.mono hB0.size)
  rw [<-rLen_may (fun f hf=>Nat.le_trans (hd.fs f hf) (by omega))]
  exact rLen_any V B _ _ _ _ _ d (HK.out.kept (Kp.below (hb.mono hB))) (Nat.le_trans hB hb.size) tag len (by rw [hd.fl];exact h0.2)
 have lk0:=lt0 k0
 have e0:=cl0 k0 0 (x:=.slice aC d.classes.length cC) rfl
 have e1:=cl0 k0 1 (x:=.slice aS d.supers.length cS) rfl
 have e2:=cl0 k0 2 (x:=.slice aF d.fields.length cF) rfl
 have e3:=cl0 k0 3 (x:=.slice aN d.names.length cN) rfl
 have e4:=cl0 k0 4 (x:=.slice aT d.targets.length cT) rfl
 have HK0:=mk0 k0
 have HB0:=mk0 hB0
 have HE0:=mk0 hW0
 rw [HE0.out]at HTG
 clear k0 hB0 hW0 hs0 hd
 cases ht:isTagB d.classes.length tag with
 | false=>
   rw [ht]at HTG
   have HR:Hid (formErr d tag len=7):=by show _=_;unfold formErr;rw [ht];rfl
   clear ht HLN
   go_enter Tryz.func23,Tryz.ntmps23
   go_wp2_with fail
   refine HTG.out.mono ?_
   rw [<-HE0.out]
   rintro r w1 ⟨rfl,hb1⟩
   have HB1:=mk0 (HB0.out.trans (hb1.mono HB0.out.size))
   clear hb1 HTG
   go_wp2_with fail
   go_ret
   exact ⟨by rw [HR.out];rfl,HB1.out⟩
 | true=>
   rw [ht]at HTG
   have HL2:=mk0 (HLN.out ht)
   have HR:Hid (formErr d tag len=if mayHaveB d.fields tag len then 0 else 3):=by show _=_;unfold formErr;rw [ht];rfl
   clear ht HLN
   generalize mayHaveB d.fields tag len=mb at*
   go_enter Tryz.func23,Tryz.ntmps23
   go_wp2_with fail
   refine HTG.out.mono ?_
   rw [<-HE0.out]
   rintro r w1 ⟨rfl,hb1⟩
   have k1:=(hb1.block _ lk0).trans HK0.out
   have m1:=lt0 k1
   have f0:=cl0 k1 0 (x:=.slice aC d.classes.length cC) rfl
   have f1:=cl0 k1 1 (x:=.slice aS d.supers.length cS) rfl
   have f2:=cl0 k1 2 (x:=.slice aF d.fields.length cF) rfl
   have f3:=cl0 k1 3 (x:=.slice aN d.names.length cN) rfl
   have f4:=cl0 k1 4 (x:=.slice aT d.targets.length cT) rfl
   have HL3:=mk0 (HL2.out w1 hb1)
   have HB1:=mk0 (HB0.out.trans (hb1.mono HB0.out.size))
   clear hb1 HTG k1 HL2
   go_wp2_with fail
   refine HL3.out.mono ?_
   rintro r w2 ⟨rfl,hb2⟩
   have HB2:=mk0 (HB1.out.trans (hb2.mono HB1.out.size))
   clear hb2 HL3
   cases mb with
   | false=>
     go_wp2_with fail
     go_ret
     exact ⟨by rw [HR.out];rfl,HB2.out⟩
   | true=>
     go_wp2_with fail
     go_ret
     exact ⟨by rw [HR.out];rfl,HB2.out⟩
end Go.Proofs.YtjdnmblggdobgaaGreat
