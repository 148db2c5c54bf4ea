import Derived.Test.YtjdnmblggdobgaaGreatJTk2Dies
import Derived.Test.YtjdnmblggdobgaaGreatJHuAHuC
import Derived.Test.YtjdnmblggdobgaaGreatHrG
import Derived.Test.YtjdnmblggdobgaaGreatJLPu5LCkL
set_option maxHeartbeats 2000000
set_option maxRecDepth 100000
namespace Go.Proofs.YtjdnmblggdobgaaGreat
open Go.RowKit Go.Maps
theorem zrd (d:LinkD):linkedErr d=if okLk d=true then 0 else 4:=by
 rw [zrb]
 unfold chkRes
 simp
theorem zre (w:World) (B:Nat) (vW vO kC kS kF kN kT:Value) (h:HeapD) (d:LinkD) (g:Hd B w vW vO kC kS kF kN kT h d) (hnb:h.next<=9223372036854775807):
 Calls Tryz.prog 21 #[.agg #[vW,.int .i64 h.young,.int .i64 h.old,.int .i64 h.ytop,.int .i64 h.otop,vO,.int .i64 h.next],.agg #[kC,kS,kF,kN,kT]] w fun r w'=>r=.returned (.int .i64 (heapErr d h))/\Below w.heap.size w w':=by
 have HG:=mk0 g
 obtain ⟨aW,cW,aO,cO,aC,cC,aS,cS,aF,cF,aN,cN,aT,cT,rfl,rfl,rfl,rfl,rfl,rfl,rfl⟩:=g.agg
 clear g
 obtain ⟨W0,hW0,hB0,hs0,k0,k1⟩:=boxes2 w #[.slice aW h.words.length cW,.int .i64 h.young,.int .i64 h.old,.int .i64 h.ytop,.int .i64 h.otop,.slice aO h.noted.length cO,.int .i64 h.next] #[.slice aC d.classes.length cC,.slice aS d.supers.length cS,.slice aF d.fields.length cF,.slice aN d.names.length cN,.slice aT d.targets.length cT] 24 36
 have lk0:=lt0 k0
 have lk1:=lt0 k1
 have c0:=cl0 k0 0 (x:=.slice aW h.words.length cW) rfl
 have c1:=cl0 k0 1 (x:=.int .i64 h.young) rfl
 have c2:=cl0 k0 2 (x:=.int .i64 h.old) rfl
 have c3:=cl0 k0 3 (x:=.int .i64 h.ytop) rfl
 have c4:=cl0 k0 4 (x:=.int .i64 h.otop) rfl
 have c5:=cl0 k0 5 (x:=.slice aO h.noted.length cO) rfl
 have c6:=cl0 k0 6 (x:=.int .i64 h.next) rfl
 have e0:=cl0 k1 0 (x:=.slice aC d.classes.length cC) rfl
 have e1:=cl0 k1 1 (x:=.slice aS d.supers.length cS) rfl
 have e2:=cl0 k1 2 (x:=.slice aF d.fields.length cF) rfl
 have e3:=cl0 k1 3 (x:=.slice aN d.names.length cN) rfl
 have e4:=cl0 k1 4 (x:=.slice aT d.targets.length cT) rfl
 have HB0:=mk0 hB0
 have HE0:=mk0 hW0
 have HK0:=mk0 (And.intro k0 k1)
 have HCL:=mk0 (zrc W0 B _ _ _ _ _ d (HG.out.below (hB0.mono HG.out.le)).lk (HG.out.below (hB0.mono HG.out.le)).le)
 rw [zrd]at HCL
 cases hok:okLk d with
 | false=>
   rw [hok]at HCL
   simp only [Bool.false_eq_true,if_false]at HCL
   have HR:Hid (heapErr d h=4):=by show _=_;unfold heapErr;rw [hok];rfl
   rw [HE0.out]at HCL
   clear k0 k1 hB0 hW0 hs0 hok
   go_enter Tryz.func21,Tryz.ntmps21
   go_wp2_with fail
   refine HCL.out.mono ?_
   rw [<-HE0.out]
   rintro r w1 ⟨rfl,hb1⟩
   have HB1:=mk0 (HB0.out.trans (hb1.mono HB0.out.size))
   clear hb1 HCL
   go_wp2_with fail
   go_ret
   exact ⟨by rw [HR.out];rfl,HB1.out⟩
 | true=>
   rw [hok]at HCL
   simp only [if_true]at HCL
   have hfew:=zkh hok
   have HCH:Hid (∀V,Below W0.heap.size W0 V->Calls Tryz.prog 55 #[.agg #[.slice aW h.words.length cW,.int .i64 h.young,.int .i64 h.old,.int .i64 h.ytop,.int .i64 h.otop,.slice aO h.noted.length cO,.int .i64 h.next],.agg #[.slice aC d.classes.length cC,.slice aS d.supers.length cS,.slice aF d.fields.length cF,.slice aN d.names.length cN,.slice aT d.targets.length cT]] V fun r w'=>r=.returned (.int .i64 (heapErr d h))/\Below V.heap.size V w'):=fun V hV=>by
    have g2:=HG.out.below ((hB0.trans (hV.mono hB0.size)).mono HG.out.le)
    have:=zn9 V B _ _ _ _ _ _ _ h d g2.sW g2.sO g2.lk g2.le hfew hnb
    rw [zn8 hfew]at this
    unfold heapErr
    rw [hok,if_pos rfl]
    exact this
   rw [HE0.out]at HCL
   clear k0 k1 hB0 hW0 hs0 hok hfew hnb
   generalize heapErr d h=er at*
   go_enter Tryz.func21,Tryz.ntmps21
   go_wp2_with fail
   refine HCL.out.mono ?_
   rw [<-HE0.out]
   rintro r w1 ⟨rfl,hb1⟩
   have hB1:=HB0.out.trans (hb1.mono HB0.out.size)
   have k0:=(hb1.block _ lk0).trans HK0.out.1
   have k1:=(hb1.block _ lk1).trans HK0.out.2
   have m0:=lt0 k0
   have m1:=lt0 k1
   have f0:=cl0 k0 0 (x:=.slice aW h.words.length cW) rfl
   have f1:=cl0 k0 1 (x:=.int .i64 h.young) rfl
   have f2:=cl0 k0 2 (x:=.int .i64 h.old) rfl
   have f3:=cl0 k0 3 (x:=.int .i64 h.ytop) rfl
   have f4:=cl0 k0 4 (x:=.int .i64 h.otop) rfl
   have f5:=cl0 k0 5 (x:=.slice aO h.noted.length cO) rfl
   have f6:=cl0 k0 6 (x:=.int .i64 h.next) rfl
   have g0:=cl0 k1 0 (x:=.slice aC d.classes.length cC) rfl
   have g1:=cl0 k1 1 (x:=.slice aS d.supers.length cS) rfl
   have g2:=cl0 k1 2 (x:=.slice aF d.fields.length cF) rfl
   have g3:=cl0 k1 3 (x:=.slice aN d.names.length cN) rfl
   have g4:=cl0 k1 4 (x:=.slice aT d.targets.length cT) rfl
   have HC1:=mk0 (HCH.out w1 hb1)
   have HB1:=mk0 hB1
   clear hb1 hB1 k0 k1 HCL
   go_wp2_with fail
   refine HC1.out.mono ?_
   rintro r w2 ⟨rfl,hb2⟩
   have HB2:=mk0 (HB1.out.trans (hb2.mono HB1.out.size))
   clear hb2
   go_wp2_with fail
   go_ret
   exact ⟨rfl,HB2.out⟩
end Go.Proofs.YtjdnmblggdobgaaGreat
