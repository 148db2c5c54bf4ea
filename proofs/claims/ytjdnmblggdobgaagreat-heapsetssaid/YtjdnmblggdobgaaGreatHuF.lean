import Derived.Test.YtjdnmblggdobgaaGreatJHtKHtM
import Derived.Test.YtjdnmblggdobgaaGreatHqB
set_option maxHeartbeats 2000000
set_option maxRecDepth 100000
namespace Go.Proofs.YtjdnmblggdobgaaGreat
open Go.RowKit Go.Maps
theorem zrm {d:LinkD} {h:HeapD} {ts ys os:List ThD} (hb:bothT d h=some ts) (h1:walkT d.classes.length d.fields h.words 1 h.ytop=some ys) (h2:walkT d.classes.length d.fields h.words (h.young+1) h.otop=some os):ts=ys++os:=by
 unfold bothT at hb
 rw [h1,h2]at hb
 exact (Option.some.inj hb).symm
theorem zrn (w:World) (B:Nat) (vW vO kC kS kF kN kT:Value) (h:HeapD) (d:LinkD) (g:Hd B w vW vO kC kS kF kN kT h d) (hz:Sized d h) (hd:Few d) (ts:List ThD) (hts:bothT d h=some ts) (loc:Int):
 Calls Tryz.prog 28 #[.agg #[vW,.int .i64 h.young,.int .i64 h.old,.int .i64 h.ytop,.int .i64 h.otop,vO,.int .i64 h.next],.agg #[kC,kS,kF,kN,kT],.int .i64 loc] w fun r w'=>r=.returned (.bool (plAt ts loc).isSome)/\Below w.heap.size w w':=by
 have HG:=mk0 g
 obtain ⟨aW,cW,aO,cO,aC,cC,aS,cS,aF,cF,aN,cN,aT,cT,rfl,rfl,rfl,rfl,rfl,rfl,rfl⟩:=g.agg
 clear g
 obtain ⟨W0,hW0,hB0,hs0,k0,k1⟩:=boxes2 w #[.slice aW h.words.length cW,.int .i64 h.young,.int .i64 h.old,.int .i64 h.ytop,.int .i64 h.otop,.slice aO h.noted.length cO,.int .i64 h.next] #[.slice aC d.classes.length cC,.slice aS d.supers.length cS,.slice aF d.fields.length cF,.slice aN d.names.length cN,.slice aT d.targets.length cT] 24 36
 have g2:=HG.out.below (hB0.mono HG.out.le)
 have HTH:=mk0 (znq W0 B _ _ _ _ _ _ _ h d g2.sW g2.sO g2.lk g2.le hz (fun f hf=>Nat.le_trans (hd.fs f hf) (by omega)))
 have HTS:=mk0 hts
 have HZ:=mk0 hz
 have HB0:=mk0 hB0
 have HE0:=mk0 hW0
 rw [HE0.out]at HTH
 clear k0 k1 hB0 hW0 hs0 g2 hts hz hd
 go_enter Tryz.func28,Tryz.ntmps28
 go_wp2_with fail
 refine HTH.out.mono ?_
 rw [<-HE0.out]
 rintro r w1 ⟨hb1,⟨ys,os,vy,vo,h1,h2,rfl,ho1,ho2⟩ | ⟨hno,-⟩⟩
 rotate_left
 ·rw [HTS.out]at hno;cases hno
 have hts:=zrm HTS.out h1 h2
 have HRS:Hid ((plAt ts loc).isSome=((ys.map ThD.loc).contains loc||(os.map ThD.loc).contains loc)):=by
  show _=_
  rw [znz,hts,List.map_append,List.contains_append]
 obtain ⟨m1,hm1⟩:∃m:List Int,ys.map ThD.loc=m:=⟨_,rfl⟩
 obtain ⟨m2,hm2⟩:∃m:List Int,os.map ThD.loc=m:=⟨_,rfl⟩
 rw [hm1]at ho1 HRS
 rw [hm2]at ho2 HRS
 have z1:=HZ.out.young
 have z2:=HZ.out.old
 have z4:=HZ.out.ytop
 have z5:=HZ.out.otop
 have hl1:m1.length<=1000000:=by
  have:=zhn (by omega) h1
  rw [<-hm1,List.length_map]
  omega
 have hl2:m2.length<=1000000:=by
  have:=zhn (by omega) h2
  rw [<-hm2,List.length_map]
  omega
 clear z1 z2 z4 z5
 have s1:=zfb ho1 hl1
 have s2:=zfb ho2 hl2
 have HH1:Hid (Calls Tryz.prog 74 #[vy,.int .i64 loc] w1 fun r w'=>r=.returned (.bool (m1.contains loc))/\w'=w1):=zky w1 _ _ _ s1 loc
 have HH2:Hid (Calls Tryz.prog 74 #[vo,.int .i64 loc] w1 fun r w'=>r=.returned (.bool (m2.contains loc))/\w'=w1):=zky w1 _ _ _ s2 loc
 obtain ⟨a1,c1,rfl⟩:=zmr ho1
 obtain ⟨a2,c2,rfl⟩:=zmr ho2
 generalize m1.contains loc=q1 at*
 generalize m2.contains loc=q2 at*
 have HB1:=mk0 (HB0.out.trans (hb1.mono HB0.out.size))
 clear hb1 ho1 ho2 s1 s2 hm1 hm2 h1 h2 hts hl1 hl2 HTH
 go_wp2_with fail
 refine HH1.out.mono ?_
 rintro r _ ⟨rfl,rfl⟩
 cases q1 with
 | true=>
   go_wp2_with fail
   go_ret
   exact ⟨by rw [HRS.out];rfl,HB1.out⟩
 | false=>
   go_wp2_with fail
   refine HH2.out.mono ?_
   rintro r _ ⟨rfl,rfl⟩
   go_wp2_with fail
   go_ret
   exact ⟨by rw [HRS.out];rfl,HB1.out⟩
end Go.Proofs.YtjdnmblggdobgaaGreat
