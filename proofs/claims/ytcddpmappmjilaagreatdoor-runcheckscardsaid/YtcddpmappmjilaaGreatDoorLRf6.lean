import Derived.Test.YtcddpmappmjilaaGreatDoorLRf4
import Derived.Test.YtcddpmappmjilaaGreatDoorJLMkArgL
import Derived.Test.YtcddpmappmjilaaGreatDoorJSameSameC
namespace Go.Proofs.YtcddpmappmjilaaGreatDoor
open Go.RowKit Go.Maps
def sameRest (d e:LinkD):Bool:=eqL sameI d.supers e.supers&&eqL (eqL sameF) d.fields e.fields&&eqL (eqL sameS) d.names e.names&&eqL (eqL sameT) d.targets e.targets
set_option maxRecDepth 100000 in
set_option maxHeartbeats 8000000 in
theorem SameLinked_any (w:World) (B:Nat) (aC aS aF aN aT bC bS bF bN bT:Value) (d e:LinkD) (hd:RLk (· <B) w aC aS aF aN aT d) (he:RLk (· <B) w bC bS bF bN bT e) (hcl:d.classes=e.classes) (hB:B<=w.heap.size):
 Calls Tryz.prog 9 #[.agg #[aC,aS,aF,aN,aT],.agg #[bC,bS,bF,bN,bT]] w fun r w'=>r=.returned (.bool (sameRest d e))/\Below w.heap.size w w':=by
 have hB1:Below w.heap.size w ((w.alloc (.cells #[aC,aS,aF,aN,aT] 28)).alloc (.cells #[bC,bS,bF,bN,bT] 28)):=((Below.refl _ _).alloc (Nat.le_refl _) _).alloc (by simp) _
 have hka:((w.alloc (.cells #[aC,aS,aF,aN,aT] 28)).alloc (.cells #[bC,bS,bF,bN,bT] 28)).heap[w.heap.size]? =some (.cells #[aC,aS,aF,aN,aT] 28 (0,0)):=(Below.heap_alloc _ _ _ (by simp)).trans (heap_alloc_new w _)
 have hkb:((w.alloc (.cells #[aC,aS,aF,aN,aT] 28)).alloc (.cells #[bC,bS,bF,bN,bT] 28)).heap[w.heap.size+1]? =some (.cells #[bC,bS,bF,bN,bT] 28 (0,0)):=by
  have:=heap_alloc_new (w.alloc (.cells #[aC,aS,aF,aN,aT] 28)) (.cells #[bC,bS,bF,bN,bT] 28)
  simpa using this
 have hd1:=hd.kept (Kp.below (hB1.mono hB))
 have he1:=he.kept (Kp.below (hB1.mono hB))
 have HSC:=mkHid (sameClasses_any _ aC bC d.classes (hd1.C.monoC fun _ (h:_<B)=>by have:=hB1.size;omega) (hcl ▸ he1.C.monoC fun _ (h:_<B)=>by have:=hB1.size;omega))
 have HD1:=mkHid hd1
 have HE1:=mkHid he1
 have HB1:=mkHid hB1
 have HKA:=mkHid hka
 have HKB:=mkHid hkb
 have HSR:Hid (sameRest d e=(eqL sameI d.supers e.supers&&eqL (eqL sameF) d.fields e.fields&&eqL (eqL sameS) d.names e.names&&eqL (eqL sameT) d.targets e.targets)):=rfl
 have a0:=cell_of hka 0 (x:=aC) rfl
 have a1:=cell_of hka 1 (x:=aS) rfl
 have b0:=cell_of hkb 0 (x:=bC) rfl
 have hza:w.heap.size<((w.alloc (.cells #[aC,aS,aF,aN,aT] 28)).alloc (.cells #[bC,bS,bF,bN,bT] 28)).heap.size:=by simp;omega
 have hzb:w.heap.size+1<((w.alloc (.cells #[aC,aS,aF,aN,aT] 28)).alloc (.cells #[bC,bS,bF,bN,bT] 28)).heap.size:=by simp
 obtain ⟨oaS,caS,rfl,-,hl1,-⟩:=hd.S
 obtain ⟨oaF,caF,rfl,-,hl2,-⟩:=hd.F
 obtain ⟨oaN,caN,rfl,-,hl3,-⟩:=hd.N
 obtain ⟨oaT,caT,rfl,-,hl4,-⟩:=hd.T
 obtain ⟨obS,cbS,rfl,-,hm1,-⟩:=he.S
 obtain ⟨obF,cbF,rfl,-,hm2,-⟩:=he.F
 obtain ⟨obN,cbN,rfl,-,hm3,-⟩:=he.N
 obtain ⟨obT,cbT,rfl,-,hm4,-⟩:=he.T
 unfold maxLen at hl1 hl2 hl3 hl4 hm1 hm2 hm3 hm4
 clear hd he hd1 he1 hka hkb
 have HW1:Hid (((w.alloc (.cells #[aC,.slice oaS d.supers.length caS,.slice oaF d.fields.length caF,.slice oaN d.names.length caN,.slice oaT d.targets.length caT] 28)).alloc (.cells #[bC,.slice obS e.supers.length cbS,.slice obF e.fields.length cbF,.slice obN e.names.length cbN,.slice obT e.targets.length cbT] 28)).heap.size=w.heap.size+2):=by
  show _=_
  simp
 go_enter Tryz.func9,Tryz.ntmps9
 go_upto_region 2 with fail
 generalize hWW:((w.alloc (.cells #[aC,.slice oaS d.supers.length caS,.slice oaF d.fields.length caF,.slice oaN d.names.length caN,.slice oaT d.targets.length caT] 28)).alloc (.cells #[bC,.slice obS e.supers.length cbS,.slice obF e.fields.length cbF,.slice obN e.names.length cbN,.slice obT e.targets.length cbT] 28))=W1 at*
 clear hWW
 have hbb:=HB1.out.size
 have HBL:Hid (∀w',Below W1.heap.size W1 w'->Below w.heap.size w w'):=fun w' h=>HB1.out.trans (h.mono HB1.out.size)
 by_cases hsupers:d.supers.length=e.supers.length
 rotate_left
 ·
  have HR:Hid (sameRest d e=false):=HSR.out.trans (by rw [eqL_len sameI d.supers e.supers hsupers];simp)
  have hx:¬(e.supers.length:Int)=d.supers.length:=by omega
  have hx':((e.supers.length:Int)==d.supers.length)=false:=beq_eq_false_iff_ne.2 hx
  clear hsupers
  go_wp2_with (first | (go_at_call 20;refine HSC.out.mono ?_;rintro r w7 ⟨rfl,hb7⟩;have ka:=(hb7.block w.heap.size (by omega)).trans HKA.out;have kb:=(hb7.block (w.heap.size+1) (by omega)).trans HKB.out;have p1:=cell_of ka 1 (x:=.slice oaS d.supers.length caS) rfl;have p2:=cell_of ka 2 (x:=.slice oaF d.fields.length caF) rfl;have p3:=cell_of ka 3 (x:=.slice oaN d.names.length caN) rfl;have p4:=cell_of ka 4 (x:=.slice oaT d.targets.length caT) rfl;have o1:=cell_of kb 1 (x:=.slice obS e.supers.length cbS) rfl;have o2:=cell_of kb 2 (x:=.slice obF e.fields.length cbF) rfl;have o3:=cell_of kb 3 (x:=.slice obN e.names.length cbN) rfl;have o4:=cell_of kb 4 (x:=.slice obT e.targets.length cbT) rfl;have za:=lt_of ka;have zb:=lt_of kb;have HB7:=mkHid hb7;have HKZ:=mkHid (And.intro ka kb);clear hb7 ka kb))
  go_ret
  exact ⟨by rw [HR.out];rfl,HBL.out _ HB7.out⟩
 have HLsupers:=mkHid hsupers
 by_cases hfields:d.fields.length=e.fields.length
 rotate_left
 ·
  have HR:Hid (sameRest d e=false):=HSR.out.trans (by rw [eqL_len (eqL sameF) d.fields e.fields hfields];simp)
  have hx:¬(d.fields.length:Int)=e.fields.length:=by omega
  have hx':((d.fields.length:Int)==e.fields.length)=false:=beq_eq_false_iff_ne.2 hx
  clear hfields
  go_wp2_with (first | (go_at_call 20;refine HSC.out.mono ?_;rintro r w7 ⟨rfl,hb7⟩;have ka:=(hb7.block w.heap.size (by omega)).trans HKA.out;have kb:=(hb7.block (w.heap.size+1) (by omega)).trans HKB.out;have p1:=cell_of ka 1 (x:=.slice oaS d.supers.length caS) rfl;have p2:=cell_of ka 2 (x:=.slice oaF d.fields.length caF) rfl;have p3:=cell_of ka 3 (x:=.slice oaN d.names.length caN) rfl;have p4:=cell_of ka 4 (x:=.slice oaT d.targets.length caT) rfl;have o1:=cell_of kb 1 (x:=.slice obS e.supers.length cbS) rfl;have o2:=cell_of kb 2 (x:=.slice obF e.fields.length cbF) rfl;have o3:=cell_of kb 3 (x:=.slice obN e.names.length cbN) rfl;have o4:=cell_of kb 4 (x:=.slice obT e.targets.length cbT) rfl;have za:=lt_of ka;have zb:=lt_of kb;have HB7:=mkHid hb7;have HKZ:=mkHid (And.intro ka kb);clear hb7 ka kb))
  go_ret
  exact ⟨by rw [HR.out];rfl,HBL.out _ HB7.out⟩
 have HLfields:=mkHid hfields
 by_cases hnames:d.names.length=e.names.length
 rotate_left
 ·
  have HR:Hid (sameRest d e=false):=HSR.out.trans (by rw [eqL_len (eqL sameS) d.names e.names hnames];simp)
  have hx:¬(d.names.length:Int)=e.names.length:=by omega
  have hx':((d.names.length:Int)==e.names.length)=false:=beq_eq_false_iff_ne.2 hx
  clear hnames
  go_wp2_with (first | (go_at_call 20;refine HSC.out.mono ?_;rintro r w7 ⟨rfl,hb7⟩;have ka:=(hb7.block w.heap.size (by omega)).trans HKA.out;have kb:=(hb7.block (w.heap.size+1) (by omega)).trans HKB.out;have p1:=cell_of ka 1 (x:=.slice oaS d.supers.length caS) rfl;have p2:=cell_of ka 2 (x:=.slice oaF d.fields.length caF) rfl;have p3:=cell_of ka 3 (x:=.slice oaN d.names.length caN) rfl;have p4:=cell_of ka 4 (x:=.slice oaT d.targets.length caT) rfl;have o1:=cell_of kb 1 (x:=.slice obS e.supers.length cbS) rfl;have o2:=cell_of kb 2 (x:=.slice obF e.fields.length cbF) rfl;have o3:=cell_of kb 3 (x:=.slice obN e.names.length cbN) rfl;have o4:=cell_of kb 4 (x:=.slice obT e.targets.length cbT) rfl;have za:=lt_of ka;have zb:=lt_of kb;have HB7:=mkHid hb7;have HKZ:=mkHid (And.intro ka kb);clear hb7 ka kb))
  go_ret
  exact ⟨by rw [HR.out];rfl,HBL.out _ HB7.out⟩
 have HLnames:=mkHid hnames
 by_cases htargets:d.targets.length=e.targets.length
 rotate_left
 ·
  have HR:Hid (sameRest d e=false):=HSR.out.trans (by rw [eqL_len (eqL sameT) d.targets e.targets htargets];simp)
  have hx:¬(d.targets.length:Int)=e.targets.length:=by omega
  have hx':((d.targets.length:Int)==e.targets.length)=false:=beq_eq_false_iff_ne.2 hx
  clear htargets
  go_wp2_with (first | (go_at_call 20;refine HSC.out.mono ?_;rintro r w7 ⟨rfl,hb7⟩;have ka:=(hb7.block w.heap.size (by omega)).trans HKA.out;have kb:=(hb7.block (w.heap.size+1) (by omega)).trans HKB.out;have p1:=cell_of ka 1 (x:=.slice oaS d.supers.length caS) rfl;have p2:=cell_of ka 2 (x:=.slice oaF d.fields.length caF) rfl;have p3:=cell_of ka 3 (x:=.slice oaN d.names.length caN) rfl;have p4:=cell_of ka 4 (x:=.slice oaT d.targets.length caT) rfl;have o1:=cell_of kb 1 (x:=.slice obS e.supers.length cbS) rfl;have o2:=cell_of kb 2 (x:=.slice obF e.fields.length cbF) rfl;have o3:=cell_of kb 3 (x:=.slice obN e.names.length cbN) rfl;have o4:=cell_of kb 4 (x:=.slice obT e.targets.length cbT) rfl;have za:=lt_of ka;have zb:=lt_of kb;have HB7:=mkHid hb7;have HKZ:=mkHid (And.intro ka kb);clear hb7 ka kb))
  go_ret
  exact ⟨by rw [HR.out];rfl,HBL.out _ HB7.out⟩
 have HLtargets:=mkHid htargets
 rw [<-hsupers,<-hfields,<-hnames,<-htargets]at HE1 HKB ⊢
 clear hsupers hfields hnames htargets
 go_wp2_with (first | (go_at_call 20;refine HSC.out.mono ?_;rintro r w7 ⟨rfl,hb7⟩;have ka:=(hb7.block w.heap.size (by omega)).trans HKA.out;have kb:=(hb7.block (w.heap.size+1) (by omega)).trans HKB.out;have p1:=cell_of ka 1 (x:=.slice oaS d.supers.length caS) rfl;have p2:=cell_of ka 2 (x:=.slice oaF d.fields.length caF) rfl;have p3:=cell_of ka 3 (x:=.slice oaN d.names.length caN) rfl;have p4:=cell_of ka 4 (x:=.slice oaT d.targets.length caT) rfl;have o1:=cell_of kb 1 (x:=.slice obS d.supers.length cbS) rfl;have o2:=cell_of kb 2 (x:=.slice obF d.fields.length cbF) rfl;have o3:=cell_of kb 3 (x:=.slice obN d.names.length cbN) rfl;have o4:=cell_of kb 4 (x:=.slice obT d.targets.length cbT) rfl;have za:=lt_of ka;have zb:=lt_of kb;have HB7:=mkHid hb7;have HKZ:=mkHid (And.intro ka kb);clear hb7 ka kb))
 have hz7:=HB7.out.size
 have HDz:Hid (RLk (· <B) w7 aC (.slice oaS d.supers.length caS) (.slice oaF d.fields.length caF) (.slice oaN d.names.length caN) (.slice oaT d.targets.length caT) d):=HD1.out.kept (Kp.below (HB7.out.mono (by omega)))
 have HEz:Hid (RLk (· <B) w7 bC (.slice obS d.supers.length cbS) (.slice obF d.fields.length cbF) (.slice obN d.names.length cbN) (.slice obT d.targets.length cbT) e):=HE1.out.kept (Kp.below (HB7.out.mono (by omega)))
 have HFIN:Hid (∀n,Below w.heap.size w (w7.drewN n)):=fun n=>HBL.out _ (below_dn HB7.out n)
 clear hm1 hm2 hm3 hm4 p1 p2 p3 p4 o1 o2 o3 o4 za zb
 go_loopw [6] (fun i wx=>∃k:Nat,k<=d.supers.length/\i=.int .i64 k/\Hid (eqL sameI d.supers e.supers=eqL sameI (d.supers.drop k) (e.supers.drop k))/\∃n,wx=w7.drewN n) (fun i _=>d.supers.length - (intOf i).toNat)
 case atStart=>exact ⟨0,Nat.zero_le _,rfl,rfl,0,rfl⟩
 case round=>
  rename World=>wr
  obtain ⟨k,hk,rfl,HQ,nz,hwx⟩:=hrel
  have HDy:Hid (RLk (· <B) wr aC (.slice oaS d.supers.length caS) (.slice oaF d.fields.length caF) (.slice oaN d.names.length caN) (.slice oaT d.targets.length caT) d):=by rw [hwx];exact HDz.out.kept ⟨Nat.le_refl _,fun _ _ _=>rfl⟩
  have HEy:Hid (RLk (· <B) wr bC (.slice obS d.supers.length cbS) (.slice obF d.fields.length cbF) (.slice obN d.names.length cbN) (.slice obT d.targets.length cbT) e):=by rw [hwx];exact HEz.out.kept ⟨Nat.le_refl _,fun _ _ _=>rfl⟩
  have ka:wr.heap[w.heap.size]? =some (.cells #[aC,.slice oaS d.supers.length caS,.slice oaF d.fields.length caF,.slice oaN d.names.length caN,.slice oaT d.targets.length caT] 28 (0,0)):=by rw [hwx];exact HKZ.out.1
  have kb:wr.heap[w.heap.size+1]? =some (.cells #[bC,.slice obS d.supers.length cbS,.slice obF d.fields.length cbF,.slice obN d.names.length cbN,.slice obT d.targets.length cbT] 28 (0,0)):=by rw [hwx];exact HKZ.out.2
  have p1:=cell_of ka 1 (x:=.slice oaS d.supers.length caS) rfl
  have p2:=cell_of ka 2 (x:=.slice oaF d.fields.length caF) rfl
  have p3:=cell_of ka 3 (x:=.slice oaN d.names.length caN) rfl
  have p4:=cell_of ka 4 (x:=.slice oaT d.targets.length caT) rfl
  have o1:=cell_of kb 1 (x:=.slice obS d.supers.length cbS) rfl
  have o2:=cell_of kb 2 (x:=.slice obF d.fields.length cbF) rfl
  have o3:=cell_of kb 3 (x:=.slice obN d.names.length cbN) rfl
  have o4:=cell_of kb 4 (x:=.slice obT d.targets.length cbT) rfl
  have za:=lt_of ka
  have zb:=lt_of kb
  have HFW:Hid (∀n,Below w.heap.size w (wr.drewN n)):=by rw [hwx];exact fun n=>below_dn (HFIN.out nz) n
  have HNW:Hid (∀m,∃n,wr.drewN m=w7.drewN n):=by rw [hwx];exact fun m=>⟨_,World.drewN_drewN _ _ _⟩
  have HWX:=mkHid hwx
  clear hwx ka kb
  by_cases hlt:k<d.supers.length
  ·
   have hlm:k<e.supers.length:=by have:=HLsupers.out;omega
   obtain ⟨b,off,rfl,_,c0⟩:=HDy.out.S.atI k hlt
   obtain ⟨b2,off2,rfl,_,d0⟩:=HEy.out.S.atI k hlm
   have HST:=mkHid (eqL_step sameI d.supers e.supers k hlt hlm)
   generalize d.supers[k]=x at*
   generalize e.supers[k]=y at*
   cases hs:sameI x y with
   | true=>
     have hs':x=y:=by simpa [sameI]using hs
     have HQ':Hid (eqL sameI d.supers e.supers=eqL sameI (d.supers.drop (k+1)) (e.supers.drop (k+1))):=HQ.out.trans (by rw [HST.out,hs,Bool.true_and])
     go_wp2
     go_quiet (fail)
     go_wp2
     go_roundw
     case rel=>exact ⟨k+1,by omega,by go_num,HQ'.out,HNW.out _⟩
     case measure=>simp [intOf];omega
   | false=>
     have hs':¬x=y:=by simpa [sameI]using hs
     have HQ':Hid (sameRest d e=false):=HSR.out.trans (by rw [HQ.out,HST.out,hs];simp)
     go_wp2
     go_quiet (fail)
     go_wp2
     go_ret
     exact ⟨by rw [HQ'.out];rfl,HFW.out _⟩
  have HA1:Hid (eqL sameI d.supers e.supers=true):=HQ.out.trans (eqL_end sameI _ _ k hlt HLsupers.out)
  go_wp2_with fail
  clear hlt hk HQ p1 p2 p3 p4 o1 o2 o3 o4 za zb HDy HEy HFW HNW
  go_loopw [7] (fun i wx=>∃k:Nat,k<=d.fields.length/\i=.int .i64 k/\Hid (eqL (eqL sameF) d.fields e.fields=eqL (eqL sameF) (d.fields.drop k) (e.fields.drop k))/\∃n,wx=w7.drewN n) (fun i _=>d.fields.length - (intOf i).toNat)
  case atStart=>exact ⟨0,Nat.zero_le _,rfl,rfl,nz,HWX.out⟩
  case round=>
   rename World=>wr
   obtain ⟨k,hk,rfl,HQ,nz,hwx⟩:=hrel
   have HDy:Hid (RLk (· <B) wr aC (.slice oaS d.supers.length caS) (.slice oaF d.fields.length caF) (.slice oaN d.names.length caN) (.slice oaT d.targets.length caT) d):=by rw [hwx];exact HDz.out.kept ⟨Nat.le_refl _,fun _ _ _=>rfl⟩
   have HEy:Hid (RLk (· <B) wr bC (.slice obS d.supers.length cbS) (.slice obF d.fields.length cbF) (.slice obN d.names.length cbN) (.slice obT d.targets.length cbT) e):=by rw [hwx];exact HEz.out.kept ⟨Nat.le_refl _,fun _ _ _=>rfl⟩
   have ka:wr.heap[w.heap.size]? =some (.cells #[aC,.slice oaS d.supers.length caS,.slice oaF d.fields.length caF,.slice oaN d.names.length caN,.slice oaT d.targets.length caT] 28 (0,0)):=by rw [hwx];exact HKZ.out.1
   have kb:wr.heap[w.heap.size+1]? =some (.cells #[bC,.slice obS d.supers.length cbS,.slice obF d.fields.length cbF,.slice obN d.names.length cbN,.slice obT d.targets.length cbT] 28 (0,0)):=by rw [hwx];exact HKZ.out.2
   have p1:=cell_of ka 1 (x:=.slice oaS d.supers.length caS) rfl
   have p2:=cell_of ka 2 (x:=.slice oaF d.fields.length caF) rfl
   have p3:=cell_of ka 3 (x:=.slice oaN d.names.length caN) rfl
   have p4:=cell_of ka 4 (x:=.slice oaT d.targets.length caT) rfl
   have o1:=cell_of kb 1 (x:=.slice obS d.supers.length cbS) rfl
   have o2:=cell_of kb 2 (x:=.slice obF d.fields.length cbF) rfl
   have o3:=cell_of kb 3 (x:=.slice obN d.names.length cbN) rfl
   have o4:=cell_of kb 4 (x:=.slice obT d.targets.length cbT) rfl
   have za:=lt_of ka
   have zb:=lt_of kb
   have HFW:Hid (∀n,Below w.heap.size w (wr.drewN n)):=by rw [hwx];exact fun n=>below_dn (HFIN.out nz) n
   have HNW:Hid (∀m,∃n,wr.drewN m=w7.drewN n):=by rw [hwx];exact fun m=>⟨_,World.drewN_drewN _ _ _⟩
   have HWX:=mkHid hwx
   clear hwx ka kb
   by_cases hlt:k<d.fields.length
   ·
    have hlm:k<e.fields.length:=by have:=HLfields.out;omega
    obtain ⟨b,off,a1_,k1_,rfl,_,c0,su⟩:=HDy.out.F.atSl k hlt
    obtain ⟨b2,off2,a2_,k2_,rfl,_,d0,sv⟩:=HEy.out.F.atSl k hlm
    have HST:=mkHid (eqL_step (eqL sameF) d.fields e.fields k hlt hlm)
    have HC:=mkHid (fun n=>SameFields_any (wr.drewN n) _ _ _ _ d.fields[k] e.fields[k] (su.kept ⟨Nat.le_refl _,fun _ _ _=>rfl⟩ fun _ _ h=>h) (sv.kept ⟨Nat.le_refl _,fun _ _ _=>rfl⟩ fun _ _ h=>h))
    clear su sv
    generalize d.fields[k]=x at*
    generalize e.fields[k]=y at*
    cases hs:eqL sameF x y with
    | true=>
      rw [hs]at HC
      have HQ':Hid (eqL (eqL sameF) d.fields e.fields=eqL (eqL sameF) (d.fields.drop (k+1)) (e.fields.drop (k+1))):=HQ.out.trans (by rw [HST.out,hs,Bool.true_and])
      clear hs
      go_wp2
      go_quiet (first | (go_at_call 21;exact Calls.quiet_of (HC.out _)))
      go_wp2
      go_roundw
      case rel=>exact ⟨k+1,by omega,by go_num,HQ'.out,HNW.out _⟩
      case measure=>simp [intOf];omega
    | false=>
      rw [hs]at HC
      have HQ':Hid (sameRest d e=false):=HSR.out.trans (by rw [HQ.out,HST.out,hs];simp)
      clear hs
      go_wp2
      go_quiet (first | (go_at_call 21;exact Calls.quiet_of (HC.out _)))
      go_wp2
      go_ret
      exact ⟨by rw [HQ'.out];rfl,HFW.out _⟩
   have HA2:Hid (eqL (eqL sameF) d.fields e.fields=true):=HQ.out.trans (eqL_end (eqL sameF) _ _ k hlt HLfields.out)
   go_wp2_with fail
   clear hlt hk HQ p1 p2 p3 p4 o1 o2 o3 o4 za zb HDy HEy HFW HNW
   go_loopw [8] (fun i wx=>∃k:Nat,k<=d.names.length/\i=.int .i64 k/\Hid (eqL (eqL sameS) d.names e.names=eqL (eqL sameS) (d.names.drop k) (e.names.drop k))/\∃n,wx=w7.drewN n) (fun i _=>d.names.length - (intOf i).toNat)
   case atStart=>exact ⟨0,Nat.zero_le _,rfl,rfl,nz,HWX.out⟩
   case round=>
    rename World=>wr
    obtain ⟨k,hk,rfl,HQ,nz,hwx⟩:=hrel
    have HDy:Hid (RLk (· <B) wr aC (.slice oaS d.supers.length caS) (.slice oaF d.fields.length caF) (.slice oaN d.names.length caN) (.slice oaT d.targets.length caT) d):=by rw [hwx];exact HDz.out.kept ⟨Nat.le_refl _,fun _ _ _=>rfl⟩
    have HEy:Hid (RLk (· <B) wr bC (.slice obS d.supers.length cbS) (.slice obF d.fields.length cbF) (.slice obN d.names.length cbN) (.slice obT d.targets.length cbT) e):=by rw [hwx];exact HEz.out.kept ⟨Nat.le_refl _,fun _ _ _=>rfl⟩
    have ka:wr.heap[w.heap.size]? =some (.cells #[aC,.slice oaS d.supers.length caS,.slice oaF d.fields.length caF,.slice oaN d.names.length caN,.slice oaT d.targets.length caT] 28 (0,0)):=by rw [hwx];exact HKZ.out.1
    have kb:wr.heap[w.heap.size+1]? =some (.cells #[bC,.slice obS d.supers.length cbS,.slice obF d.fields.length cbF,.slice obN d.names.length cbN,.slice obT d.targets.length cbT] 28 (0,0)):=by rw [hwx];exact HKZ.out.2
    have p1:=cell_of ka 1 (x:=.slice oaS d.supers.length caS) rfl
    have p2:=cell_of ka 2 (x:=.slice oaF d.fields.length caF) rfl
    have p3:=cell_of ka 3 (x:=.slice oaN d.names.length caN) rfl
    have p4:=cell_of ka 4 (x:=.slice oaT d.targets.length caT) rfl
    have o1:=cell_of kb 1 (x:=.slice obS d.supers.length cbS) rfl
    have o2:=cell_of kb 2 (x:=.slice obF d.fields.length cbF) rfl
    have o3:=cell_of kb 3 (x:=.slice obN d.names.length cbN) rfl
    have o4:=cell_of kb 4 (x:=.slice obT d.targets.length cbT) rfl
    have za:=lt_of ka
    have zb:=lt_of kb
    have HFW:Hid (∀n,Below w.heap.size w (wr.drewN n)):=by rw [hwx];exact fun n=>below_dn (HFIN.out nz) n
    have HNW:Hid (∀m,∃n,wr.drewN m=w7.drewN n):=by rw [hwx];exact fun m=>⟨_,World.drewN_drewN _ _ _⟩
    have HWX:=mkHid hwx
    clear hwx ka kb
    by_cases hlt:k<d.names.length
    ·
     have hlm:k<e.names.length:=by have:=HLnames.out;omega
     obtain ⟨b,off,a1_,k1_,rfl,hb1,c0,su⟩:=HDy.out.N.atSl k hlt
     obtain ⟨b2,off2,a2_,k2_,rfl,hb2,d0,sv⟩:=HEy.out.N.atSl k hlm
     have HST:=mkHid (eqL_step (eqL sameS) d.names e.names k hlt hlm)
     have HSU:=mkHid su
     have HSV:=mkHid sv
     have hmx:d.names[k].length<=maxLen:=by
      obtain ⟨_,_,e1,_,h,_⟩:=su
      cases e1
      exact h
     unfold maxLen at hmx
     clear su sv
     generalize d.names[k]=x at*
     generalize e.names[k]=y at*
     have hk0:(0:Int)<=k:=by omega
     have hk1:(k:Int)<d.names.length:=by omega
     by_cases hxy:x.length=y.length
     rotate_left
     ·
      have HQ':Hid (sameRest d e=false):=HSR.out.trans (by rw [HQ.out,HST.out,eqL_len sameS x y hxy];simp)
      have hx':((x.length:Int)==y.length)=false:=beq_eq_false_iff_ne.2 (by omega)
      clear hxy
      go_wp2
      go_quiet (fail)
      go_wp2
      go_ret
      exact ⟨by rw [HQ'.out];rfl,HFW.out _⟩
     have HLX:=mkHid hxy
     rw [<-hxy]at d0 HSV
     clear hxy
     go_wp2
     go_quiet (fail)
     go_wp2
     go_loopw [9] (fun i wx=>∃j:Nat,j<=x.length/\i=.int .i64 j/\Hid (eqL sameS x y=eqL sameS (x.drop j) (y.drop j))/\∃n,wx=wr.drewN n) (fun i _=>x.length - (intOf i).toNat)
     case atStart=>exact ⟨0,Nat.zero_le _,rfl,rfl,_,rfl⟩
     case round=>
      obtain ⟨j,hj,rfl,HJ,n2,rfl⟩:=hrel
      by_cases hjt:j<x.length
      ·
       have hjy:j<y.length:=by have:=HLX.out;omega
       obtain ⟨bx,ox,rfl,_,f0,_⟩:=HSU.out.atS j hjt
       obtain ⟨by_,oy,rfl,_,g0,_⟩:=HSV.out.atS j hjy
       have HSJ:=mkHid (eqL_step sameS x y j hjt hjy)
       have hj0:(0:Int)<=j:=by omega
       have hj1:(j:Int)<x.length:=by omega
       generalize x[j]=s at*
       generalize y[j]=s' at*
       cases hs:sameS s s' with
       | true=>
         have hs':(s.toList==s'.toList)=true:=hs
         have HJ':Hid (eqL sameS x y=eqL sameS (x.drop (j+1)) (y.drop (j+1))):=HJ.out.trans (by rw [HSJ.out,hs,Bool.true_and])
         go_wp2
         go_quiet (fail)
         go_wp2
         go_roundw
         case rel=>exact ⟨j+1,by omega,by go_num,HJ'.out,_,rfl⟩
         case measure=>simp [intOf];omega
       | false=>
         have hs':(s.toList==s'.toList)=false:=hs
         have HQ':Hid (sameRest d e=false):=HSR.out.trans (by rw [HQ.out,HST.out,HJ.out,HSJ.out,hs];simp)
         go_wp2
         go_quiet (fail)
         go_wp2
         go_ret
         exact ⟨by rw [HQ'.out];rfl,below_dn (HFW.out n2) _⟩
      have HQ':Hid (eqL (eqL sameS) d.names e.names=eqL (eqL sameS) (d.names.drop (k+1)) (e.names.drop (k+1))):=HQ.out.trans (by rw [HST.out,HJ.out,eqL_end sameS x y j hjt HLX.out,Bool.true_and])
      go_wp2
      go_roundw
      case rel=>exact ⟨k+1,by omega,by go_num,HQ'.out,HNW.out n2⟩
      case measure=>simp [intOf];omega
    have HA3:Hid (eqL (eqL sameS) d.names e.names=true):=HQ.out.trans (eqL_end (eqL sameS) _ _ k hlt HLnames.out)
    go_wp2_with fail
    clear hlt hk HQ p1 p2 p3 p4 o1 o2 o3 o4 za zb HDy HEy HFW HNW
    go_loopw [10] (fun i wx=>∃k:Nat,k<=d.targets.length/\i=.int .i64 k/\Hid (eqL (eqL sameT) d.targets e.targets=eqL (eqL sameT) (d.targets.drop k) (e.targets.drop k))/\∃n,wx=w7.drewN n) (fun i _=>d.targets.length - (intOf i).toNat)
    case atStart=>exact ⟨0,Nat.zero_le _,rfl,rfl,nz,HWX.out⟩
    case round=>
     rename World=>wr
     obtain ⟨k,hk,rfl,HQ,nz,hwx⟩:=hrel
     have HDy:Hid (RLk (· <B) wr aC (.slice oaS d.supers.length caS) (.slice oaF d.fields.length caF) (.slice oaN d.names.length caN) (.slice oaT d.targets.length caT) d):=by rw [hwx];exact HDz.out.kept ⟨Nat.le_refl _,fun _ _ _=>rfl⟩
     have HEy:Hid (RLk (· <B) wr bC (.slice obS d.supers.length cbS) (.slice obF d.fields.length cbF) (.slice obN d.names.length cbN) (.slice obT d.targets.length cbT) e):=by rw [hwx];exact HEz.out.kept ⟨Nat.le_refl _,fun _ _ _=>rfl⟩
     have ka:wr.heap[w.heap.size]? =some (.cells #[aC,.slice oaS d.supers.length caS,.slice oaF d.fields.length caF,.slice oaN d.names.length caN,.slice oaT d.targets.length caT] 28 (0,0)):=by rw [hwx];exact HKZ.out.1
     have kb:wr.heap[w.heap.size+1]? =some (.cells #[bC,.slice obS d.supers.length cbS,.slice obF d.fields.length cbF,.slice obN d.names.length cbN,.slice obT d.targets.length cbT] 28 (0,0)):=by rw [hwx];exact HKZ.out.2
     have p1:=cell_of ka 1 (x:=.slice oaS d.supers.length caS) rfl
     have p2:=cell_of ka 2 (x:=.slice oaF d.fields.length caF) rfl
     have p3:=cell_of ka 3 (x:=.slice oaN d.names.length caN) rfl
     have p4:=cell_of ka 4 (x:=.slice oaT d.targets.length caT) rfl
     have o1:=cell_of kb 1 (x:=.slice obS d.supers.length cbS) rfl
     have o2:=cell_of kb 2 (x:=.slice obF d.fields.length cbF) rfl
     have o3:=cell_of kb 3 (x:=.slice obN d.names.length cbN) rfl
     have o4:=cell_of kb 4 (x:=.slice obT d.targets.length cbT) rfl
     have za:=lt_of ka
     have zb:=lt_of kb
     have HFW:Hid (∀n,Below w.heap.size w (wr.drewN n)):=by rw [hwx];exact fun n=>below_dn (HFIN.out nz) n
     have HNW:Hid (∀m,∃n,wr.drewN m=w7.drewN n):=by rw [hwx];exact fun m=>⟨_,World.drewN_drewN _ _ _⟩
     have HWX:=mkHid hwx
     clear hwx ka kb
     by_cases hlt:k<d.targets.length
     ·
      have hlm:k<e.targets.length:=by have:=HLtargets.out;omega
      obtain ⟨b,off,a1_,k1_,rfl,hb1,c0,su⟩:=HDy.out.T.atSl k hlt
      obtain ⟨b2,off2,a2_,k2_,rfl,hb2,d0,sv⟩:=HEy.out.T.atSl k hlm
      have HST:=mkHid (eqL_step (eqL sameT) d.targets e.targets k hlt hlm)
      have HSU:=mkHid su
      have HSV:=mkHid sv
      have hmx:d.targets[k].length<=maxLen:=by
       obtain ⟨_,_,e1,_,h,_⟩:=su
       cases e1
       exact h
      unfold maxLen at hmx
      clear su sv
      generalize d.targets[k]=x at*
      generalize e.targets[k]=y at*
      have hk0:(0:Int)<=k:=by omega
      have hk1:(k:Int)<d.targets.length:=by omega
      by_cases hxy:x.length=y.length
      rotate_left
      ·
       have HQ':Hid (sameRest d e=false):=HSR.out.trans (by rw [HQ.out,HST.out,eqL_len sameT x y hxy];simp)
       have hx':((x.length:Int)==y.length)=false:=beq_eq_false_iff_ne.2 (by omega)
       clear hxy
       go_wp2
       go_quiet (fail)
       go_wp2
       go_ret
       exact ⟨by rw [HQ'.out];rfl,HFW.out _⟩
      have HLX:=mkHid hxy
      rw [<-hxy]at d0 HSV
      clear hxy
      go_wp2
      go_quiet (fail)
      go_wp2
      go_loopw [11] (fun i wx=>∃j:Nat,j<=x.length/\i=.int .i64 j/\Hid (eqL sameT x y=eqL sameT (x.drop j) (y.drop j))/\∃n,wx=wr.drewN n) (fun i _=>x.length - (intOf i).toNat)
      case atStart=>exact ⟨0,Nat.zero_le _,rfl,rfl,_,rfl⟩
      case round=>
       obtain ⟨j,hj,rfl,HJ,n2,rfl⟩:=hrel
       by_cases hjt:j<x.length
       ·
        have hjy:j<y.length:=by have:=HLX.out;omega
        obtain ⟨bx,ox,rfl,_,f0,f1⟩:=HSU.out.atT j hjt
        obtain ⟨by_,oy,rfl,_,g0,g1⟩:=HSV.out.atT j hjy
        have HSJ:=mkHid (eqL_step sameT x y j hjt hjy)
        have hj0:(0:Int)<=j:=by omega
        have hj1:(j:Int)<x.length:=by omega
        have hne:=targNeq x[j] y[j]
        have hng:=targNeqG
        generalize x[j]=s at*
        generalize y[j]=s' at*
        cases hs:sameT s s' with
        | true=>
          have HJ':Hid (eqL sameT x y=eqL sameT (x.drop (j+1)) (y.drop (j+1))):=HJ.out.trans (by rw [HSJ.out,hs,Bool.true_and])
          go_wp2
          go_quiet (fail)
          go_wp2
          go_roundw
          case rel=>exact ⟨j+1,by omega,by go_num,HJ'.out,_,rfl⟩
          case measure=>simp [intOf];omega
        | false=>
          have HQ':Hid (sameRest d e=false):=HSR.out.trans (by rw [HQ.out,HST.out,HJ.out,HSJ.out,hs];simp)
          go_wp2
          go_quiet (fail)
          go_wp2
          go_ret
          exact ⟨by rw [HQ'.out];rfl,below_dn (HFW.out n2) _⟩
       have HQ':Hid (eqL (eqL sameT) d.targets e.targets=eqL (eqL sameT) (d.targets.drop (k+1)) (e.targets.drop (k+1))):=HQ.out.trans (by rw [HST.out,HJ.out,eqL_end sameT x y j hjt HLX.out,Bool.true_and])
       go_wp2
       go_roundw
       case rel=>exact ⟨k+1,by omega,by go_num,HQ'.out,HNW.out n2⟩
       case measure=>simp [intOf];omega
     have HA4:Hid (eqL (eqL sameT) d.targets e.targets=true):=HQ.out.trans (eqL_end (eqL sameT) _ _ k hlt HLtargets.out)
     have HR:Hid (sameRest d e=true):=HSR.out.trans (by rw [HA1.out,HA2.out,HA3.out,HA4.out];rfl)
     go_wp2_with fail
     go_ret
     exact ⟨by rw [HR.out];rfl,HFW.out 0⟩
end Go.Proofs.YtcddpmappmjilaaGreatDoor
