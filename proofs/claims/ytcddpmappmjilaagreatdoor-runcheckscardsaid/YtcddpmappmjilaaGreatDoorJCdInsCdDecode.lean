import Derived.Test.YtcddpmappmjilaaGreatDoorCdLeaf
import Derived.Deep.DeepCutAuto
import Derived.Test.YtcddpmappmjilaaGreatDoorCdDies
import Derived.Test.YtcddpmappmjilaaGreatDoorCdScan
import Derived.Deep.LoopGhost
import Derived.Test.YtcddpmappmjilaaGreatDoorRows
import Derived.ProofKit
import Derived.OpenShut
import Derived.Lib.LaidTab
import Derived.Stop.LaidErr
import Derived.Test.YtcddpmappmjilaaGreatDoorCdPlace
namespace Go.Proofs.YtcddpmappmjilaaGreatDoor.Cd
set_option maxRecDepth 100000
open Go.RowKit
theorem isOp_yes (w:World) (n:Int) (h0:0<=n) (h1:n<37):Calls Tryz.prog 254 #[.int .i64 n] w fun r w'=>r=.returned (.bool true)/\w'=w:=by
 refine (isOp_any w n).mono ?_
 rintro r w' ⟨rfl,rfl⟩
 simp [h0,h1]
theorem isOp_not (w:World) (n:Int) (h1:¬n<37):Calls Tryz.prog 254 #[.int .i64 n] w fun r w'=>r=.returned (.bool false)/\w'=w:=by
 refine (isOp_any w n).mono ?_
 rintro r w' ⟨rfl,rfl⟩
 simp [h1]
structure Mid (w W:World) (b:Nat) (s:ByteArray) (p o:Nat):Prop where
 grown:w.grownBy W (some b)
 rd:Rd W b s (p+1)
 x0:W.cell? ⟨w.heap.size+1,0,none⟩=some (.int .i64 p)
 x1:W.cell? ⟨w.heap.size+1,1,none⟩=some (.int .i64 o)
 x2:W.cell? ⟨w.heap.size+1,2,none⟩=some (.int .i64 0)
 x3:W.cell? ⟨w.heap.size+1,3,none⟩=some (.int .i64 0)
 xf:∀j,W.frozen? ⟨w.heap.size+1,j,none⟩=false
 r0:W.cell? ⟨w.heap.size,0,none⟩=some (.int .i64 0)
 r1:W.cell? ⟨w.heap.size,1,none⟩=some (.int .i64 0)
 r2:W.cell? ⟨w.heap.size,2,none⟩=some (.int .i64 0)
 r3:W.cell? ⟨w.heap.size,3,none⟩=some (.int .i64 0)
 rf:∀j,W.frozen? ⟨w.heap.size,j,none⟩=false
 size:W.heap.size=w.heap.size+2
theorem grown_set {w W:World} {b:Nat} (h:w.grownBy W (some b)) (a:Addr) (u:Value) (ha:a.block=b\/w.heap.size<=a.block):w.grownBy (W.setCell a u) (some b):=
 ⟨h.os,h.tape,h.output,by simpa [World.setCell]using h.size,fun k hk hne=>by
  rw [Below.heap_setCell _ _ _ _ (by intro e;subst e;rcases ha with ha | ha;· exact hne (by rw [ha])
                                     ·
                                      omega)]
  exact h.block k hk hne⟩
theorem grown_alloc {w W:World} {b:Nat} (h:w.grownBy W (some b)) (o:Obj):w.grownBy (W.alloc o) (some b):=
 ⟨h.os,h.tape,h.output,Nat.le_trans h.size (by simp),fun k hk hne=>by
  rw [Below.heap_alloc _ _ _ (Nat.lt_of_lt_of_le hk h.size)]
  exact h.block k hk hne⟩
theorem grown_drewN {w W:World} {b:Nat} (h:w.grownBy W (some b)) (n:Nat):w.grownBy (W.drewN n) (some b):=⟨h.os,h.tape,h.output,h.size,h.block⟩
theorem Mid.drewN {w W:World} {b:Nat} {s:ByteArray} {p o:Nat} (h:Mid w W b s p o) (n:Nat):Mid w (W.drewN n) b s p o:=
 ⟨grown_drewN h.grown n,h.rd.drewN n,h.x0,h.x1,h.x2,h.x3,h.xf,h.r0,h.r1,h.r2,h.r3,h.rf,h.size⟩
theorem mid_start (w:World) (b:Nat) (s:ByteArray) (p o:Nat) (h:Rd w b s p) (q nq:Nat) (hp:((p:Int)+1)=((p+1:Nat):Int)):Mid w ((((((w.setCell { block:=b,off:=1 } (Value.int IntKind.i64 (↑p+1))).alloc (Obj.cells #[Value.int IntKind.i64 0,Value.int IntKind.i64 0,Value.int IntKind.i64 0,Value.int IntKind.i64 0] 199)).alloc
 (Obj.cells #[Value.int IntKind.i64 ↑p,Value.int IntKind.i64 0,Value.int IntKind.i64 0,Value.int IntKind.i64 0] 199)).drewN q).setCell { block:=w.heap.size+1,off:=1 } (Value.int IntKind.i64 ↑o)).drewN nq) b s p o:=by
 have hb:=h.lt
 constructor
 ·
  exact grown_drewN (grown_set (grown_drewN (grown_alloc (grown_alloc (grown_set (World.grownBy.refl _ _) _ _ (Or.inl rfl)) _) _) _) _ _ (Or.inr (by simp))) _
 ·
  rw [hp]
  exact ((((((h.setAt _).alloc _).alloc _).drewN _).setOther _ _ (by simp;omega)).drewN _)
 all_goals simp [go_sem]
set_option maxHeartbeats 1000000 in
theorem ins_ok (w:World) (b:Nat) (s:ByteArray) (p:Nat) (h:Rd w b s p) (hs:s.size<=maxLen) (hp:p<s.size) (o k:Nat) (ho:o<37) (hso:Hid (bt s p=o)) (hk:k<5)
 (ht:w.cell? ⟨5,o,none⟩=some (.int .i64 k)) (hr:w.cell? ⟨4,k*4,none⟩=some (.int .i64 (mOf k))) (h0b:5<b) (hm:p+1+mOf k<=s.size):
 Calls Tryz.prog 179 #[.pointer (some ⟨b,0,none⟩)] w fun r w'=>r=.returned (.agg #[.int .i64 p,.int .i64 o,.int .i64 (argA k s p),.int .i64 (argB k s p)])/\w.grownBy w' (some b)/\Rd w' b s (p+1+mOf k):=by
 have hs':=hs
 unfold maxLen at hs'
 have hb:=h.lt
 have hpc:((p:Int)+1)=((p+1:Nat):Int):=by omega
 have HP:Hid (((p:Int)+1)=((p+1:Nat):Int)):=hpc
 clear hpc
 go_enter Tryz.func179,Tryz.ntmps179
 go_wp2_with fail
 refine (at_any _ b s p ?_).mono ?_
 ·
  exact h.alloc _
 rintro r w' ⟨rfl,rfl⟩
 go_wp2_with fail
 refine (count_ok _ b s p ?_ hs hp).mono ?_
 ·
  exact (h.alloc _).alloc _
 rintro r w' ⟨rfl,q,rfl⟩
 rw [hso.out]
 go_wp2_with fail
 go_cut [] (fun W=>Mid w W b s p o)
 case first=>
  go_quiet (first | (go_at_call 254;exact Calls.quiet_of_same (isOp_yes _ _ (by omega) (by omega))) | (go_at_call 42;exact Calls.quiet_of_same (demand_ok _ _ _)))
  go_wp2_with fail
  go_meet
  exact mid_start w b s p o h _ _ HP.out
 case rest=>
  have hw0:wc.cell? ⟨5,o,none⟩=some (.int .i64 k):=hcut.grown.cell ht (by simp;omega)
  have hw1:wc.cell? ⟨4,k*4,none⟩=some (.int .i64 (mOf k)):=hcut.grown.cell hr (by simp;omega)
  have HC:=hcut
  obtain ⟨g1,g2,x0,x1,x2,x3,xf,r0,r1,r2,r3,rf,z⟩:=hcut
  go_wp2_with fail
  go_cut [] (fun W=>Mid w W b s p o)
  case first=>
   go_quiet (first | (go_at_call 251;exact Calls.quiet_of (left_any _ b s (p+1) (g2.drewN _) (by omega) hs)) | (go_at_call 42;exact Calls.quiet_of_same (demand_yes _ (by simp;omega) _ _ _)))
   go_wp2_with fail
   go_meet
   exact HC.drewN _
  case rest=>
   clear hw0 hw1 g1 g2 x0 x1 x2 x3 xf r0 r1 r2 r3 rf z HC
   have hw0:wc.cell? ⟨5,o,none⟩=some (.int .i64 k):=hcut.grown.cell ht (by simp;omega)
   obtain ⟨g1,g2,x0,x1,x2,x3,xf,r0,r1,r2,r3,rf,z⟩:=hcut
   obtain rfl | rfl | rfl | rfl | rfl:k=0\/k=1\/k=2\/k=3\/k=4:=by omega
   ·
    go_wp2
    refine bodyPost_ret (v:=.agg #[.int .i64 p,.int .i64 o,.int .i64 0,.int .i64 0]) (by simp [results,Tryz.results179,go_sem,r0,r1,r2,r3]) rfl ⟨rfl,?_,?_⟩
    ·
     exact grown_set (grown_set (grown_set (grown_set g1 _ _ (by simp)) _ _ (by simp)) _ _ (by simp)) _ _ (by simp)
    exact (((g2.setOther _ _ (by simp;omega)).setOther _ _ (by simp;omega)).setOther _ _ (by simp;omega)).setOther _ _ (by simp;omega)
   ·
    go_wp2_with fail
    refine (number_ok _ b s (p+1) g2 hs (by simp [mOf]at hm;omega)).mono ?_
    rintro r w' ⟨rfl,q',rfl⟩
    go_wp2
    have e:=sg_eq (bt s (p+1)) (bt s (p+1+1)) (bt_lt _ _) (bt_lt _ _)
    refine bodyPost_ret (v:=.agg #[.int .i64 p,.int .i64 o,.int .i64 (wrap64 (IntKind.i16.wrap (256*bt s (p+1)+bt s (p+1+1)))),.int .i64 0]) (by simp [results,Tryz.results179,go_sem,r0,r1,r2,r3]) rfl ⟨?_,?_,?_⟩
    ·
     have ea:argA 1 s p=sg (256*bt s (p+1)+bt s (p+1+1)):=by simp [argA]
     rw [e,ea]
     simp [argB]
    ·
     exact grown_set (grown_set (grown_set (grown_set (grown_set (grown_drewN (grown_set (g1) _ _ (by simp)) _) _ _ (by simp)) _ _ (by simp)) _ _ (by simp)) _ _ (by simp)) _ _ (by simp)
    exact (((((((g2).setAt' _ _ (by simp only [mOf];omega)).drewN _).setOther _ _ (by simp;omega)).setOther _ _ (by simp;omega)).setOther _ _ (by simp;omega)).setOther _ _ (by simp;omega)).setOther _ _ (by simp;omega)
   ·
    go_wp2_with fail
    refine (number_ok _ b s (p+1) g2 hs (by simp [mOf]at hm;omega)).mono ?_
    rintro r w' ⟨rfl,q',rfl⟩
    go_wp2
    refine bodyPost_ret (v:=.agg #[.int .i64 p,.int .i64 o,.int .i64 (256*bt s (p+1)+bt s (p+1+1)),.int .i64 0]) (by simp [results,Tryz.results179,go_sem,r0,r1,r2,r3]) rfl ⟨rfl,?_,?_⟩
    ·
     exact grown_set (grown_set (grown_set (grown_set (grown_set (grown_drewN (grown_set (g1) _ _ (by simp)) _) _ _ (by simp)) _ _ (by simp)) _ _ (by simp)) _ _ (by simp)) _ _ (by simp)
    exact (((((((g2).setAt' _ _ (by simp only [mOf];omega)).drewN _).setOther _ _ (by simp;omega)).setOther _ _ (by simp;omega)).setOther _ _ (by simp;omega)).setOther _ _ (by simp;omega)).setOther _ _ (by simp;omega)
   ·
    go_wp2_with fail
    refine (count_ok _ b s (p+1) g2 hs (by simp [mOf]at hm;omega)).mono ?_
    rintro r w' ⟨rfl,q',rfl⟩
    go_wp2
    refine bodyPost_ret (v:=.agg #[.int .i64 p,.int .i64 o,.int .i64 (bt s (p+1)),.int .i64 0]) (by simp [results,Tryz.results179,go_sem,r0,r1,r2,r3]) rfl ⟨rfl,?_,?_⟩
    ·
     exact grown_set (grown_set (grown_set (grown_set (grown_set (grown_drewN (grown_set (g1) _ _ (by simp)) _) _ _ (by simp)) _ _ (by simp)) _ _ (by simp)) _ _ (by simp)) _ _ (by simp)
    exact (((((((g2).setAt' _ _ (by simp only [mOf];omega)).drewN _).setOther _ _ (by simp;omega)).setOther _ _ (by simp;omega)).setOther _ _ (by simp;omega)).setOther _ _ (by simp;omega)).setOther _ _ (by simp;omega)
   go_wp2_with fail
   refine (count_ok _ b s (p+1) g2 hs (by simp [mOf]at hm;omega)).mono ?_
   rintro r w' ⟨rfl,q',rfl⟩
   go_wp2_with fail
   refine (count_ok _ b s (p+1+1) ?_ hs (by simp [mOf]at hm;omega)).mono ?_
   ·
    exact ((g2.setAt' _ _ (by omega)).drewN _).setOther _ _ (by simp;omega)
   rintro r w' ⟨rfl,q'',rfl⟩
   go_wp2
   refine bodyPost_ret (v:=.agg #[.int .i64 p,.int .i64 o,.int .i64 (bt s (p+1)),.int .i64 (bt s (p+1+1))]) (by simp [results,Tryz.results179,go_sem,r0,r1,r2,r3]) rfl ⟨rfl,?_,?_⟩
   ·
    exact grown_set (grown_set (grown_set (grown_set (grown_set (grown_drewN (grown_set (grown_set (grown_drewN (grown_set (g1) _ _ (by simp)) _) _ _ (by simp)) _ _ (by simp)) _) _ _ (by simp)) _ _ (by simp)) _ _ (by simp)) _ _ (by simp)) _ _ (by simp)
   exact ((((((((((g2).setAt' (p+1+1) _ (by omega)).drewN _).setOther _ _ (by simp;omega)).setAt' _ _ (by simp only [mOf];omega)).drewN _).setOther _ _ (by simp;omega)).setOther _ _ (by simp;omega)).setOther _ _ (by simp;omega)).setOther _ _ (by simp;omega)).setOther _ _ (by simp;omega)
end Go.Proofs.YtcddpmappmjilaaGreatDoor.Cd
namespace Go.Proofs.YtcddpmappmjilaaGreatDoor.Cd
set_option maxRecDepth 100000
open Go.RowKit
set_option maxHeartbeats 1000000 in
theorem ins_kind (w:World) (b:Nat) (s:ByteArray) (p:Nat) (h:Rd w b s p) (hs:s.size<=maxLen) (hp:p<s.size) (o:Nat) (ho:¬(o:Int)<37) (hso:Hid (bt s p=o)):
 Calls Tryz.prog 179 #[.pointer (some ⟨b,0,none⟩)] w fun r w'=>r=.panicked [wrongV 7 p]/\w.grownBy w' (some b):=by
 have hs':=hs
 unfold maxLen at hs'
 have hb:=h.lt
 have HG:=World.grownBy.refl w (some b)
 go_enter Tryz.func179,Tryz.ntmps179
 go_wp2_with fail
 refine (at_any _ b s p ?_).mono ?_
 ·
  exact h.alloc _
 rintro r w' ⟨rfl,rfl⟩
 go_wp2_with fail
 refine (count_ok _ b s p ?_ hs hp).mono ?_
 ·
  exact (h.alloc _).alloc _
 rintro r w' ⟨rfl,q,rfl⟩
 rw [hso.out]
 go_wp2_with fail
 refine wp_region_dies_lit (fun chain w'=>chain= [wrongV 7 p]/\w.grownBy w' (some b)) (by kernel_rfl) (by kernel_rfl) rfl (by simp only [List.dropLast];rfl) ?_ ?_
 ·
  rintro chain a' w' hd ⟨rfl,hg⟩
  exact ⟨hd,rfl,hg⟩
 repeat (go_big_quiet_step ((go_at_call 254;exact Calls.quiet_of_same (isOp_not _ _ (by omega)))))
 refine wpQuiet_nil ?_
 refine ⟨rfl,?_⟩
 rintro w' ⟨n,rfl⟩
 go_simp
 refine ⟨rfl,(demand_no _ _ _).mono ?_⟩
 rintro e w' ⟨rfl,rfl⟩
 refine ⟨_,rfl,rfl,?_⟩
 exact grown_drewN (grown_set (grown_drewN (grown_alloc (grown_alloc (grown_set HG _ _ (by simp)) _) _) _) _ _ (by simp)) _
set_option maxHeartbeats 1000000 in
theorem ins_short (w:World) (b:Nat) (s:ByteArray) (p:Nat) (h:Rd w b s p) (hs:s.size<=maxLen) (hp:p<s.size) (o k:Nat) (ho:o<37) (hso:Hid (bt s p=o)) (hk:k<5)
 (ht:w.cell? ⟨5,o,none⟩=some (.int .i64 k)) (hr:w.cell? ⟨4,k*4,none⟩=some (.int .i64 (mOf k))) (h0b:5<b) (hm:¬p+1+mOf k<=s.size):
 Calls Tryz.prog 179 #[.pointer (some ⟨b,0,none⟩)] w fun r w'=>r=.panicked [wrongV 1 p]/\w.grownBy w' (some b):=by
 have hs':=hs
 unfold maxLen at hs'
 have hb:=h.lt
 have hpc:((p:Int)+1)=((p+1:Nat):Int):=by omega
 have HP:Hid (((p:Int)+1)=((p+1:Nat):Int)):=hpc
 have HM:Hid (¬p+1+mOf k<=s.size):=hm
 clear hpc hm
 go_enter Tryz.func179,Tryz.ntmps179
 go_wp2_with fail
 refine (at_any _ b s p ?_).mono ?_
 ·
  exact h.alloc _
 rintro r w' ⟨rfl,rfl⟩
 go_wp2_with fail
 refine (count_ok _ b s p ?_ hs hp).mono ?_
 ·
  exact (h.alloc _).alloc _
 rintro r w' ⟨rfl,q,rfl⟩
 rw [hso.out]
 go_wp2_with fail
 go_cut [] (fun W=>Mid w W b s p o)
 case first=>
  go_quiet (first | (go_at_call 254;exact Calls.quiet_of_same (isOp_yes _ _ (by omega) (by omega))) | (go_at_call 42;exact Calls.quiet_of_same (demand_ok _ _ _)))
  go_wp2_with fail
  go_meet
  exact mid_start w b s p o h _ _ HP.out
 case rest=>
  have hw0:wc.cell? ⟨5,o,none⟩=some (.int .i64 k):=hcut.grown.cell ht (by simp;omega)
  have hw1:wc.cell? ⟨4,k*4,none⟩=some (.int .i64 (mOf k)):=hcut.grown.cell hr (by simp;omega)
  obtain ⟨HG,g2,x0,x1,x2,x3,xf,r0,r1,r2,r3,rf,z⟩:=hcut
  go_wp2_with fail
  refine wp_region_dies_lit (fun chain w'=>chain= [wrongV 1 p]/\w.grownBy w' (some b)) (by kernel_rfl) (by kernel_rfl) rfl (by simp only [List.dropLast];rfl) ?_ ?_
  ·
   rintro chain a' w' hd ⟨rfl,hg⟩
   exact ⟨hd,rfl,hg⟩
  repeat (go_big_quiet_step ((go_at_call 251;exact Calls.quiet_of (left_any _ b s (p+1) (g2.drewN _) (by omega) hs))))
  refine wpQuiet_nil ?_
  refine ⟨rfl,?_⟩
  rintro w' ⟨n,rfl⟩
  go_simp
  refine ⟨rfl,(demand_not _ (by have:=HM.out;simp;omega) _ _ _).mono ?_⟩
  rintro e w' ⟨rfl,rfl⟩
  exact ⟨_,rfl,rfl,grown_drewN HG _⟩
end Go.Proofs.YtcddpmappmjilaaGreatDoor.Cd
namespace Go.Proofs.YtcddpmappmjilaaGreatDoor.Cd
set_option maxRecDepth 100000
open Go.RowKit
structure Tabs (w:World):Prop where
 behind:∀o,o<37->w.cell? ⟨5,o,none⟩=some (.int .i64 (kOf o))
 bytes:∀k,k<5->w.cell? ⟨4,k*4,none⟩=some (.int .i64 (mOf k))
 two:5<w.heap.size
theorem Tabs.drewN {w:World} (h:Tabs w) (n:Nat):Tabs (w.drewN n):=⟨h.behind,h.bytes,h.two⟩
theorem Tabs.grown {w w':World} {b:Nat} (h:Tabs w) (hg:w.grownBy w' (some b)) (hb:5<b):Tabs w':=
 ⟨fun o ho=>hg.cell (h.behind o ho) (by simp;omega),fun k hk=>hg.cell (h.bytes k hk) (by simp;omega),Nat.lt_of_lt_of_le h.two hg.size⟩
theorem ins_any (w:World) (b:Nat) (s:ByteArray) (p:Nat) (h:Rd w b s p) (hT:Tabs w) (hs:s.size<=maxLen) (hp:p<s.size) (hb:5<b):
 Calls Tryz.prog 179 #[.pointer (some ⟨b,0,none⟩)] w fun r w'=>w.grownBy w' (some b)/\
  ((37<=bt s p/\r=.panicked [wrongV 7 p])\/(¬ 37<=bt s p/\s.size<nextAt s p/\r=.panicked [wrongV 1 p])\/
   (¬ 37<=bt s p/\¬s.size<nextAt s p/\r=.returned (.agg #[.int .i64 (oneAt s p).loc,.int .i64 (oneAt s p).op,.int .i64 (oneAt s p).a,.int .i64 (oneAt s p).b])/\Rd w' b s (nextAt s p))):=by
 by_cases h1:37<=bt s p
 ·
  refine (ins_kind w b s p h hs hp (bt s p) (by omega) rfl).mono ?_
  rintro r w' ⟨rfl,hg⟩
  exact ⟨hg,Or.inl ⟨h1,rfl⟩⟩
 by_cases h2:s.size<nextAt s p
 ·
  refine (ins_short w b s p h hs hp (bt s p) (kOf (bt s p)) (by omega) rfl (kOf_lt _) (hT.behind _ (by omega)) (hT.bytes _ (kOf_lt _)) hb (by unfold nextAt at h2;omega)).mono ?_
  rintro r w' ⟨rfl,hg⟩
  exact ⟨hg,Or.inr (Or.inl ⟨h1,h2,rfl⟩)⟩
 refine (ins_ok w b s p h hs hp (bt s p) (kOf (bt s p)) (by omega) rfl (kOf_lt _) (hT.behind _ (by omega)) (hT.bytes _ (kOf_lt _)) hb (by unfold nextAt at h2;omega)).mono ?_
 rintro r w' ⟨rfl,hg,hr⟩
 exact ⟨hg,Or.inr (Or.inr ⟨h1,h2,rfl,hr⟩)⟩
theorem grown_trans {w w1 w2:World} {b:Nat} (h:w.grownBy w1 (some b)) (k:w1.grownBy w2 (some b)):w.grownBy w2 (some b):=
 ⟨k.os.trans h.os,k.tape.trans h.tape,k.output.trans h.output,Nat.le_trans h.size k.size,fun i hi hne=>(k.block i (Nat.lt_of_lt_of_le hi h.size) hne).trans (h.block i hi hne)⟩
theorem grown_drewN_left {w w':World} {b n:Nat} (h:(w.drewN n).grownBy w' (some b)):w.grownBy w' (some b):=⟨h.os,h.tape,h.output,h.size,h.block⟩
theorem grown_own {w w1 w2:World} {b:Nat} {row:Option Nat} (h:w.grownBy w1 (some b)) (k:w1.grownBy w2 row) (hr:∀i,row=some i->w.heap.size<=i):w.grownBy w2 (some b):=
 ⟨k.os.trans h.os,k.tape.trans h.tape,k.output.trans h.output,Nat.le_trans h.size k.size,fun i hi hne=>(k.block i (Nat.lt_of_lt_of_le hi h.size) (fun e=>by have:=hr i e.symm;omega)).trans (h.block i hi hne)⟩
theorem Rd.grown {w w':World} {b:Nat} {s:ByteArray} {p:Nat} {row:Option Nat} (h:Rd w b s p) (hg:w.grownBy w' row) (hne:some b≠row):Rd w' b s p:=
 ⟨hg.cell h.text hne,hg.cell h.at_ hne,(World.frozen?_of_block (hg.block b h.lt hne)).trans h.fz⟩
theorem own_drewN {w:World} {B e size n:Nat} {v:Value} {xs:List Value} (h:w.ownsRow B e size v n xs) (q:Nat):(w.drewN q).ownsRow B e size v n xs:=h
theorem own_ne {w:World} {B e size n b:Nat} {v:Value} {xs:List Value} (h:w.ownsRow B e size v n xs) (hb:b<B):v.ownBlock=none\/v.ownBlock≠some b:=by
 right
 intro e
 have:=(h.lt b e).1
 omega
theorem Tryz.info42:(Tryz.prog.info? 199).map (fun i=>(i.zero,i.size,i.bytes))=some (some (.agg #[.int .i64 0,.int .i64 0,.int .i64 0,.int .i64 0]),4,32):=by kernel_rfl
set_option maxHeartbeats 400000 in
theorem readAll_any (w:World) (b:Nat) (s:ByteArray) (h:Rd w b s 0) (hT:Tabs w) (hs:s.size<=200) (hb:5<b):
 Calls Tryz.prog 178 #[.pointer (some ⟨b,0,none⟩),.func (.func 179) #[.pointer (some ⟨b,0,none⟩)] #[]] w fun r w'=>w.grownBy w' (some b)/\
  ((∃l v,scan s s.size 0 []=.ok l/\l.length<=s.size/\r=.returned v/\w'.ownsRow w.heap.size 199 4 v l.length (cellsOf l))\/(∃e p,scan s s.size 0 []=.error (e,p)/\r=.panicked [wrongV e p])):=by
 have hs':s.size<=maxLen:=by unfold maxLen;omega
 obtain ⟨i0,hi,hz0,hz1,hz2⟩:=info_parts Tryz.info42
 go_enter Tryz.func178,Tryz.ntmps178
 go_wp2_with fail
 go_loopg [5] s.size (fun g v wr=>∃(p f:Nat) (acc:List Op4),g=s.size - p/\p<=s.size/\acc.length<=p/\s.size - p<=f/\scan s f p acc=scan s s.size 0 []/\wr.ownsRow w.heap.size 199 4 v acc.length (cellsOf acc)/\Rd wr b s p/\w.grownBy wr (some b))
 case atStart=>exact ⟨0,s.size,[],rfl,Nat.zero_le _,Nat.le_refl _,Nat.le_refl _,rfl,World.ownsRow_nil _ _ _ _,h,World.grownBy.refl _ _⟩
 case round=>
  obtain ⟨p,f,acc,hg,hp,hacc,hf,hsc,hown,hrd,hgr⟩:=hrel
  have HG:Hid (gk=s.size - p):=hg
  have HS:Hid (scan s f p acc=scan s s.size 0 []):=hsc
  clear hg hsc
  have hbw:=Nat.lt_of_lt_of_le h.lt hgr.size
  by_cases hlt:p<s.size
  ·
   go_wp2_with fail
   refine (left_any _ b s p hrd hp hs').mono ?_
   rintro e w1 ⟨rfl,n1,rfl⟩
   have hpos:(0:Int)<(s.size:Int) - p:=by omega
   go_wp2_with fail
   refine (ins_any _ b s p (hrd.drewN _) ((hT.grown hgr hb).drewN _) hs' hlt hb).mono ?_
   rintro e w2 ⟨hg2,hw2⟩
   rcases hw2 with ⟨h1,rfl⟩ | ⟨h1,h2,rfl⟩ | ⟨h1,h2,rfl,hr2⟩
   ·
    refine ⟨rfl,?_,Or.inr ⟨_,_,HS.out.symm.trans (scan_kind s f p acc hlt hf h1),rfl⟩⟩
    exact grown_trans hgr (grown_drewN_left hg2)
   ·
    refine ⟨rfl,?_,Or.inr ⟨_,_,HS.out.symm.trans (scan_short s f p acc hlt hf h1 h2),rfl⟩⟩
    exact grown_trans hgr (grown_drewN_left hg2)
   obtain ⟨f',hf',hs2⟩:=scan_step s f p acc hlt hf h1 h2
   have HS':Hid (scan s f' (nextAt s p) (acc++ [oneAt s p])=scan s s.size 0 []):=hs2.symm.trans HS.out
   clear hs2 HS
   have hown2:w2.ownsRow w.heap.size 199 4 u5 acc.length (cellsOf acc):=(own_drewN hown n1).kept hg2 (own_ne hown h.lt)
   have hgr2:=grown_trans hgr (grown_drewN_left hg2)
   clear hown hgr hg2 hrd
   generalize hx:oneAt s p=x at*
   have HX:Hid (oneAt s p=x):=hx
   clear hx
   go_wp2_with (at_builtin;refine wpList_append_own _ rfl _ _ 114 rfl w.heap.size 199 i0 (.agg #[.int .i64 0,.int .i64 0,.int .i64 0,.int .i64 0]) 4 32 Tryz.underlying114 hi hz0 hz1 hz2 rfl (by decide) _ _ _ rfl (hown2.alloc _) ⟨w2.heap.size,0,none⟩ 1 1 x.cells rfl rfl ?c1 ?c2 ?c3 ?c4 ?c5 ?_)
   case c1=>
    intro j u hj
    match j,hj with
    | 0,hj=>simp [Op4.cells]at hj;subst hj;simp [Addr.add]
    | 1,hj=>simp [Op4.cells]at hj;subst hj;simp [Addr.add]
    | 2,hj=>simp [Op4.cells]at hj;subst hj;simp [Addr.add]
    | 3,hj=>simp [Op4.cells]at hj;subst hj;simp [Addr.add]
    | n+4,hj=>simp [Op4.cells]at hj
   case c2=>intro u hu;simp [Op4.cells]at hu;rcases hu with rfl | rfl | rfl | rfl<;>rfl
   case c3=>unfold maxLen;omega
   case c4=>omega
   case c5=>have:=hgr2.size;simp;omega
   intro v' w3 hown3 hg3 _
   have hr3:Rd w3 b s (nextAt s p):=(hr2.alloc _).grown hg3 (by intro e;have:=(hown2.lt b e.symm).1;have:=h.lt;omega)
   have hgr3:w.grownBy w3 (some b):=grown_own (grown_alloc hgr2 _) hg3 (fun i e=>(hown2.lt i e).1)
   have HO:Hid (w3.ownsRow w.heap.size 199 4 v' (acc.length+1) (cellsOf acc++x.cells)):=hown3
   have hnx:p<nextAt s p:=by unfold nextAt;omega
   clear hown3 hown2 hg3 hgr2 hr2
   go_wp2
   go_roundg (s.size - nextAt s p)
   case measure=>have:=HG.out;omega
   case rel=>exact ⟨nextAt s p,f',acc++ [x],rfl,by omega,by simp;omega,hf',HX.out ▸ HS'.out,by rw [cellsOf_snoc,List.length_append];exact HO.out,hr3,hgr3⟩
  have hpe:p=s.size:=by omega
  go_wp2_with fail
  refine (left_any _ b s p hrd hp hs').mono ?_
  rintro e w1 ⟨rfl,n1,rfl⟩
  have hpos:¬(0:Int)<(s.size:Int) - p:=by omega
  go_wp2_with fail
  go_ret
  refine ⟨grown_drewN hgr _,Or.inl ⟨acc,u5,HS.out.symm.trans (scan_end s f p acc hlt),by omega,rfl,hown⟩⟩
end Go.Proofs.YtcddpmappmjilaaGreatDoor.Cd
namespace Go.Proofs.YtcddpmappmjilaaGreatDoor.Cd
set_option maxRecDepth 100000
open Go.ChangeShapes Go.WideShapes Go.ChangeAt Go.RowKit
theorem own:ownKnob Tryz.prog.godebug=none:=by kernel_rfl
theorem gBehind:Tryz.prog.globalNamed "cinder/code.behind" =some 5:=by kernel_rfl
theorem gRooms:Tryz.prog.globalNamed "cinder/code.rooms" =some 4:=by kernel_rfl
theorem tBehind:(Tryz.prog.globals[5]?).map (·.type)=some 294:=by kernel_rfl
theorem tRooms:(Tryz.prog.globals[4]?).map (·.type)=some 293:=by kernel_rfl
theorem cells3:Tryz.prog.cellsOf 3=1:=by kernel_rfl
theorem cells72:Tryz.prog.cellsOf 294=37:=by kernel_rfl
theorem cells76:Tryz.prog.cellsOf 292=4:=by kernel_rfl
def tabZ:List Int:=[0,1,0,3,3,0,0,0,0,0,0,0,0,2,2,2,2,2,3,4,4,0,3,0,0,0,4,0,0,3,3,0,0,0,4,0,0]
theorem tabZ_eq (o:Nat) (h:o<37):tabZ.getD o 0=(kOf o:Int):=by
 have:∀o:Fin 37,tabZ.getD o.val 0=(kOf o.val:Int):=by decide
 exact this ⟨o,h⟩
abbrev laidL:List (String×DataW Unit):=[("cinder/code.rooms",Rows.laid_cinder_code_rooms),("cinder/code.behind",Rows.laid_cinder_code_behind),("cinder/verify.number",Rows.laid_cinder_verify_number),("cinder/verify.row",Rows.laid_cinder_verify_row),("cinder/verify.null",Rows.laid_cinder_verify_null),("cinder/verify.anything",Rows.laid_cinder_verify_anything),("cinder/verify.thing",Rows.laid_cinder_verify_thing)]
theorem behind_of {W:World} (h:laidMet Tryz.prog laidL W):Lib.TabIs Tryz.prog W "cinder/code.behind" .i64 tabZ:=
 Lib.tabIs_of_head gBehind tBehind Tryz.underlying294 Tryz.underlying3 cells3 cells72 h.tail
def rowsZ:List (List Int):=[[0,0,0,0],[2,-32768,32767,0],[2,0,65535,0],[1,0,255,0],[2,0,255,255]]
theorem room_cells {H:Type} {enc:TypeId×Value->H} {w:World} {base:Nat} {spare:Nat->Bool} {held:Bool} {fuel:Nat} {cs:List Value} {ps:List MemPlace}
 (h:DataW.trod enc Tryz.prog w base spare held fuel 293 cs=some (Rows.laid_cinder_code_rooms,ps)) (i j:Nat) (hi:i<5) (hj:j<4):
 cs[i*4+j]? =some (.int .i64 ((rowsZ.getD i []).getD j 0)):=by
 obtain ⟨xs,m,rfl,hx,hlen,hn,hel⟩:=DataW.trod_array Tryz.underlying293 h
 have h1:=hel i hi
 rw [cells76]at h1
 have hxi:(xs.map (·.1))[i]? =some (.agg ((rowsZ.getD i []).map fun z=>.lit (.int .i64 z))):=by
  have e:xs.map (·.1)=rowsZ.map fun r=>.agg (r.map fun z=>.lit (.int .i64 z)):=by
   have:=(Prod.mk.inj hx).1
   exact (DataW.agg.inj this).symm
  rw [e]
  match i,hi with
  | 0,_=>rfl
  | 1,_=>rfl
  | 2,_=>rfl
  | 3,_=>rfl
  | 4,_=>rfl
 rw [List.getElem?_map]at hxi
 cases hxe:xs[i]? with
 | none=>rw [hxe]at hxi;cases hxi
 | some x=>
   rw [hxe]at hxi h1
   obtain ⟨ys,m',rfl,hy,hlen2,hn2,hel2⟩:=DataW.trod_struct Tryz.underlying292 h1
   have hx1:x.1=.agg ((rowsZ.getD i []).map fun z=>.lit (.int .i64 z)):=Option.some.inj hxi
   have ey:ys.map (·.1)=(rowsZ.getD i []).map fun z=>.lit (.int .i64 z):=by
    rw [hy]at hx1
    exact DataW.agg.inj hx1
   have hlen3:(rowsZ.getD i []).length=4:=by
    match i,hi with
    | 0,_=>rfl
    | 1,_=>rfl
    | 2,_=>rfl
    | 3,_=>rfl
    | 4,_=>rfl
   have hf:DataW.trod enc Tryz.prog w base spare held m' 3 ((((cs.drop (i*4)).take 4).drop j).take 1)=ys[j]? :=by
    match j,hj with
    | 0,_=>have:=hel2 0 _ rfl;simpa [cells3]using this
    | 1,_=>have:=hel2 1 _ rfl;simpa [cells3]using this
    | 2,_=>have:=hel2 2 _ rfl;simpa [cells3]using this
    | 3,_=>have:=hel2 3 _ rfl;simpa [cells3]using this
   have eyj:(ys.map (·.1))[j]? =some (.lit (.int .i64 ((rowsZ.getD i []).getD j 0))):=by
    rw [ey]
    generalize rowsZ.getD i []=r at hlen3
    have hjr:j<r.length:=by omega
    simp [hjr]
   rw [List.getElem?_map]at eyj
   cases hye:ys[j]? with
   | none=>rw [hye]at eyj;cases eyj
   | some y=>
     rw [hye]at eyj hf
     obtain ⟨z,e1,e2,_⟩:=DataW.trod_int Tryz.underlying3 hf
     have ez:z=(rowsZ.getD i []).getD j 0:=by
      have:y.1=.lit (.int .i64 ((rowsZ.getD i []).getD j 0)):=Option.some.inj eyj
      rw [e2]at this
      simpa using this
     subst ez
     have:=congrArg (fun l=>l[0]?) e1
     simp only [List.getElem?_take,List.getElem?_drop]at this
     simpa [show 0<1 by omega,show j<4 by omega]using this
theorem rooms_of {W:World} (h:laidMet Tryz.prog laidL W) (i j:Nat) (hi:i<5) (hj:j<4):W.cell? ⟨4,i*4+j,none⟩=some (.int .i64 ((rowsZ.getD i []).getD j 0)):=by
 obtain ⟨ps,⟨g0,t0,cs0,f0,p0,q0,hg0,ht0,hv0,hd0,_⟩,_⟩:=h
 obtain rfl:=Option.some.inj (gRooms.symm.trans hg0)
 obtain rfl:=Option.some.inj (tRooms.symm.trans ht0)
 have:=World.var?_cell hg0 hv0 (i*4+j)
 rw [this]
 have h2:=room_cells hd0 i j hi hj
 simpa using h2
theorem tabs_of {W:World} (h:laidMetH Tryz.prog laidL W):Tabs W:=by
 have h':laidMet Tryz.prog laidL W:=h
 have hb:=behind_of h'
 refine ⟨fun o ho=>?_,fun k hk=>?_,?_⟩
 ·
  rw [hb.cell gBehind o ho,tabZ_eq o ho]
 ·
  have:=rooms_of h' k 0 hk (by omega)
  rw [Nat.add_zero]at this
  rw [this]
  match k,hk with
  | 0,_=>rfl
  | 1,_=>rfl
  | 2,_=>rfl
  | 3,_=>rfl
  | 4,_=>rfl
 exact World.block_lt_of_cell? W _ (hb.cell gBehind 0 (by decide))
def lay (zs:List Int):Obj->Obj
 | .cells _ t frozen=>.cells (zs.map fun z=>Value.int .i64 z).toArray t frozen
 | o=>o
def layWorld (w:World):World:={ w with heap:=(w.heap.modify 5 (lay tabZ)).modify 4 (lay rowsZ.flatten) }
end Go.Proofs.YtcddpmappmjilaaGreatDoor.Cd
namespace Go.Proofs.YtcddpmappmjilaaGreatDoor.Cd
set_option maxRecDepth 100000
open Go.RowKit
theorem own_holds {w:World} {B:Nat} {v:Value} {l:List Op4} (h:w.ownsRow B 199 4 v l.length (cellsOf l)):Holds4 w v l:=by
 rcases h.2 with ⟨rfl,hn⟩ | ⟨g,cap,cur,rfl,hb,hg,hc,hm,hs,ht⟩
 ·
  exact Or.inl ⟨none,0,rfl,List.eq_nil_of_length_eq_zero hn⟩
 have hc4:∀k,k<l.length->∀j,j<4->w.cell? ⟨g,0+k*4+j,none⟩=(get4 l k).cells[j]? :=fun k hk j hj=>by
  rw [Nat.zero_add,h.cellAt (k*4+j) (by omega)]
  exact cellsOf_get l k hk j hj
 exact Or.inr ⟨g,0,cap,rfl,hc,fun k hk=>hc4 k hk 0 (by omega),fun k hk=>hc4 k hk 1 (by omega),fun k hk=>hc4 k hk 2 (by omega),fun k hk=>hc4 k hk 3 (by omega),(Array.getElem?_eq_some_iff.1 hg).1⟩
theorem Holds4.below {w w':World} {v:Value} {l:List Op4} (h:Holds4 w v l) (hb:Below w.heap.size w w'):Holds4 w' v l:=by
 rcases h with h | ⟨b,off,cap,rfl,hc,h⟩
 ·
  exact Or.inl h
 exact Or.inr ⟨b,off,cap,rfl,hc,h.below hb h.lt⟩
theorem Tabs.below {w w':World} (h:Tabs w) (hb:Below w.heap.size w w'):Tabs w':=
 ⟨fun o ho=>(hb.cell (p:=⟨5,o,none⟩) (by have:=h.two;simp;omega)).trans (h.behind o ho),fun k hk=>(hb.cell (p:=⟨4,_,none⟩) (by have:=h.two;simp;omega)).trans (h.bytes k hk),Nat.lt_of_lt_of_le h.two hb.size⟩
theorem own_below {w w':World} {B:Nat} {e size n:Nat} {v:Value} {xs:List Value} (h:w.ownsRow B e size v n xs) (hb:Below w.heap.size w w'):w'.ownsRow B e size v n xs:=
 h.kept (row:=none) ⟨hb.os,hb.tape,hb.output,hb.size,fun k hk _=>hb.block k hk⟩ (by cases v.ownBlock<;>simp)
set_option maxHeartbeats 400000 in
theorem check_any (w:World) (v:Value) (l:List Op4) (x:Op4) (h:Holds4 w v l) (hl:l.length<=9223372036854775807) (hT:Tabs w) (o:Nat) (ho:o<37) (hxo:x.op=o):
 Calls Tryz.prog 180 #[v,.agg #[.int .i64 x.loc,.int .i64 x.op,.int .i64 x.a,.int .i64 x.b]] w fun r w'=>Below w.heap.size w w'/\
  ((bad l x=true/\r=.panicked [wrongV 3 x.loc])\/(¬bad l x=true/\r=.returned (.tuple #[]))):=by
 rw [hxo]
 have h0:=hT.two
 have h00:0<w.heap.size:=by omega
 have ht:=hT.behind o ho
 have hk5:=kOf_lt o
 have HO:Hid (kOf x.op.toNat=kOf o):=by show kOf x.op.toNat=kOf o;rw [hxo];rfl
 clear hxo
 by_cases hk:kOf o=2
 ·
  have HK:Hid (kOf o=2):=hk
  rw [hk]at ht
  clear hk hk5
  go_enter Tryz.func180,Tryz.ntmps180
  go_wp2_with fail
  refine (place_all _ v l x.a ?_ hl).mono ?_
  ·
   exact h.below ((Below.refl _ _).alloc (Nat.le_refl _) _)
  rintro e w1 ⟨rfl,hb⟩
  have x0:w1.cell? ⟨w.heap.size,0,none⟩=some (.int .i64 x.loc):=(hb.cell (p:=⟨w.heap.size,0,none⟩) (by simp)).trans (by simp)
  have hB:Below w.heap.size w w1:=((Below.refl _ _).alloc (Nat.le_refl _) _).trans (hb.mono (by simp))
  clear hb
  cases hp:place l x.a 0 with
  | none=>
    have HP:Hid (place l x.a 0=none):=hp
    rw [placeN_none hp,placeE_none hp]
    clear hp
    go_wp2_with fail
    refine (demand_no _ _ _).mono ?_
    rintro e w2 ⟨rfl,rfl⟩
    refine ⟨rfl,hB,Or.inl ⟨?_,rfl⟩⟩
    simp only [bad,HO.out,HK.out,HP.out]
    rfl
  | some k=>
    have HP:Hid (place l x.a 0=some k):=hp
    rw [placeN_some hp,placeE_some hp]
    clear hp
    go_wp2_with fail
    refine (demand_ok _ _ _).mono ?_
    rintro e w2 ⟨rfl,rfl⟩
    go_wp2
    go_end0
    refine ⟨hB,Or.inr ⟨?_,rfl⟩⟩
    simp [bad,HP.out]
 have hbf:((kOf o:Int)==2)=false:=by simp;omega
 have HK:Hid (¬kOf o=2):=hk
 clear hk
 go_enter Tryz.func180,Tryz.ntmps180
 go_wp2
 first | go_end0 | refine bodyPost_ret (results_none rfl _ _ _) rfl ?_
 refine ⟨(Below.refl _ _).alloc (Nat.le_refl _) _,Or.inr ⟨?_,rfl⟩⟩
 simp [bad,HO.out,HK.out]
theorem below_of_grown {w W w':World} {b:Nat} (h:Below w.heap.size w W) (hg:W.grownBy w' (some b)) (hb:w.heap.size<=b):Below w.heap.size w w':=
 h.grown hg h.size (fun k e=>by cases e;exact hb)
set_option maxHeartbeats 800000 in
theorem decode_any (w:World) (s:ByteArray) (hT:Tabs w) (hs:s.size<=200):
 Calls Tryz.prog 108 #[.string s] w fun r w'=>Below w.heap.size w w'/\
  ((∃l v,dec s=.ok l/\l.length<=s.size/\r=.returned v/\w'.ownsRow w.heap.size 199 4 v l.length (cellsOf l))\/(∃e p,dec s=.error (e,p)/\r=.panicked [wrongV e p])):=by
 have hmf:∀(fn:Fn) (first cap:Array Value) (w:World),(Instr.makeFunc fn first cap).run Tryz.prog w=.ok (.func fn first cap) w:=fun _ _ _ _=>rfl
 have h0:=hT.two
 have hB0:Below w.heap.size w ((w.alloc (.cells #[.string s,.int .i64 0] 241)).alloc (.cells #[.string s,.int .i64 0] 244)):=((Below.refl _ _).alloc (Nat.le_refl _) _).alloc (by simp) _
 go_enter Tryz.func108,Tryz.ntmps108
 go_wp2_with fail
 refine (newReader_any _ s).mono ?_
 rintro e w1 ⟨rfl,rfl⟩
 go_wp2_with fail
 refine (readAll_any _ (w.heap.size+1) s ?_ (hT.below hB0) hs (by omega)).mono ?_
 ·
  exact ⟨by simp,by simp,by simp⟩
 rintro e w1 ⟨hg,he⟩
 have hB:=below_of_grown hB0 hg (by omega)
 rcases he with ⟨l,v,hsc,hll,rfl,hown⟩ | ⟨er,p,hsc,rfl⟩
 ·
  have hok:=scan_okay s _ _ _ _ (fun x hx=>by cases hx) hsc
  have hT1:=hT.below hB
  have hh:=own_holds hown
  have HS:Hid (scan s s.size 0 []=.ok l):=hsc
  have HOW:Hid (w1.ownsRow w.heap.size 199 4 v l.length (cellsOf l)):=by
   refine ⟨hown.1,?_⟩
   rcases hown.2 with h | ⟨g,cap,cur,h1,h2,h3⟩
   ·
    exact Or.inl h
   exact Or.inr ⟨g,cap,cur,h1,by simp at h2;omega,h3⟩
  clear hsc hown hg
  rcases hh with ⟨ao,cap,rfl,rfl⟩ | ⟨b,off,cap,rfl,hc,hh⟩
  ·
   go_wp2_with fail
   go_loop [15] (fun i=>i=.int .i64 0) (fun _=>0)
   case atStart=>rfl
   case round=>
    obtain rfl:=hrel
    go_wp2_with fail
    go_ret
    exact ⟨hB,Or.inl ⟨[],dec_ok HS.out rfl,Nat.zero_le _,_,rfl,HOW.out⟩⟩
  go_wp2_with fail
  go_loopw [15] (fun i wr=>∃k:Nat,k<=l.length/\i=.int .i64 k/\Hid (firstBad l (l.drop k)=firstBad l l)/\Below w1.heap.size w1 wr) (fun i _=>l.length - (intOf i).toNat)
  case atStart=>exact ⟨0,Nat.zero_le _,rfl,rfl,Below.refl _ _⟩
  case round=>
   obtain ⟨k,hk,rfl,HP,hBr⟩:=hrel
   have hsz:=hBr.size
   by_cases hlt:k<l.length
   ·
    have h':=hh.below hBr hh.lt
    have c0:=h'.c0 k hlt
    have c1:=h'.c1 k hlt
    have c2:=h'.c2 k hlt
    have c3:=h'.c3 k hlt
    obtain ⟨o,ho,hxo⟩:=hok _ (get4_mem l k hlt)
    have HXO:Hid ((get4 l k).op=o):=hxo
    clear hxo
    go_wp2_with fail
    refine (check_any _ _ l (get4 l k) ?_ (by omega) ?_ o ho HXO.out).mono ?_
    ·
     exact Or.inr ⟨b,off,cap,rfl,hc,hh.below (hBr.alloc hsz _) hh.lt⟩
    ·
     exact hT1.below (hBr.alloc hsz _)
    rintro e w2 ⟨hB2,he2⟩
    have hB3:Below w1.heap.size w1 w2:=(hBr.alloc hsz _).trans (hB2.mono (by simp;omega))
    rcases he2 with ⟨hbad,rfl⟩ | ⟨hbad,rfl⟩
    ·
     refine ⟨rfl,hB.trans (hB3.mono hB.size),Or.inr ⟨_,_,dec_bad HS.out (HP.out.symm.trans (firstBad_hit l k hlt hbad)),rfl⟩⟩
    clear hB2
    go_wp2_with fail
    go_roundw
    case rel=>exact ⟨k+1,by omega,by go_num,(firstBad_miss l k hlt hbad).symm.trans HP.out,hB3⟩
    case measure=>simp [intOf];omega
   go_wp2_with fail
   go_ret
   refine ⟨hB.trans (hBr.mono hB.size),Or.inl ⟨l,_,dec_ok HS.out (HP.out.symm.trans (firstBad_end l k hlt)),hll,rfl,?_⟩⟩
   exact own_below HOW.out hBr
 exact ⟨rfl,hB,Or.inr ⟨_,_,dec_err hsc,rfl⟩⟩
end Go.Proofs.YtcddpmappmjilaaGreatDoor.Cd
namespace Go.Proofs.YtcddpmappmjilaaGreatDoor.Cd
set_option maxRecDepth 100000
open Go.RowKit
theorem catch_idle (f:Addr) (w:World):
 CallsD Tryz.prog 30 #[.pointer (some f)] .returning w fun e u' w'=>e=.returned (.tuple #[])/\u'=.returning/\w'=w:=by
 refine callsD_of_wpS Tryz.func30 rfl fun c₀ cs hu=>?_
 apply wpS_seq
 apply wpS_region
 simp [wpOpsS,go_sem,recoverD,hu,Tryz.ntmps30,Exit.thenS]
 have e:(#[Value.pointer (some f)]++((Array.replicate 16 undef).setIfInBounds 3 Value.nilIface).setIfInBounds 0 Value.nilIface)=#[.pointer (some f),.nilIface,undef,undef,.nilIface,undef,undef,undef,undef,undef,undef,undef,undef,undef,undef,undef,undef]:=rfl
 rw [e]
 refine wpS_of_wp ?_
 go_wp2
 refine ⟨rfl,.returning,?_,_,(results_none rfl _ _ _),rfl,rfl,rfl⟩
 cases c₀
 simp_all
theorem assert57 (x:Value) (w:World):(Instr.typeAssert (.iface 87 x) 20 87 true).run Tryz.prog w=.ok (.tuple #[x,.bool true]) w:=by kernel_rfl
theorem eqlNil (x:Value) (w:World):(binOp BinOp.eql 20 (.iface 87 x) .nilIface).run Tryz.prog w=.ok (.bool false) w:=by kernel_rfl
set_option maxHeartbeats 1000000 in
theorem catch_panicking (b:Nat) (x y:Value) (e p:Int) (w:World) (h0:w.cell? ⟨b,0,none⟩=some x) (h1:w.cell? ⟨b,1,none⟩=some y) (f0:w.frozen? ⟨b,0,none⟩=false) (f1:w.frozen? ⟨b,1,none⟩=false):
 CallsD Tryz.prog 30 #[.pointer (some ⟨b,0,none⟩)] (.panicking [wrongV e p]) w fun r u' w'=>r=.returned (.tuple #[])/\u'=.panicking [{ wrongV e p with recovered:=true }]/\
  w'=((w.setCell ⟨b,0,none⟩ (.int .i64 e)).setCell ⟨b,1,none⟩ (.int .i64 p)).alloc (.cells #[.int .i64 e,.int .i64 p] 87):=by
 have hb:b<w.heap.size:=World.block_lt_of_cell? w _ h0
 have k1:=assert57 (.agg #[.int .i64 e,.int .i64 p])
 have k2:=eqlNil (.agg #[.int .i64 e,.int .i64 p])
 refine callsD_of_wpS Tryz.func30 rfl fun c₀ cs hu=>?_
 apply wpS_seq
 apply wpS_region
 simp [wpOpsS,go_sem,recoverD,hu,Tryz.ntmps30,Exit.thenS]
 generalize hv:Value.iface 87 (.agg #[.int .i64 e,.int .i64 p])=V
 have ee:(#[Value.pointer (some ⟨b,0,none⟩)]++((Array.replicate 16 undef).setIfInBounds 3 V).setIfInBounds 0 V)=#[.pointer (some ⟨b,0,none⟩),V,undef,undef,V,undef,undef,undef,undef,undef,undef,undef,undef,undef,undef,undef,undef]:=rfl
 rw [ee]
 clear ee
 subst hv
 refine wpS_of_wp ?_
 clear hu
 go_wp2_with fail
 exact ⟨rfl,_,rfl,_,results_none rfl _ _ _,rfl,rfl,rfl⟩
theorem fault_world (w1:World) (N:Nat) (e p:Int) (o:Obj) {x y:Value} (n0:w1.cell? ⟨N,0,none⟩=some x) (n1:w1.cell? ⟨N,1,none⟩=some y):
 w1.grownBy (((w1.setCell ⟨N,0,none⟩ (.int .i64 e)).setCell ⟨N,1,none⟩ (.int .i64 p)).alloc o) (some N)/\
 (((w1.setCell ⟨N,0,none⟩ (.int .i64 e)).setCell ⟨N,1,none⟩ (.int .i64 p)).alloc o).cell? ⟨N,0,none⟩=some (.int .i64 e)/\
 (((w1.setCell ⟨N,0,none⟩ (.int .i64 e)).setCell ⟨N,1,none⟩ (.int .i64 p)).alloc o).cell? ⟨N,1,none⟩=some (.int .i64 p):=by
 have hlt:N<w1.heap.size:=World.block_lt_of_cell? w1 _ n0
 refine ⟨?_,?_,?_⟩
 ·
  refine grown_alloc ?_ _
  refine grown_set ?_ _ _ (Or.inl rfl)
  refine grown_set ?_ _ _ (Or.inl rfl)
  exact World.grownBy.refl _ _
 ·
  rw [World.cell?_alloc_past _ _ _ (by simpa [World.setCell]using hlt),World.cell?_setCell_other _ _ _ _ (by simp),World.cell?_setCell_same _ _ _ n0]
 rw [World.cell?_alloc_past _ _ _ (by simpa [World.setCell]using hlt)]
 exact World.cell?_setCell_same _ _ _ ((World.cell?_setCell_other _ _ _ _ (by simp)).trans n1)
set_option maxHeartbeats 1000000 in
theorem caught_any (g:Nat) (cap:Array Value) (w:World) (Ok:World->Prop) (No:Int->Int->World->Prop) (hcf:∀w,(callFunc g cap).run Tryz.prog w=.ok (.enter g cap) w)
 (hc:Calls Tryz.prog g cap (w.alloc (.cells #[.int .i64 0,.int .i64 0] 50)) fun r w1=>w1.heap[w.heap.size]? =some (.cells #[.int .i64 0,.int .i64 0] 50 (0,0))/\
  ((r=.returned (.tuple #[])/\Ok w1)\/∃e p,r=.panicked [wrongV e p]/\No e p w1)):
 Calls Tryz.prog 13 #[.func (.func g) #[] cap] w fun r w'=>∃w1,w1.grownBy w' (some w.heap.size)/\
  ((r=.returned (.agg #[.int .i64 0,.int .i64 0])/\Ok w1)\/∃e p,r=.returned (.agg #[.int .i64 e,.int .i64 p])/\No e p w1):=by
 have hmf:∀(fn:Fn) (first cap:Array Value) (w:World),(Instr.makeFunc fn first cap).run Tryz.prog w=.ok (.func fn first cap) w:=fun _ _ _ _=>rfl
 have HC:Hid _:=hc
 clear hc
 go_enter_defers Tryz.func13,Tryz.ntmps13
 go_wp2_with fail
 refine Calls.mono HC.out ?_
 rintro r w1 ⟨hN,hr⟩
 have n0:w1.cell? ⟨w.heap.size,0,none⟩=some (.int .i64 0):=by simp [World.cell?,hN]
 have n1:w1.cell? ⟨w.heap.size,1,none⟩=some (.int .i64 0):=by simp [World.cell?,hN]
 have z0:w1.frozen? ⟨w.heap.size,0,none⟩=false:=by simp [World.frozen?,hN]
 have z1:w1.frozen? ⟨w.heap.size,1,none⟩=false:=by simp [World.frozen?,hN]
 clear hN
 rcases hr with ⟨rfl,hok⟩ | ⟨e,p,rfl,hno⟩
 ·
  go_wp2_with fail
  refine leaves_cons (f:=30) (args:=#[.pointer (some ⟨w.heap.size,0,none⟩)]) (by simp) (by simp [go_sem]) ?_
  refine (catch_idle ⟨w.heap.size,0,none⟩ _).mono ?_
  rintro r2 u' w'' ⟨rfl,rfl,rfl⟩
  show Leaves Tryz.prog Tryz.f13 _ _ [] FrameMode.returning _
  refine ⟨.agg #[.int .i64 0,.int .i64 0],?_,w1,?_,Or.inl ⟨rfl,hok⟩⟩
  ·
   simp [results,Tryz.results13,go_sem,n0,n1]
  exact grown_set (grown_set (World.grownBy.refl _ _) _ _ (Or.inl rfl)) _ _ (Or.inl rfl)
 refine leaves_cons (f:=30) (args:=#[.pointer (some ⟨w.heap.size,0,none⟩)]) (by simp) (by simp [go_sem]) ?_
 refine (catch_panicking w.heap.size _ _ e p _ n0 n1 z0 z1).mono ?_
 rintro r2 u' w'' ⟨rfl,rfl,rfl⟩
 obtain ⟨hg,q0,q1⟩:=fault_world w1 w.heap.size e p _ n0 n1
 show Leaves Tryz.prog Tryz.f13 _ _ [] FrameMode.returning _
 generalize ((w1.setCell ⟨w.heap.size,0,none⟩ (.int .i64 e)).setCell ⟨w.heap.size,1,none⟩ (.int .i64 p)).alloc (.cells #[.int .i64 e,.int .i64 p] 87)=W2 at*
 refine ⟨.agg #[.int .i64 e,.int .i64 p],?_,w1,hg,Or.inr ⟨e,p,rfl,hno⟩⟩
 simp [results,Tryz.results13,go_sem,q0,q1]
end Go.Proofs.YtcddpmappmjilaaGreatDoor.Cd
namespace Go.Proofs.YtcddpmappmjilaaGreatDoor.Cd
set_option maxRecDepth 100000
open Go.RowKit
theorem mkHid {p:Prop} (h:p):Hid p:=h
set_option maxHeartbeats 400000 in
theorem decode1_any (w:World) (s:ByteArray) (Ps:Nat) (hT:Tabs w) (hs:s.size<=200) (hp:w.cell? ⟨Ps,0,none⟩=some (.string s)):
 Calls Tryz.prog 107 #[.pointer (some ⟨Ps,0,none⟩)] w fun r w'=>Below w.heap.size w w'/\
  ((∃l v,dec s=.ok l/\l.length<=s.size/\r=.returned v/\w'.ownsRow w.heap.size 199 4 v l.length (cellsOf l))\/(∃e p,dec s=.error (e,p)/\r=.panicked [wrongV e p])):=by
 go_enter Tryz.func107,Tryz.ntmps107
 go_wp2_with fail
 refine (decode_any _ s hT hs).mono ?_
 rintro r w1 ⟨hB,hr⟩
 rcases hr with ⟨l,v,hd,hl,rfl,hown⟩ | ⟨e,p,hd,rfl⟩
 ·
  have HD:=mkHid hd
  have HB:=mkHid hB
  have HO:=mkHid hown
  have ho:=hown.2
  clear hd hB hown
  rcases ho with ⟨rfl,hn⟩ | ⟨g,cap,cur,rfl,hrest⟩
  all_goals
   try clear hrest
   go_wp2_with fail
   go_ret
   exact ⟨HB.out,Or.inl ⟨l,_,HD.out,hl,rfl,HO.out⟩⟩
 exact ⟨rfl,hB,Or.inr ⟨e,p,hd,rfl⟩⟩
set_option maxHeartbeats 400000 in
theorem made1_any (w:World) (s:ByteArray) (Pf Q Ps:Nat) (x:Value) (hT:Tabs w) (hs:s.size<=200) (hpf:w.cell? ⟨Pf,0,none⟩=some (.func (.func 107) #[] #[.pointer (some ⟨Ps,0,none⟩)])) (hps:w.cell? ⟨Ps,0,none⟩=some (.string s)) (hq:w.cell? ⟨Q,0,none⟩=some x) (hz:w.frozen? ⟨Q,0,none⟩=false):
 Calls Tryz.prog 176 #[.pointer (some ⟨Pf,0,none⟩),.pointer (some ⟨Q,0,none⟩)] w fun r w'=>
  (r=.returned (.tuple #[])/\∃l v,dec s=.ok l/\l.length<=s.size/\w'.cell? ⟨Q,0,none⟩=some v/\w'.ownsRow w.heap.size 199 4 v l.length (cellsOf l)/\w.grownBy w' (some Q))\/
  (∃e p,r=.panicked [wrongV e p]/\dec s=.error (e,p)/\Below w.heap.size w w'):=by
 have hQ:Q<w.heap.size:=World.block_lt_of_cell? w _ hq
 go_enter Tryz.func176,Tryz.ntmps176
 go_wp2_with fail
 refine (decode1_any _ s Ps hT hs hps).mono ?_
 rintro r w1 ⟨hB,hr⟩
 rcases hr with ⟨l,v,hd,hl,rfl,hown⟩ | ⟨e,p,hd,rfl⟩
 ·
  have hq1:w1.cell? ⟨Q,0,none⟩=some x:=(hB.cell (p:=⟨Q,0,none⟩) hQ).trans hq
  have hz1:w1.frozen? ⟨Q,0,none⟩=false:=(hB.frozen (p:=⟨Q,0,none⟩) hQ).trans hz
  have hg:w.grownBy (w1.setCell ⟨Q,0,none⟩ v) (some Q):=grown_set ⟨hB.os,hB.tape,hB.output,hB.size,fun k hk _=>hB.block k hk⟩ _ _ (by simp)
  have hown':(w1.setCell ⟨Q,0,none⟩ v).ownsRow w.heap.size 199 4 v l.length (cellsOf l):=ownsRow_setCell_below hown (by simpa using hQ) _
  have hd':Hid (dec s=.ok l):=hd
  have hc':=World.cell?_setCell_same w1 ⟨Q,0,none⟩ v hq1
  rcases hown.2 with ⟨rfl,hn⟩ | ⟨g,cap,cur,rfl,hrest⟩
  all_goals
   clear hd hown
   have HG:=mkHid hg
   have HO:=mkHid hown'
   have HC:=mkHid hc'
   clear hg hown' hc'
   go_wp2
   go_end0
   exact Or.inl ⟨rfl,l,_,hd'.out,hl,HC.out,HO.out,HG.out⟩
 exact ⟨rfl,Or.inr ⟨e,p,rfl,hd,hB⟩⟩
theorem callMade1 (args:Array Value) (w:World):(callFunc 176 args).run Tryz.prog w=.ok (.enter 176 args) w:=by kernel_rfl
theorem own_lower {w:World} {B B' e size n:Nat} {v:Value} {xs:List Value} (h:w.ownsRow B e size v n xs) (hB:B'<=B):w.ownsRow B' e size v n xs:=by
 refine ⟨h.1,?_⟩
 rcases h.2 with h | ⟨g,cap,cur,h1,h2,h3⟩
 ·
  exact Or.inl h
 exact Or.inr ⟨g,cap,cur,h1,Nat.le_trans hB h2,h3⟩
theorem afterMade (w w1:World) (x:Value) (h:((((w.alloc (.cells #[x] 187)).alloc (.cells #[.int .i64 0,.int .i64 0] 50)).alloc (.cells #[.slice none 0 0] 114)).alloc (.cells #[.int .i64 0,.int .i64 0] 50)).grownBy w1 (some (w.heap.size+2))):
 w1.heap[w.heap.size+3]? =some (.cells #[.int .i64 0,.int .i64 0] 50 (0,0))/\Below w.heap.size w w1/\w1.cell? ⟨w.heap.size+1,0,none⟩=some (.int .i64 0)/\w1.cell? ⟨w.heap.size+1,1,none⟩=some (.int .i64 0)/\
  (∀j,w1.frozen? ⟨w.heap.size+1,j,none⟩=false)/\w.heap.size+4<=w1.heap.size:=by
 have hB0:Below w.heap.size w ((((w.alloc (.cells #[x] 187)).alloc (.cells #[.int .i64 0,.int .i64 0] 50)).alloc (.cells #[.slice none 0 0] 114)).alloc (.cells #[.int .i64 0,.int .i64 0] 50)):=
  ((((Below.refl _ _).alloc (Nat.le_refl _) _).alloc (by simp) _).alloc (by simp;omega) _).alloc (by simp;omega) _
 have hz:((((w.alloc (.cells #[x] 187)).alloc (.cells #[.int .i64 0,.int .i64 0] 50)).alloc (.cells #[.slice none 0 0] 114)).alloc (.cells #[.int .i64 0,.int .i64 0] 50)).heap.size=w.heap.size+4:=by simp
 refine ⟨?_,below_of_grown hB0 h (by omega),?_,?_,?_,by rw [<-hz];exact h.size⟩
 ·
  rw [h.block (w.heap.size+3) (by omega) (by simp)]
  show ((((w.heap.push _).push _).push _).push _)[w.heap.size+3]? =_
  rw [Array.getElem?_push,if_pos (by simp)]
 ·
  exact h.cell (a:=⟨w.heap.size+1,0,none⟩) (by simp [go_sem]) (by simp)
 ·
  exact h.cell (a:=⟨w.heap.size+1,1,none⟩) (by simp [go_sem]) (by simp)
 intro j
 rw [World.frozen?_of_block (a:=⟨w.heap.size+1,j,none⟩) (h.block (w.heap.size+1) (by omega) (by simp))]
 simp [go_sem]
set_option maxHeartbeats 1000000 in
theorem Made_any (w:World) (s:ByteArray) (Ps:Nat) (hT:Tabs w) (hs:s.size<=200) (hps:w.cell? ⟨Ps,0,none⟩=some (.string s)):
 Calls Tryz.prog 106 #[.func (.func 107) #[] #[.pointer (some ⟨Ps,0,none⟩)]] w fun r w'=>Below w.heap.size w w'/\
  ((∃l v,dec s=.ok l/\l.length<=s.size/\r=.returned (.tuple #[v,.agg #[.int .i64 0,.int .i64 0]])/\w'.ownsRow w.heap.size 199 4 v l.length (cellsOf l))\/
   (∃e p,dec s=.error (e,p)/\r=.returned (.tuple #[.slice none 0 0,.agg #[.int .i64 e,.int .i64 p]]))):=by
 have hmf:∀(fn:Fn) (first cap:Array Value) (w:World),(Instr.makeFunc fn first cap).run Tryz.prog w=.ok (.func fn first cap) w:=fun _ _ _ _=>rfl
 have hP:Ps<w.heap.size:=World.block_lt_of_cell? w _ hps
 have hB0:Below w.heap.size w (((w.alloc (.cells #[.func (.func 107) #[] #[.pointer (some ⟨Ps,0,none⟩)]] 187)).alloc (.cells #[.int .i64 0,.int .i64 0] 50)).alloc (.cells #[.slice none 0 0] 114)):=(((Below.refl _ _).alloc (Nat.le_refl _) _).alloc (by simp) _).alloc (by simp;omega) _
 have hB1:=hB0.alloc hB0.size (.cells #[.int .i64 0,.int .i64 0] 50)
 go_enter Tryz.func106,Tryz.ntmps106
 go_wp2_with fail
 refine (caught_any 176 _ _ (fun w1=>∃l v,dec s=.ok l/\l.length<=s.size/\w1.cell? ⟨w.heap.size+2,0,none⟩=some v/\w1.ownsRow (w.heap.size+4) 199 4 v l.length (cellsOf l)/\Below w.heap.size w w1/\
  (∃x y,w1.cell? ⟨w.heap.size+1,0,none⟩=some x/\w1.cell? ⟨w.heap.size+1,1,none⟩=some y)/\(∀j,w1.frozen? ⟨w.heap.size+1,j,none⟩=false)/\w.heap.size+4<=w1.heap.size)
  (fun e p w1=>dec s=.error (e,p)/\w1.cell? ⟨w.heap.size+2,0,none⟩=some (.slice none 0 0)/\Below w.heap.size w w1/\
  (∃x y,w1.cell? ⟨w.heap.size+1,0,none⟩=some x/\w1.cell? ⟨w.heap.size+1,1,none⟩=some y)/\(∀j,w1.frozen? ⟨w.heap.size+1,j,none⟩=false)/\w.heap.size+4<=w1.heap.size) (callMade1 _) ?hc).mono ?_
 case hc=>
  refine (made1_any _ s w.heap.size (w.heap.size+2) Ps (.slice none 0 0) (hT.below hB1) hs (by simp [go_sem]) ((hB1.cell (p:=⟨Ps,0,none⟩) hP).trans hps) (by simp [go_sem]) (by simp [go_sem])).mono ?_
  rintro r w1 (⟨rfl,l,v,hd,hl,hc,ho,hg⟩ | ⟨e,p,rfl,hd,hb⟩)
  ·
   obtain ⟨a1,a2,a3,a4,a5,a6⟩:=afterMade w w1 _ hg
   refine ⟨by simpa using a1,Or.inl ⟨rfl,l,v,hd,hl,hc,?_,a2,⟨.int .i64 0,.int .i64 0,a3,a4⟩,a5,a6⟩⟩
   exact own_lower ho (by simp)
  have hg2:World.grownBy _ w1 (some (w.heap.size+2)):=⟨hb.os,hb.tape,hb.output,hb.size,fun k hk _=>hb.block k hk⟩
  obtain ⟨a1,a2,a3,a4,a5,a6⟩:=afterMade w w1 _ hg2
  refine ⟨by simpa using a1,Or.inr ⟨e,p,rfl,hd,?_,a2,⟨.int .i64 0,.int .i64 0,a3,a4⟩,a5,a6⟩⟩
  exact (hb.cell (p:=⟨w.heap.size+2,0,none⟩) (by simp)).trans (by simp [go_sem])
 rintro r w2 ⟨w1,hg,hr⟩
 have hz:(((w.alloc (.cells #[.func (.func 107) #[] #[.pointer (some ⟨Ps,0,none⟩)]] 187)).alloc (.cells #[.int .i64 0,.int .i64 0] 50)).alloc (.cells #[.slice none 0 0] 114)).heap.size=w.heap.size+3:=by simp
 rw [hz]at hg
 clear hB0 hB1 hz
 rcases hr with ⟨rfl,l,v,hd,hl,hc,ho,hB,⟨x,y,hx,hy⟩,hfz,hsz⟩ | ⟨e,p,rfl,hd,hc,hB,⟨x,y,hx,hy⟩,hfz,hsz⟩
 ·
  have c4:w2.cell? ⟨w.heap.size+1+1,0,none⟩=some v:=hg.cell hc (by simp)
  have c30:w2.cell? ⟨w.heap.size+1,0,none⟩=some x:=hg.cell hx (by simp)
  have c31:w2.cell? ⟨w.heap.size+1,1,none⟩=some y:=hg.cell hy (by simp)
  have z3:∀j,w2.frozen? ⟨w.heap.size+1,j,none⟩=false:=fun j=>(World.frozen?_of_block (a:=⟨w.heap.size+1,j,none⟩) (hg.block (w.heap.size+1) (by omega) (by simp))).trans (hfz j)
  have hsz2:w.heap.size+4<=w2.heap.size:=Nat.le_trans hsz hg.size
  have hlt1:w.heap.size+1<w2.heap.size:=by omega
  have hlt2:w.heap.size+1+1<w2.heap.size:=by omega
  have HD:=mkHid hd
  have hB2:Below w.heap.size w w2:=below_of_grown hB hg (by omega)
  have ho2:w2.ownsRow w.heap.size 199 4 v l.length (cellsOf l):=own_lower (ho.kept hg (own_ne ho (by omega))) (by omega)
  have HO:=mkHid ho2
  have HO4:=mkHid ho
  have ho3:=ho2.2
  clear hd hc hx hy hfz hg hB ho ho2
  rcases ho3 with ⟨rfl,hn⟩ | ⟨g,cap,cur,rfl,hrest⟩
  all_goals
   try clear hrest
   go_wp2_with fail
   go_region
   all_goals
    go_wp2
    obtain ⟨hg,q0,q1⟩:=fault_world w2 (w.heap.size+1) 0 0 (.cells #[.int .i64 0,.int .i64 0] 50) c30 c31
    have hB3:=below_of_grown hB2 hg (by omega)
    have ho3:=World.ownsRow.kept HO.out hg (own_ne HO4.out (by omega))
    generalize ((w2.setCell ⟨w.heap.size+1,0,none⟩ (.int .i64 0)).setCell ⟨w.heap.size+1,1,none⟩ (.int .i64 0)).alloc (.cells #[.int .i64 0,.int .i64 0] 50)=W3 at*
    exact bodyPost_ret (v:=.tuple #[_,.agg #[.int .i64 0,.int .i64 0]]) (by simp [results,Tryz.results106,go_sem,q0,q1]) rfl ⟨hB3.drew,Or.inl ⟨l,_,HD.out,hl,rfl,ho3⟩⟩
 have c4:w2.cell? ⟨w.heap.size+1+1,0,none⟩=some (.slice none 0 0):=hg.cell hc (by simp)
 have c30:w2.cell? ⟨w.heap.size+1,0,none⟩=some x:=hg.cell hx (by simp)
 have c31:w2.cell? ⟨w.heap.size+1,1,none⟩=some y:=hg.cell hy (by simp)
 have z3:∀j,w2.frozen? ⟨w.heap.size+1,j,none⟩=false:=fun j=>(World.frozen?_of_block (a:=⟨w.heap.size+1,j,none⟩) (hg.block (w.heap.size+1) (by omega) (by simp))).trans (hfz j)
 have hsz2:w.heap.size+4<=w2.heap.size:=Nat.le_trans hsz hg.size
 have hlt1:w.heap.size+1<w2.heap.size:=by omega
 have hlt2:w.heap.size+1+1<w2.heap.size:=by omega
 have HD:=mkHid hd
 have hB2:Below w.heap.size w w2:=below_of_grown hB hg (by omega)
 clear hd hc hx hy hfz hg hB
 go_wp2_with fail
 go_region
 all_goals
  go_wp2
  obtain ⟨hg,q0,q1⟩:=fault_world w2 (w.heap.size+1) e p (.cells #[.int .i64 e,.int .i64 p] 50) c30 c31
  have hB3:=below_of_grown hB2 hg (by omega)
  generalize ((w2.setCell ⟨w.heap.size+1,0,none⟩ (.int .i64 e)).setCell ⟨w.heap.size+1,1,none⟩ (.int .i64 p)).alloc (.cells #[.int .i64 e,.int .i64 p] 50)=W3 at*
  exact bodyPost_ret (v:=.tuple #[.slice none 0 0,.agg #[.int .i64 e,.int .i64 p]]) (by simp [results,Tryz.results106,go_sem,q0,q1]) rfl ⟨hB3.drew,Or.inr ⟨e,p,HD.out,rfl⟩⟩
def full (s:ByteArray):Except (Int×Int) (List Op4):=if 200<s.size then .error (2,0) else if s.size=0 then .error (1,0) else dec s
theorem fault_set (w1:World) (N:Nat) (e p:Int) {x y:Value} (n0:w1.cell? ⟨N,0,none⟩=some x) (n1:w1.cell? ⟨N,1,none⟩=some y):
 w1.grownBy ((w1.setCell ⟨N,0,none⟩ (.int .i64 e)).setCell ⟨N,1,none⟩ (.int .i64 p)) (some N)/\
 ((w1.setCell ⟨N,0,none⟩ (.int .i64 e)).setCell ⟨N,1,none⟩ (.int .i64 p)).cell? ⟨N,0,none⟩=some (.int .i64 e)/\
 ((w1.setCell ⟨N,0,none⟩ (.int .i64 e)).setCell ⟨N,1,none⟩ (.int .i64 p)).cell? ⟨N,1,none⟩=some (.int .i64 p):=by
 refine ⟨?_,?_,?_⟩
 ·
  refine grown_set ?_ _ _ (Or.inl rfl)
  refine grown_set ?_ _ _ (Or.inl rfl)
  exact World.grownBy.refl _ _
 ·
  rw [World.cell?_setCell_other _ _ _ _ (by simp),World.cell?_setCell_same _ _ _ n0]
 exact World.cell?_setCell_same _ _ _ ((World.cell?_setCell_other _ _ _ _ (by simp)).trans n1)
set_option maxHeartbeats 1000000 in
theorem Decode_any (w:World) (s:ByteArray) (hT:Tabs w) (hs:s.size<=maxLen):
 Calls Tryz.prog 67 #[.string s] w fun r w'=>Below w.heap.size w w'/\
  ((∃l v,full s=.ok l/\l.length<=200/\r=.returned (.tuple #[v,.agg #[.int .i64 0,.int .i64 0]])/\w'.ownsRow w.heap.size 199 4 v l.length (cellsOf l))\/
   (∃e p,full s=.error (e,p)/\r=.returned (.tuple #[.slice none 0 0,.agg #[.int .i64 e,.int .i64 p]]))):=by
 have hmf:∀(fn:Fn) (first cap:Array Value) (w:World),(Instr.makeFunc fn first cap).run Tryz.prog w=.ok (.func fn first cap) w:=fun _ _ _ _=>rfl
 have hs':=hs
 unfold maxLen at hs'
 have hB0:Below w.heap.size w ((w.alloc (.cells #[.string s] 9)).alloc (.cells #[.int .i64 0,.int .i64 0] 50)):=((Below.refl _ _).alloc (Nat.le_refl _) _).alloc (by simp) _
 by_cases h1:200<s.size
 ·
  have hf:Hid (full s=.error (2,0)):=by show full s=_;simp [full,h1]
  have h1':(200:Int)<s.size:=by omega
  go_enter Tryz.func67,Tryz.ntmps67
  go_wp2
  refine bodyPost_ret (v:=.tuple #[.slice none 0 0,.agg #[.int .i64 2,.int .i64 0]]) (by simp [results,Tryz.results67,go_sem]) rfl ⟨?_,Or.inr ⟨_,_,hf.out,rfl⟩⟩
  exact ((Below.refl _ _).alloc (Nat.le_refl _) _).alloc (by simp) _
 by_cases h2:s.size=0
 ·
  have hf:Hid (full s=.error (1,0)):=by show full s=_;simp [full,h2]
  have h2':((s.size:Int)==0)=true:=beq_iff_eq.2 (by omega)
  have h1':¬(200:Int)<s.size:=by omega
  clear h2
  go_enter Tryz.func67,Tryz.ntmps67
  go_wp2
  refine bodyPost_ret (v:=.tuple #[.slice none 0 0,.agg #[.int .i64 1,.int .i64 0]]) (by simp [results,Tryz.results67,go_sem]) rfl ⟨?_,Or.inr ⟨_,_,hf.out,rfl⟩⟩
  exact ((Below.refl _ _).alloc (Nat.le_refl _) _).alloc (by simp) _
 have HF:Hid (full s=dec s):=by show full s=_;simp only [full,h1,h2,if_false]
 have h2':((s.size:Int)==0)=false:=beq_eq_false_iff_ne.2 (by omega)
 have h1':¬(200:Int)<s.size:=by omega
 clear h2
 go_enter Tryz.func67,Tryz.ntmps67
 go_wp2_with fail
 refine (Made_any _ s w.heap.size (hT.below hB0) (by omega) (by simp [go_sem])).mono ?_
 rintro r w1 ⟨hb,hr⟩
 have c0:w1.cell? ⟨w.heap.size+1,0,none⟩=some (.int .i64 0):=(hb.cell (p:=⟨w.heap.size+1,0,none⟩) (by simp)).trans (by simp [go_sem])
 have c1:w1.cell? ⟨w.heap.size+1,1,none⟩=some (.int .i64 0):=(hb.cell (p:=⟨w.heap.size+1,1,none⟩) (by simp)).trans (by simp [go_sem])
 have z0:w1.frozen? ⟨w.heap.size+1,0,none⟩=false:=(hb.frozen (p:=⟨w.heap.size+1,0,none⟩) (by simp)).trans (by simp [go_sem])
 have z1:w1.frozen? ⟨w.heap.size+1,1,none⟩=false:=(hb.frozen (p:=⟨w.heap.size+1,1,none⟩) (by simp)).trans (by simp [go_sem])
 have hsz:w.heap.size+1<w1.heap.size:=World.block_lt_of_cell? w1 _ c0
 have hB:Below w.heap.size w w1:=hB0.trans (hb.mono (by simp;omega))
 rcases hr with ⟨l,v,hd,hl,rfl,ho⟩ | ⟨e,p,hd,rfl⟩
 ·
  obtain ⟨hg,q0,q1⟩:=fault_set w1 (w.heap.size+1) 0 0 c0 c1
  have HD:=mkHid hd
  have HO:=mkHid (own_lower (ho.kept hg (own_ne ho (by simp))) (B':=w.heap.size) (by simp;omega))
  have HB:=mkHid (below_of_grown hB hg (by omega))
  have HQ:=mkHid (And.intro q0 q1)
  have ho3:=ho.2
  clear hd hb hB hg ho q0 q1 hB0
  rcases ho3 with ⟨rfl,hn⟩ | ⟨g,cap,cur,rfl,hrest⟩
  all_goals
   try clear hrest
   go_wp2
   obtain ⟨q0,q1⟩:=HQ.out
   refine bodyPost_ret (v:=.tuple #[_,.agg #[.int .i64 0,.int .i64 0]]) (by simp [results,Tryz.results67,go_sem,q0,q1]) rfl ⟨HB.out,Or.inl ⟨l,_,HF.out.trans HD.out,by omega,rfl,HO.out⟩⟩
 obtain ⟨hg,q0,q1⟩:=fault_set w1 (w.heap.size+1) e p c0 c1
 have HD:=mkHid hd
 have HB:=mkHid (below_of_grown hB hg (by omega))
 have HQ:=mkHid (And.intro q0 q1)
 clear hd hb hB hg q0 q1 hB0
 go_wp2
 obtain ⟨q0,q1⟩:=HQ.out
 refine bodyPost_ret (v:=.tuple #[.slice none 0 0,.agg #[.int .i64 e,.int .i64 p]]) (by simp [results,Tryz.results67,go_sem,q0,q1]) rfl ⟨HB.out,Or.inr ⟨e,p,HF.out.trans HD.out,rfl⟩⟩
end Go.Proofs.YtcddpmappmjilaaGreatDoor.Cd
