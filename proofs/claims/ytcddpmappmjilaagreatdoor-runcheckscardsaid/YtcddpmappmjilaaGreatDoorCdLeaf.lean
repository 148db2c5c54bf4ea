import Derived.Test.YtcddpmappmjilaaGreatDoorChecked
import Derived.Test.YtcddpmappmjilaaGreatDoorCdPlain
import Derived.WalkKit
import Derived.WalkLawsBesides
import Derived.WalkSpells
import Derived.BigQuiet
import Derived.Deep.QuietTactic
import Derived.Defers
import Derived.Recover
import Derived.Test.YtcddpmappmjilaaGreatDoorCdDies
namespace Go.Proofs.YtcddpmappmjilaaGreatDoor.Cd
set_option maxRecDepth 100000
open Go.RowKit
structure Rd (w:World) (b:Nat) (s:ByteArray) (p:Nat):Prop where
 text:w.cell? ⟨b,0,none⟩=some (.string s)
 at_:w.cell? ⟨b,1,none⟩=some (.int .i64 p)
 fz:w.frozen? ⟨b,1,none⟩=false
theorem Rd.lt {w:World} {b:Nat} {s:ByteArray} {p:Nat} (h:Rd w b s p):b<w.heap.size:=World.block_lt_of_cell? w _ h.text
theorem Rd.alloc {w:World} {b:Nat} {s:ByteArray} {p:Nat} (h:Rd w b s p) (o:Obj):Rd (w.alloc o) b s p:=
 ⟨(World.cell?_alloc_past (w:=w) o b 0 h.lt).trans h.text,(World.cell?_alloc_past (w:=w) o b 1 h.lt).trans h.at_,(World.frozen?_alloc_past (w:=w) o b 1 h.lt).trans h.fz⟩
theorem Rd.drewN {w:World} {b:Nat} {s:ByteArray} {p:Nat} (h:Rd w b s p) (n:Nat):Rd (w.drewN n) b s p:=⟨h.text,h.at_,h.fz⟩
theorem Rd.setOther {w:World} {b:Nat} {s:ByteArray} {p:Nat} (h:Rd w b s p) (a:Addr) (u:Value) (ha:a.block≠b):Rd (w.setCell a u) b s p:=
 ⟨(World.cell?_setCell_other w _ _ _ (by intro e;exact ha (by rw [e]))).trans h.text,(World.cell?_setCell_other w _ _ _ (by intro e;exact ha (by rw [e]))).trans h.at_,by rw [World.frozen?_setCell];exact h.fz⟩
theorem Rd.setAt {w:World} {b:Nat} {s:ByteArray} {p:Nat} (h:Rd w b s p) (p':Nat):Rd (w.setCell ⟨b,1,none⟩ (.int .i64 p')) b s p':=
 ⟨(World.cell?_setCell_other w _ _ _ (by simp)).trans h.text,World.cell?_setCell_same w _ _ h.at_,by rw [World.frozen?_setCell];exact h.fz⟩
theorem Rd.setAt' {w:World} {b:Nat} {s:ByteArray} {p:Nat} (h:Rd w b s p) (p':Nat) (x:Int) (hx:x=(p':Int)):Rd (w.setCell ⟨b,1,none⟩ (.int .i64 x)) b s p':=by
 subst hx
 exact h.setAt p'
theorem left_any (w:World) (b:Nat) (s:ByteArray) (p:Nat) (h:Rd w b s p) (hp:p<=s.size) (hs:s.size<=maxLen):
 Calls Tryz.prog 251 #[.pointer (some ⟨b,0,none⟩)] w fun e w'=>e=.returned (.int .i64 ((s.size:Int) - p))/\∃n,w'=w.drewN n:=by
 obtain ⟨h1,h2,h3⟩:=h
 unfold maxLen at hs
 go_enter Tryz.func251,Tryz.ntmps251
 go_wp2
 go_quiet (fail)
 go_wp2
 go_ret
 exact ⟨rfl,_,rfl⟩
theorem at_any (w:World) (b:Nat) (s:ByteArray) (p:Nat) (h:Rd w b s p):
 Calls Tryz.prog 252 #[.pointer (some ⟨b,0,none⟩)] w fun e w'=>e=.returned (.int .i64 p)/\w'=w:=by
 obtain ⟨h1,h2,h3⟩:=h
 go_enter Tryz.func252,Tryz.ntmps252
 go_wp2
 go_ret
 exact ⟨rfl,rfl⟩
abbrev wrongV (e p:Int):PanicEntry:={ v:=.iface 87 (.agg #[.int .i64 e,.int .i64 p]),recovered:=false }
theorem isOp_any (w:World) (n:Int):
 Calls Tryz.prog 254 #[.int .i64 n] w fun r w'=>r=.returned (.bool (decide (0<=n/\n<37)))/\w'=w:=by
 by_cases h0:0<=n
 ·
  by_cases h1:n<37
  ·
   go_enter Tryz.func254,Tryz.ntmps254
   go_wp2
   go_ret
   simp [h0,h1]
  go_enter Tryz.func254,Tryz.ntmps254
  go_wp2
  go_ret
  simp [h1]
 go_enter Tryz.func254,Tryz.ntmps254
 go_wp2
 go_ret
 simp;omega
theorem demand_ok (w:World) (e p:Int):
 Calls Tryz.prog 42 #[.bool true,.int .i64 e,.int .i64 p] w fun r w'=>r=.returned (.tuple #[])/\w'=w:=by
 go_enter Tryz.func42,Tryz.ntmps42
 go_wp2
 go_end0
 exact ⟨rfl,rfl⟩
theorem demand_no (w:World) (e p:Int):
 Calls Tryz.prog 42 #[.bool false,.int .i64 e,.int .i64 p] w fun r w'=>r=.panicked [wrongV e p]/\w'=w:=by
 go_enter Tryz.func42,Tryz.ntmps42
 go_wp2
 exact ⟨rfl,rfl,rfl⟩
theorem demand_yes (t:Bool) (ht:t=true) (w:World) (e p:Int):
 Calls Tryz.prog 42 #[.bool t,.int .i64 e,.int .i64 p] w fun r w'=>r=.returned (.tuple #[])/\w'=w:=by
 subst ht
 exact demand_ok w e p
theorem demand_not (t:Bool) (ht:t=false) (w:World) (e p:Int):
 Calls Tryz.prog 42 #[.bool t,.int .i64 e,.int .i64 p] w fun r w'=>r=.panicked [wrongV e p]/\w'=w:=by
 subst ht
 exact demand_no w e p
set_option maxHeartbeats 1000000 in
theorem take_no (w:World) (b:Nat) (s:ByteArray) (p:Nat) (n:Int) (h:Rd w b s p) (hp:p<=s.size) (hs:s.size<=maxLen) (hn:(s.size:Int) - p<n):
 Calls Tryz.prog 317 #[.pointer (some ⟨b,0,none⟩),.int .i64 n] w fun r w'=>r=.panicked [wrongV 1 p]/\∃q,w'=w.drewN q:=by
 have h':=h
 obtain ⟨h1,h2,h3⟩:=h
 have hn':¬n<=(s.size:Int) - p:=by omega
 clear hn
 go_enter Tryz.func317,Tryz.ntmps317
 go_wp2_with fail
 refine wp_region_dies_lit (fun chain w'=>chain= [wrongV 1 p]/\∃q,w'=w.drewN q) (by kernel_rfl) (by kernel_rfl) rfl (by simp only [List.dropLast];rfl) ?_ ?_
 ·
  rintro chain a' w' hd ⟨rfl,hg⟩
  exact ⟨hd,rfl,hg⟩
 repeat (go_big_quiet_step ((go_at_call 251;exact Calls.quiet_of (left_any _ b s p (h'.drewN _) hp hs))))
 refine wpQuiet_nil ?_
 refine ⟨rfl,?_⟩
 rintro w' ⟨n,rfl⟩
 go_simp
 refine ⟨rfl,(demand_not _ (by first | rfl | (simp;omega)) _ _ _).mono ?_⟩
 rintro e w' ⟨rfl,rfl⟩
 exact ⟨_,rfl,rfl,_,rfl⟩
set_option maxHeartbeats 1000000 in
theorem take_ok (w:World) (b:Nat) (s:ByteArray) (p n:Nat) (h:Rd w b s p) (hs:s.size<=maxLen) (hn:p+n<=s.size):
 Calls Tryz.prog 317 #[.pointer (some ⟨b,0,none⟩),.int .i64 n] w fun r w'=>r=.returned (.string (s.extract p (p+n)))/\∃q,w'=(w.setCell ⟨b,1,none⟩ (.int .i64 (p+n:Nat))).drewN q:=by
 have h':=h
 obtain ⟨h1,h2,h3⟩:=h
 have hs':=hs
 unfold maxLen at hs'
 have hn':(n:Int)<=(s.size:Int) - p:=by omega
 have hb0:(0:Int)<=p:=by omega
 have hb1:(p:Int)<=p+n:=by omega
 have hb2:(p:Int)+n<=s.size:=by omega
 have hp:p<=s.size:=by omega
 go_enter Tryz.func317,Tryz.ntmps317
 go_wp2_with fail
 go_quiet (first | (go_at_call 251;exact Calls.quiet_of (left_any _ b s p (h'.drewN _) hp hs)) | (go_at_call 42;exact Calls.quiet_of_same (demand_yes _ (by first | rfl | (simp;omega)) _ _ _)))
 rename Nat=>n1
 go_wp2
 go_quiet (fail)
 go_wp2
 go_ret
 refine ⟨rfl,n1+nq,?_⟩
 rw [<-World.drewN_drewN]
 rfl
theorem count_ok (w:World) (b:Nat) (s:ByteArray) (p:Nat) (h:Rd w b s p) (hs:s.size<=maxLen) (hp:p<s.size):
 Calls Tryz.prog 253 #[.pointer (some ⟨b,0,none⟩)] w fun r w'=>r=.returned (.int .i64 (bt s p))/\∃q,w'=(w.setCell ⟨b,1,none⟩ (.int .i64 (p+1:Nat))).drewN q:=by
 go_enter Tryz.func253,Tryz.ntmps253
 go_wp2_with fail
 refine (take_ok _ b s p 1 h hs (by omega)).mono ?_
 rintro r w' ⟨rfl,q,rfl⟩
 have hz:(s.extract p (p+1)).size=1:=by simp;omega
 go_wp2
 go_ret
 refine ⟨?_,q,?_⟩
 ·
  have e:=ext_get s p 1 0 (by omega) (by omega)
  show Ending.returned (.int .i64 (wrap64 ((s.extract p (p+1))[0].toNat:Int)))=_
  rw [e,byte_w,bt_eq s p hp]
  rfl
 simp
theorem number_ok (w:World) (b:Nat) (s:ByteArray) (p:Nat) (h:Rd w b s p) (hs:s.size<=maxLen) (hp:p+2<=s.size):
 Calls Tryz.prog 255 #[.pointer (some ⟨b,0,none⟩)] w fun r w'=>r=.returned (.int .i64 (256*bt s p+bt s (p+1)))/\∃q,w'=(w.setCell ⟨b,1,none⟩ (.int .i64 (p+2:Nat))).drewN q:=by
 go_enter Tryz.func255,Tryz.ntmps255
 go_wp2_with fail
 refine (take_ok _ b s p 2 h hs (by omega)).mono ?_
 rintro r w' ⟨rfl,q,rfl⟩
 have hz:(s.extract p (p+2)).size=2:=by simp;omega
 go_wp2
 go_quiet (fail)
 go_wp2
 go_ret
 refine ⟨?_,q+nq,?_⟩
 ·
  have e0:=ext_get s p 2 0 (by omega) (by omega)
  have e1:=ext_get s p 2 1 (by omega) (by omega)
  show Ending.returned (.int .i64 (bits BinOp.or IntKind.i64 (wrap64 (wrap64 ((s.extract p (p+2))[0].toNat:Int)*256)) (wrap64 ((s.extract p (p+2))[1].toNat:Int))))=_
  rw [e0,e1,byte_w,byte_w,byte_w8,or_i64 _ _ (UInt8.toNat_lt _) (UInt8.toNat_lt _),bt_eq s p (by omega),bt_eq s (p+1) (by omega)]
  rfl
 simp
theorem newReader_any (w:World) (s:ByteArray):
 Calls Tryz.prog 177 #[.string s] w fun r w'=>r=.returned (.agg #[.string s,.int .i64 0])/\w'=w.alloc (.cells #[.string s,.int .i64 0] 241):=by
 go_enter Tryz.func177,Tryz.ntmps177
 go_wp2
 exact bodyPost_ret (v:=.agg #[.string s,.int .i64 0]) (by simp [results,Tryz.results177,go_sem]) rfl ⟨rfl,rfl⟩
end Go.Proofs.YtcddpmappmjilaaGreatDoor.Cd
