import Derived.Test.YtcddpmappmjilaaGreatDoorJPlainMem
namespace Go.Proofs.YtcddpmappmjilaaGreatDoor
open Go.RowKit
theorem grown_set {w W:World} {b:Nat} (h:w.grownBy W (some b)) (a:Addr) (u:Value) (ha:a.block=b\/w.heap.size<=a.block):w.grownBy (W.setCell a u) (some b):=
 ⟨h.os,h.tape,h.output,by simpa [World.setCell]using h.size,fun k hk hne=>by
  rw [Below.heap_setCell _ _ _ _ (by intro e;subst e;rcases ha with ha | ha;· exact hne (by rw [ha])
                                     ·
                                      omega)]
  exact h.block k hk hne⟩
theorem grown_alloc {w W:World} {b:Nat} (h:w.grownBy W (some b)) (o:Obj):w.grownBy (W.alloc o) (some b):=
 ⟨h.os,h.tape,h.output,Nat.le_trans h.size (by simp),fun k hk hne=>by
  rw [Below.heap_alloc _ _ _ (Nat.lt_of_lt_of_le hk h.size)]
  exact h.block k hk hne⟩
theorem grown_drewN {w W:World} {b:Nat} (h:w.grownBy W (some b)) (n:Nat):w.grownBy (W.drewN n) (some b):=⟨h.os,h.tape,h.output,h.size,h.block⟩
theorem grown_trans {w w1 w2:World} {b:Nat} (h:w.grownBy w1 (some b)) (k:w1.grownBy w2 (some b)):w.grownBy w2 (some b):=
 ⟨k.os.trans h.os,k.tape.trans h.tape,k.output.trans h.output,Nat.le_trans h.size k.size,fun i hi hne=>(k.block i (Nat.lt_of_lt_of_le hi h.size) hne).trans (h.block i hi hne)⟩
theorem grown_drewN_left {w w':World} {b n:Nat} (h:(w.drewN n).grownBy w' (some b)):w.grownBy w' (some b):=⟨h.os,h.tape,h.output,h.size,h.block⟩
theorem grown_own {w w1 w2:World} {b:Nat} {row:Option Nat} (h:w.grownBy w1 (some b)) (k:w1.grownBy w2 row) (hr:∀i,row=some i->w.heap.size<=i):w.grownBy w2 (some b):=
 ⟨k.os.trans h.os,k.tape.trans h.tape,k.output.trans h.output,Nat.le_trans h.size k.size,fun i hi hne=>(k.block i (Nat.lt_of_lt_of_le hi h.size) (fun e=>by have:=hr i e.symm;omega)).trans (h.block i hi hne)⟩
theorem own_drewN {w:World} {B e size n:Nat} {v:Value} {xs:List Value} (h:w.ownsRow B e size v n xs) (q:Nat):(w.drewN q).ownsRow B e size v n xs:=h
theorem own_ne {w:World} {B e size n b:Nat} {v:Value} {xs:List Value} (h:w.ownsRow B e size v n xs) (hb:b<B):v.ownBlock=none\/v.ownBlock≠some b:=by
 right
 intro e
 have:=(h.lt b e).1
 omega
theorem own_below {w w':World} {B:Nat} {e size n:Nat} {v:Value} {xs:List Value} (h:w.ownsRow B e size v n xs) (hb:Below w.heap.size w w'):w'.ownsRow B e size v n xs:=
 h.kept (row:=none) ⟨hb.os,hb.tape,hb.output,hb.size,fun k hk _=>hb.block k hk⟩ (by cases v.ownBlock<;>simp)
theorem below_of_grown {w W w':World} {b:Nat} (h:Below w.heap.size w W) (hg:W.grownBy w' (some b)) (hb:w.heap.size<=b):Below w.heap.size w w':=
 h.grown hg h.size (fun k e=>by cases e;exact hb)
theorem own_lower {w:World} {B B' e size n:Nat} {v:Value} {xs:List Value} (h:w.ownsRow B e size v n xs) (hB:B'<=B):w.ownsRow B' e size v n xs:=by
 refine ⟨h.1,?_⟩
 rcases h.2 with h | ⟨g,cap,cur,h1,h2,h3⟩
 ·
  exact Or.inl h
 exact Or.inr ⟨g,cap,cur,h1,Nat.le_trans hB h2,h3⟩
end Go.Proofs.YtcddpmappmjilaaGreatDoor
