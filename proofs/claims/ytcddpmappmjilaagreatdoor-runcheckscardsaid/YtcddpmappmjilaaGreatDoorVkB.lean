import Derived.Test.YtcddpmappmjilaaGreatDoorJLDifLFld
namespace Go.Proofs.YtcddpmappmjilaaGreatDoor
open Go.RowKit Go.Maps
theorem box_step {w W:World} {s:Nat} (hB:Below w.heap.size w W) (hs:W.heap.size=s) (c:Array Value) (t:Nat):∃W0,W0=W.alloc (.cells c t)/\Below w.heap.size w W0/\W0.heap.size=s+1/\W0.heap[s]? =some (.cells c t (0,0))/\∀(b:Nat) (ob:Obj),W.heap[b]? =some ob->W0.heap[b]? =some ob:=by
 have hb:Below W.heap.size W (W.alloc (.cells c t)):=(Below.refl _ _).alloc (Nat.le_refl _) _
 refine ⟨_,rfl,hB.trans (hb.mono hB.size),by rw [<-hs];simp,by rw [<-hs];exact heap_alloc_new W _,fun b ob e=>(hb.block b ?_).trans e⟩
 rcases Nat.lt_or_ge b W.heap.size with hlt | hge
 ·
  exact hlt
 rw [Array.getElem?_eq_none hge]at e;cases e
theorem boxes1 (w:World) (c0:Array Value) (t0:Nat):∃W0,W0=(w.alloc (.cells c0 t0))/\Below w.heap.size w W0/\W0.heap.size=w.heap.size+1/\W0.heap[w.heap.size]? =some (.cells c0 t0 (0,0)):=by
 obtain ⟨W0,h0,hB0,hs0,k,-⟩:=box_step (Below.refl w.heap.size w) rfl c0 t0
 exact ⟨W0,h0,hB0,hs0,k⟩
theorem boxes2 (w:World) (c0 c1:Array Value) (t0 t1:Nat):∃W0,W0=((w.alloc (.cells c0 t0)).alloc (.cells c1 t1))/\Below w.heap.size w W0/\W0.heap.size=w.heap.size+1+1/\W0.heap[w.heap.size]? =some (.cells c0 t0 (0,0))/\W0.heap[w.heap.size+1]? =some (.cells c1 t1 (0,0)):=by
 obtain ⟨W,hW,hB,hs,k0⟩:=boxes1 w c0 t0
 obtain ⟨W0,h0,hB0,hs0,k,hk⟩:=box_step hB hs c1 t1
 exact ⟨W0,by rw [h0,hW],hB0,hs0,hk _ _ k0,k⟩
theorem boxes3 (w:World) (c0 c1 c2:Array Value) (t0 t1 t2:Nat):∃W0,W0=(((w.alloc (.cells c0 t0)).alloc (.cells c1 t1)).alloc (.cells c2 t2))/\Below w.heap.size w W0/\W0.heap.size=w.heap.size+1+1+1/\W0.heap[w.heap.size]? =some (.cells c0 t0 (0,0))/\W0.heap[w.heap.size+1]? =some (.cells c1 t1 (0,0))/\W0.heap[w.heap.size+1+1]? =some (.cells c2 t2 (0,0)):=by
 obtain ⟨W,hW,hB,hs,k0,k1⟩:=boxes2 w c0 c1 t0 t1
 obtain ⟨W0,h0,hB0,hs0,k,hk⟩:=box_step hB hs c2 t2
 exact ⟨W0,by rw [h0,hW],hB0,hs0,hk _ _ k0,hk _ _ k1,k⟩
theorem boxes4 (w:World) (c0 c1 c2 c3:Array Value) (t0 t1 t2 t3:Nat):∃W0,W0=((((w.alloc (.cells c0 t0)).alloc (.cells c1 t1)).alloc (.cells c2 t2)).alloc (.cells c3 t3))/\Below w.heap.size w W0/\W0.heap.size=w.heap.size+1+1+1+1/\W0.heap[w.heap.size]? =some (.cells c0 t0 (0,0))/\W0.heap[w.heap.size+1]? =some (.cells c1 t1 (0,0))/\W0.heap[w.heap.size+1+1]? =some (.cells c2 t2 (0,0))/\W0.heap[w.heap.size+1+1+1]? =some (.cells c3 t3 (0,0)):=by
 obtain ⟨W,hW,hB,hs,k0,k1,k2⟩:=boxes3 w c0 c1 c2 t0 t1 t2
 obtain ⟨W0,h0,hB0,hs0,k,hk⟩:=box_step hB hs c3 t3
 exact ⟨W0,by rw [h0,hW],hB0,hs0,hk _ _ k0,hk _ _ k1,hk _ _ k2,k⟩
end Go.Proofs.YtcddpmappmjilaaGreatDoor
