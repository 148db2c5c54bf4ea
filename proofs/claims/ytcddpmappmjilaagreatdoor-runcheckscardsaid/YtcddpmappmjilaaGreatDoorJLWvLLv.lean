import Derived.Test.YtcddpmappmjilaaGreatDoorLNam
import Derived.Test.YtcddpmappmjilaaGreatDoorJLSetSpo
import Derived.Deep.RegionLaw
import Derived.Deep.DeepCutAuto
import Derived.Test.YtcddpmappmjilaaGreatDoorJLMkArgL
namespace Go.Proofs.YtcddpmappmjilaaGreatDoor
open Go.RowKit Go.Sort
theorem RSl.stp {α:Type} {n:Nat} {R:(Nat->Prop)->World->List Value->α->Prop} {B:Nat} {T:List Nat} {w w':World} {cs:List Value} {x:List α} (h:RSl n R (MT B T w) w cs x) (hs:Stp B T w w') (hR:∀M M' w w' cs x,R M w cs x->R M' w' cs x):RSl n R (MT B T w') w' cs x:=by
 obtain ⟨v,e,h⟩:=h
 exact ⟨v,e,(h.kept hs.kp fun _ _ h=>hR _ _ _ _ _ _ h).mono (fun _ hk=>hk.step hs) fun _ _ h=>hR _ _ _ _ _ _ h⟩
theorem own_belowW {w w':World} {B:Nat} {e size n:Nat} {v:Value} {xs:List Value} (h:w.ownsRow B e size v n xs) (hb:Below w.heap.size w w'):w'.ownsRow B e size v n xs:=
 h.kept (row:=none) ⟨hb.os,hb.tape,hb.output,hb.size,fun k hk _=>hb.block k hk⟩ (by cases v.ownBlock<;>simp)
structure Wv (w0 W:World) (l:List ClassD) (vC vS vF vN vT vL:Value) (zF:List (List Value×List FieldD)) (zN:List (List Value×List ByteArray)) (zT:List (List Value×List TargD)) (zL:List (List Value×List Nat)):Prop where
 below:Below w0.heap.size w0 W
 blk:W.heap[w0.heap.size+1]? =some (.cells #[vC,vS,vF,vN,vT,.map (some w0.heap.size),vL] 107 (0,0))
 sS:SL 1 RI (MT w0.heap.size [3] W) W vS ((List.range l.length).map (supAt l))
 nm:NumMap W w0.heap.size l
 oF:W.ownsRow (w0.heap.size+2) 54 1 vF zF.length (zF.flatMap (·.1))
 aF:∀z∈zF,z.1.length=1/\RSl 3 RF (MT w0.heap.size [85] W) W z.1 z.2
 oN:W.ownsRow (w0.heap.size+2) 56 1 vN zN.length (zN.flatMap (·.1))
 aN:∀z∈zN,z.1.length=1/\RSl 1 RS (MT w0.heap.size [9] W) W z.1 z.2
 oT:W.ownsRow (w0.heap.size+2) 57 1 vT zT.length (zT.flatMap (·.1))
 aT:∀z∈zT,z.1.length=1/\RSl 2 RT (MT w0.heap.size [67] W) W z.1 z.2
 oL:W.ownsRow (w0.heap.size+2) 23 1 vL zL.length (zL.flatMap (·.1))
 aL:∀z∈zL,z.1.length=1/\RSl 1 RO (MT w0.heap.size [3] W) W z.1 z.2
theorem Wv.lt {w0 W:World} {l:List ClassD} {vC vS vF vN vT vL:Value} {zF:List (List Value×List FieldD)} {zN:List (List Value×List ByteArray)} {zT:List (List Value×List TargD)} {zL:List (List Value×List Nat)} (h:Wv w0 W l vC vS vF vN vT vL zF zN zT zL):w0.heap.size+1<W.heap.size:=lt_of h.blk
theorem Wv.grow {w0 W:World} {l:List ClassD} {vC vS vF vN vT vL:Value} {zF:List (List Value×List FieldD)} {zN:List (List Value×List ByteArray)} {zT:List (List Value×List TargD)} {zL:List (List Value×List Nat)} {W':World} (h:Wv w0 W l vC vS vF vN vT vL zF zN zT zL) (hb:Below W.heap.size W W'):Wv w0 W' l vC vS vF vN vT vL zF zN zT zL:=
 ⟨h.below.trans (hb.mono h.below.size),(hb.block _ h.lt).trans h.blk,(h.sS.keptI (Stp.below hb).kp).monoI fun _ hk=>hk.step (Stp.below hb),h.nm.below hb h.nm.lt,
  own_belowW h.oF hb,(fun z hz=>⟨(h.aF z hz).1,(h.aF z hz).2.stp (Stp.below hb) fun _ _ _ _ _ _ h=>h⟩),own_belowW h.oN hb,(fun z hz=>⟨(h.aN z hz).1,(h.aN z hz).2.stp (Stp.below hb) fun _ _ _ _ _ _ h=>h⟩),own_belowW h.oT hb,(fun z hz=>⟨(h.aT z hz).1,(h.aT z hz).2.stp (Stp.below hb) fun _ _ _ _ _ _ h=>h⟩),own_belowW h.oL hb,(fun z hz=>⟨(h.aL z hz).1,(h.aL z hz).2.stp (Stp.below hb) fun _ _ _ _ _ _ h=>h⟩)⟩
theorem Wv.cell {w0 W:World} {l:List ClassD} {vC vS vF vN vT vL:Value} {zF:List (List Value×List FieldD)} {zN:List (List Value×List ByteArray)} {zT:List (List Value×List TargD)} {zL:List (List Value×List Nat)} (h:Wv w0 W l vC vS vF vN vT vL zF zN zT zL) (j:Nat) {x:Value} (hx:(#[vC,vS,vF,vN,vT,.map (some w0.heap.size),vL]:Array Value)[j]? =some x):W.cell? ⟨w0.heap.size+1,j,none⟩=some x:=cell_of h.blk j hx
set_option maxHeartbeats 1000000 in
theorem Wv.addF {w0 W:World} {l:List ClassD} {vC vS vF vN vT vL:Value} {zF:List (List Value×List FieldD)} {zN:List (List Value×List ByteArray)} {zT:List (List Value×List TargD)} {zL:List (List Value×List Nat)} (h:Wv w0 W l vC vS vF vN vT vL zF zN zT zL) {u:Value} {x:List FieldD} (hu:SL 3 RF (MT w0.heap.size [85] W) W u x) {w1:World} {v':Value}
 (ho:w1.ownsRow (w0.heap.size+2) 54 1 v' (zF.length+1) (zF.flatMap (·.1)++ [u])) (hg:(W.alloc (.cells #[u] 54)).grownBy w1 vF.ownBlock):
 Wv w0 (w1.setCell ⟨w0.heap.size+1,2,none⟩ v') l vC vS v' vN vT vL (zF++ [([u],x)]) zN zT zL:=by
 have hlt:=h.lt
 have hrb:∀q,vF.ownBlock=some q->w0.heap.size+2<=q/\q<W.heap.size:=fun q e=>h.oF.lt q e
 have hb1:w1.heap[w0.heap.size+1]? =some (.cells #[vC,vS,vF,vN,vT,.map (some w0.heap.size),vL] 107 (0,0)):=by
  rw [hg.block (w0.heap.size+1) (by simp;omega) (fun e=>by have:=(hrb _ e.symm).1;omega),Below.heap_alloc _ _ _ hlt]
  exact h.blk
 have hst:∀t,t∉ [54,107]->Stp w0.heap.size [t] W (w1.setCell ⟨w0.heap.size+1,2,none⟩ v'):=fun t ht=>
  (((Stp.refl _ _ _).alloc _).trans (Stp.row hg (h.oF.alloc _) (fun e=>ht (by simp at e;simp [e])))).trans (Stp.set hb1 (fun e=>ht (by simp at e;simp [<-e])) 2 v')
 have hB1:Below w0.heap.size w0 w1:=(h.below.alloc h.below.size _).grown hg (by have:=h.below.size;simp;omega) (fun q e=>by have:=(hrb q e).1;omega)
 refine ⟨hB1.setCell (by simp) _,heap_set hb1 v',?_,?_,?_,?_,?_,?_,?_,?_,?_,?_⟩
 ·
  exact (h.sS.keptI (hst _ (by decide)).kp).monoI fun _ hk=>hk.step (hst _ (by decide))
 ·
  have hn1:=(h.nm.kept (row:=none) (World.grownBy_alloc W _ _) (by simp)).kept hg (fun e=>by have:=(hrb _ e.symm).1;omega)
  exact hn1.kept (row:=some (w0.heap.size+1)) (grown_set (World.grownBy.refl _ _) _ _ (Or.inl rfl)) (by simp)
 ·
  rw [List.length_append,snoc_flat]
  exact ownsRow_setCell_below ho (by simp) _
 ·
  intro z hz
  rcases List.mem_append.1 hz with hz | hz
  ·
   exact ⟨(h.aF z hz).1,(h.aF z hz).2.stp (hst _ (by decide)) fun _ _ _ _ _ _ h=>h⟩
  rw [List.mem_singleton]at hz
  subst hz
  exact ⟨rfl,RSl.stp ⟨u,rfl,hu⟩ (hst _ (by decide)) fun _ _ _ _ _ _ h=>h⟩
 ·
  exact ownsRow_setCell_below ((h.oN.alloc _).kept hg (own_types h.oN h.oF (by decide))) (by simp) _
 ·
  exact fun z hz=>⟨(h.aN z hz).1,(h.aN z hz).2.stp (hst _ (by decide)) fun _ _ _ _ _ _ h=>h⟩
 ·
  exact ownsRow_setCell_below ((h.oT.alloc _).kept hg (own_types h.oT h.oF (by decide))) (by simp) _
 ·
  exact fun z hz=>⟨(h.aT z hz).1,(h.aT z hz).2.stp (hst _ (by decide)) fun _ _ _ _ _ _ h=>h⟩
 ·
  exact ownsRow_setCell_below ((h.oL.alloc _).kept hg (own_types h.oL h.oF (by decide))) (by simp) _
 exact fun z hz=>⟨(h.aL z hz).1,(h.aL z hz).2.stp (hst _ (by decide)) fun _ _ _ _ _ _ h=>h⟩
set_option maxHeartbeats 1000000 in
theorem Wv.addN {w0 W:World} {l:List ClassD} {vC vS vF vN vT vL:Value} {zF:List (List Value×List FieldD)} {zN:List (List Value×List ByteArray)} {zT:List (List Value×List TargD)} {zL:List (List Value×List Nat)} (h:Wv w0 W l vC vS vF vN vT vL zF zN zT zL) {u:Value} {x:List ByteArray} (hu:SL 1 RS (MT w0.heap.size [9] W) W u x) {w1:World} {v':Value}
 (ho:w1.ownsRow (w0.heap.size+2) 56 1 v' (zN.length+1) (zN.flatMap (·.1)++ [u])) (hg:(W.alloc (.cells #[u] 56)).grownBy w1 vN.ownBlock):
 Wv w0 (w1.setCell ⟨w0.heap.size+1,3,none⟩ v') l vC vS vF v' vT vL zF (zN++ [([u],x)]) zT zL:=by
 have hlt:=h.lt
 have hrb:∀q,vN.ownBlock=some q->w0.heap.size+2<=q/\q<W.heap.size:=fun q e=>h.oN.lt q e
 have hb1:w1.heap[w0.heap.size+1]? =some (.cells #[vC,vS,vF,vN,vT,.map (some w0.heap.size),vL] 107 (0,0)):=by
  rw [hg.block (w0.heap.size+1) (by simp;omega) (fun e=>by have:=(hrb _ e.symm).1;omega),Below.heap_alloc _ _ _ hlt]
  exact h.blk
 have hst:∀t,t∉ [56,107]->Stp w0.heap.size [t] W (w1.setCell ⟨w0.heap.size+1,3,none⟩ v'):=fun t ht=>
  (((Stp.refl _ _ _).alloc _).trans (Stp.row hg (h.oN.alloc _) (fun e=>ht (by simp at e;simp [e])))).trans (Stp.set hb1 (fun e=>ht (by simp at e;simp [<-e])) 3 v')
 have hB1:Below w0.heap.size w0 w1:=(h.below.alloc h.below.size _).grown hg (by have:=h.below.size;simp;omega) (fun q e=>by have:=(hrb q e).1;omega)
 refine ⟨hB1.setCell (by simp) _,heap_set hb1 v',?_,?_,?_,?_,?_,?_,?_,?_,?_,?_⟩
 ·
  exact (h.sS.keptI (hst _ (by decide)).kp).monoI fun _ hk=>hk.step (hst _ (by decide))
 ·
  have hn1:=(h.nm.kept (row:=none) (World.grownBy_alloc W _ _) (by simp)).kept hg (fun e=>by have:=(hrb _ e.symm).1;omega)
  exact hn1.kept (row:=some (w0.heap.size+1)) (grown_set (World.grownBy.refl _ _) _ _ (Or.inl rfl)) (by simp)
 ·
  exact ownsRow_setCell_below ((h.oF.alloc _).kept hg (own_types h.oF h.oN (by decide))) (by simp) _
 ·
  exact fun z hz=>⟨(h.aF z hz).1,(h.aF z hz).2.stp (hst _ (by decide)) fun _ _ _ _ _ _ h=>h⟩
 ·
  rw [List.length_append,snoc_flat]
  exact ownsRow_setCell_below ho (by simp) _
 ·
  intro z hz
  rcases List.mem_append.1 hz with hz | hz
  ·
   exact ⟨(h.aN z hz).1,(h.aN z hz).2.stp (hst _ (by decide)) fun _ _ _ _ _ _ h=>h⟩
  rw [List.mem_singleton]at hz
  subst hz
  exact ⟨rfl,RSl.stp ⟨u,rfl,hu⟩ (hst _ (by decide)) fun _ _ _ _ _ _ h=>h⟩
 ·
  exact ownsRow_setCell_below ((h.oT.alloc _).kept hg (own_types h.oT h.oN (by decide))) (by simp) _
 ·
  exact fun z hz=>⟨(h.aT z hz).1,(h.aT z hz).2.stp (hst _ (by decide)) fun _ _ _ _ _ _ h=>h⟩
 ·
  exact ownsRow_setCell_below ((h.oL.alloc _).kept hg (own_types h.oL h.oN (by decide))) (by simp) _
 exact fun z hz=>⟨(h.aL z hz).1,(h.aL z hz).2.stp (hst _ (by decide)) fun _ _ _ _ _ _ h=>h⟩
set_option maxHeartbeats 1000000 in
theorem Wv.addT {w0 W:World} {l:List ClassD} {vC vS vF vN vT vL:Value} {zF:List (List Value×List FieldD)} {zN:List (List Value×List ByteArray)} {zT:List (List Value×List TargD)} {zL:List (List Value×List Nat)} (h:Wv w0 W l vC vS vF vN vT vL zF zN zT zL) {u:Value} {x:List TargD} (hu:SL 2 RT (MT w0.heap.size [67] W) W u x) {w1:World} {v':Value}
 (ho:w1.ownsRow (w0.heap.size+2) 57 1 v' (zT.length+1) (zT.flatMap (·.1)++ [u])) (hg:(W.alloc (.cells #[u] 57)).grownBy w1 vT.ownBlock):
 Wv w0 (w1.setCell ⟨w0.heap.size+1,4,none⟩ v') l vC vS vF vN v' vL zF zN (zT++ [([u],x)]) zL:=by
 have hlt:=h.lt
 have hrb:∀q,vT.ownBlock=some q->w0.heap.size+2<=q/\q<W.heap.size:=fun q e=>h.oT.lt q e
 have hb1:w1.heap[w0.heap.size+1]? =some (.cells #[vC,vS,vF,vN,vT,.map (some w0.heap.size),vL] 107 (0,0)):=by
  rw [hg.block (w0.heap.size+1) (by simp;omega) (fun e=>by have:=(hrb _ e.symm).1;omega),Below.heap_alloc _ _ _ hlt]
  exact h.blk
 have hst:∀t,t∉ [57,107]->Stp w0.heap.size [t] W (w1.setCell ⟨w0.heap.size+1,4,none⟩ v'):=fun t ht=>
  (((Stp.refl _ _ _).alloc _).trans (Stp.row hg (h.oT.alloc _) (fun e=>ht (by simp at e;simp [e])))).trans (Stp.set hb1 (fun e=>ht (by simp at e;simp [<-e])) 4 v')
 have hB1:Below w0.heap.size w0 w1:=(h.below.alloc h.below.size _).grown hg (by have:=h.below.size;simp;omega) (fun q e=>by have:=(hrb q e).1;omega)
 refine ⟨hB1.setCell (by simp) _,heap_set hb1 v',?_,?_,?_,?_,?_,?_,?_,?_,?_,?_⟩
 ·
  exact (h.sS.keptI (hst _ (by decide)).kp).monoI fun _ hk=>hk.step (hst _ (by decide))
 ·
  have hn1:=(h.nm.kept (row:=none) (World.grownBy_alloc W _ _) (by simp)).kept hg (fun e=>by have:=(hrb _ e.symm).1;omega)
  exact hn1.kept (row:=some (w0.heap.size+1)) (grown_set (World.grownBy.refl _ _) _ _ (Or.inl rfl)) (by simp)
 ·
  exact ownsRow_setCell_below ((h.oF.alloc _).kept hg (own_types h.oF h.oT (by decide))) (by simp) _
 ·
  exact fun z hz=>⟨(h.aF z hz).1,(h.aF z hz).2.stp (hst _ (by decide)) fun _ _ _ _ _ _ h=>h⟩
 ·
  exact ownsRow_setCell_below ((h.oN.alloc _).kept hg (own_types h.oN h.oT (by decide))) (by simp) _
 ·
  exact fun z hz=>⟨(h.aN z hz).1,(h.aN z hz).2.stp (hst _ (by decide)) fun _ _ _ _ _ _ h=>h⟩
 ·
  rw [List.length_append,snoc_flat]
  exact ownsRow_setCell_below ho (by simp) _
 ·
  intro z hz
  rcases List.mem_append.1 hz with hz | hz
  ·
   exact ⟨(h.aT z hz).1,(h.aT z hz).2.stp (hst _ (by decide)) fun _ _ _ _ _ _ h=>h⟩
  rw [List.mem_singleton]at hz
  subst hz
  exact ⟨rfl,RSl.stp ⟨u,rfl,hu⟩ (hst _ (by decide)) fun _ _ _ _ _ _ h=>h⟩
 ·
  exact ownsRow_setCell_below ((h.oL.alloc _).kept hg (own_types h.oL h.oT (by decide))) (by simp) _
 exact fun z hz=>⟨(h.aL z hz).1,(h.aL z hz).2.stp (hst _ (by decide)) fun _ _ _ _ _ _ h=>h⟩
set_option maxHeartbeats 1000000 in
theorem Wv.addL {w0 W:World} {l:List ClassD} {vC vS vF vN vT vL:Value} {zF:List (List Value×List FieldD)} {zN:List (List Value×List ByteArray)} {zT:List (List Value×List TargD)} {zL:List (List Value×List Nat)} (h:Wv w0 W l vC vS vF vN vT vL zF zN zT zL) {u:Value} {x:List Nat} (hu:SL 1 RO (MT w0.heap.size [3] W) W u x) {w1:World} {v':Value}
 (ho:w1.ownsRow (w0.heap.size+2) 23 1 v' (zL.length+1) (zL.flatMap (·.1)++ [u])) (hg:(W.alloc (.cells #[u] 23)).grownBy w1 vL.ownBlock):
 Wv w0 (w1.setCell ⟨w0.heap.size+1,6,none⟩ v') l vC vS vF vN vT v' zF zN zT (zL++ [([u],x)]):=by
 have hlt:=h.lt
 have hrb:∀q,vL.ownBlock=some q->w0.heap.size+2<=q/\q<W.heap.size:=fun q e=>h.oL.lt q e
 have hb1:w1.heap[w0.heap.size+1]? =some (.cells #[vC,vS,vF,vN,vT,.map (some w0.heap.size),vL] 107 (0,0)):=by
  rw [hg.block (w0.heap.size+1) (by simp;omega) (fun e=>by have:=(hrb _ e.symm).1;omega),Below.heap_alloc _ _ _ hlt]
  exact h.blk
 have hst:∀t,t∉ [23,107]->Stp w0.heap.size [t] W (w1.setCell ⟨w0.heap.size+1,6,none⟩ v'):=fun t ht=>
  (((Stp.refl _ _ _).alloc _).trans (Stp.row hg (h.oL.alloc _) (fun e=>ht (by simp at e;simp [e])))).trans (Stp.set hb1 (fun e=>ht (by simp at e;simp [<-e])) 6 v')
 have hB1:Below w0.heap.size w0 w1:=(h.below.alloc h.below.size _).grown hg (by have:=h.below.size;simp;omega) (fun q e=>by have:=(hrb q e).1;omega)
 refine ⟨hB1.setCell (by simp) _,heap_set hb1 v',?_,?_,?_,?_,?_,?_,?_,?_,?_,?_⟩
 ·
  exact (h.sS.keptI (hst _ (by decide)).kp).monoI fun _ hk=>hk.step (hst _ (by decide))
 ·
  have hn1:=(h.nm.kept (row:=none) (World.grownBy_alloc W _ _) (by simp)).kept hg (fun e=>by have:=(hrb _ e.symm).1;omega)
  exact hn1.kept (row:=some (w0.heap.size+1)) (grown_set (World.grownBy.refl _ _) _ _ (Or.inl rfl)) (by simp)
 ·
  exact ownsRow_setCell_below ((h.oF.alloc _).kept hg (own_types h.oF h.oL (by decide))) (by simp) _
 ·
  exact fun z hz=>⟨(h.aF z hz).1,(h.aF z hz).2.stp (hst _ (by decide)) fun _ _ _ _ _ _ h=>h⟩
 ·
  exact ownsRow_setCell_below ((h.oN.alloc _).kept hg (own_types h.oN h.oL (by decide))) (by simp) _
 ·
  exact fun z hz=>⟨(h.aN z hz).1,(h.aN z hz).2.stp (hst _ (by decide)) fun _ _ _ _ _ _ h=>h⟩
 ·
  exact ownsRow_setCell_below ((h.oT.alloc _).kept hg (own_types h.oT h.oL (by decide))) (by simp) _
 ·
  exact fun z hz=>⟨(h.aT z hz).1,(h.aT z hz).2.stp (hst _ (by decide)) fun _ _ _ _ _ _ h=>h⟩
 ·
  rw [List.length_append,snoc_flat]
  exact ownsRow_setCell_below ho (by simp) _
 intro z hz
 rcases List.mem_append.1 hz with hz | hz
 ·
  exact ⟨(h.aL z hz).1,(h.aL z hz).2.stp (hst _ (by decide)) fun _ _ _ _ _ _ h=>h⟩
 rw [List.mem_singleton]at hz
 subst hz
 exact ⟨rfl,RSl.stp ⟨u,rfl,hu⟩ (hst _ (by decide)) fun _ _ _ _ _ _ h=>h⟩
theorem Wv.rowsF {w0 W:World} {l:List ClassD} {vC vS vF vN vT vL:Value} {zF:List (List Value×List FieldD)} {zN:List (List Value×List ByteArray)} {zT:List (List Value×List TargD)} {zL:List (List Value×List Nat)} (h:Wv w0 W l vC vS vF vN vT vL zF zN zT zL) (hl:zF.length<=1000):SL 1 (RSl 3 RF) (MT w0.heap.size [85,54] W) W vF (zF.map (·.2)):=
 own_SL (n:=1) (R:=RSl 3 RF) (T:=[85,54]) (own_lower h.oF (B':=w0.heap.size) (by omega)) (fun z hz=>⟨(h.aF z hz).1,by
  obtain ⟨v,e,hs⟩:=(h.aF z hz).2
  exact ⟨v,e,hs.mono (fun _ hk=>hk.more (Nat.le_refl _) (fun _ ht=>by simp at ht;simp [ht])) fun _ _ h=>h⟩⟩) (by simp) (by unfold maxLen;omega)
theorem Wv.rowsN {w0 W:World} {l:List ClassD} {vC vS vF vN vT vL:Value} {zF:List (List Value×List FieldD)} {zN:List (List Value×List ByteArray)} {zT:List (List Value×List TargD)} {zL:List (List Value×List Nat)} (h:Wv w0 W l vC vS vF vN vT vL zF zN zT zL) (hl:zN.length<=1000):SL 1 (RSl 1 RS) (MT w0.heap.size [9,56] W) W vN (zN.map (·.2)):=
 own_SL (n:=1) (R:=RSl 1 RS) (T:=[9,56]) (own_lower h.oN (B':=w0.heap.size) (by omega)) (fun z hz=>⟨(h.aN z hz).1,by
  obtain ⟨v,e,hs⟩:=(h.aN z hz).2
  exact ⟨v,e,hs.mono (fun _ hk=>hk.more (Nat.le_refl _) (fun _ ht=>by simp at ht;simp [ht])) fun _ _ h=>h⟩⟩) (by simp) (by unfold maxLen;omega)
theorem Wv.rowsT {w0 W:World} {l:List ClassD} {vC vS vF vN vT vL:Value} {zF:List (List Value×List FieldD)} {zN:List (List Value×List ByteArray)} {zT:List (List Value×List TargD)} {zL:List (List Value×List Nat)} (h:Wv w0 W l vC vS vF vN vT vL zF zN zT zL) (hl:zT.length<=1000):SL 1 (RSl 2 RT) (MT w0.heap.size [67,57] W) W vT (zT.map (·.2)):=
 own_SL (n:=1) (R:=RSl 2 RT) (T:=[67,57]) (own_lower h.oT (B':=w0.heap.size) (by omega)) (fun z hz=>⟨(h.aT z hz).1,by
  obtain ⟨v,e,hs⟩:=(h.aT z hz).2
  exact ⟨v,e,hs.mono (fun _ hk=>hk.more (Nat.le_refl _) (fun _ ht=>by simp at ht;simp [ht])) fun _ _ h=>h⟩⟩) (by simp) (by unfold maxLen;omega)
theorem Wv.rowsL {w0 W:World} {l:List ClassD} {vC vS vF vN vT vL:Value} {zF:List (List Value×List FieldD)} {zN:List (List Value×List ByteArray)} {zT:List (List Value×List TargD)} {zL:List (List Value×List Nat)} (h:Wv w0 W l vC vS vF vN vT vL zF zN zT zL) (hl:zL.length<=1000):SL 1 (RSl 1 RO) (MT w0.heap.size [3,23] W) W vL (zL.map (·.2)):=
 own_SL (n:=1) (R:=RSl 1 RO) (T:=[3,23]) (own_lower h.oL (B':=w0.heap.size) (by omega)) (fun z hz=>⟨(h.aL z hz).1,by
  obtain ⟨v,e,hs⟩:=(h.aL z hz).2
  exact ⟨v,e,hs.mono (fun _ hk=>hk.more (Nat.le_refl _) (fun _ ht=>by simp at ht;simp [ht])) fun _ _ h=>h⟩⟩) (by simp) (by unfold maxLen;omega)
end Go.Proofs.YtcddpmappmjilaaGreatDoor
namespace Go.Proofs.YtcddpmappmjilaaGreatDoor
open Go.RowKit Go.Sort
theorem Tryz.infoL:(Tryz.prog.info? 23).map (fun i=>(i.zero,i.size,i.bytes))=some (some (.slice none 0 0),1,24):=by kernel_rfl
theorem Tryz.infoFs:(Tryz.prog.info? 54).map (fun i=>(i.zero,i.size,i.bytes))=some (some (.slice none 0 0),1,24):=by kernel_rfl
theorem Tryz.infoNs:(Tryz.prog.info? 56).map (fun i=>(i.zero,i.size,i.bytes))=some (some (.slice none 0 0),1,24):=by kernel_rfl
theorem Tryz.infoTs:(Tryz.prog.info? 57).map (fun i=>(i.zero,i.size,i.bytes))=some (some (.slice none 0 0),1,24):=by kernel_rfl
def isup (l:List ClassD) (k:Nat):List Value:=(List.range k).map fun n=>Value.int .i64 (supAt l n)
theorem isup_succ (l:List ClassD) (k:Nat):isup l (k+1)=isup l k++ [.int .i64 (supAt l k)]:=by simp [isup,List.range_succ]
theorem range_snoc {α:Type} (f:Nat->α) (k:Nat):(List.range (k+1)).map f=(List.range k).map f++ [f k]:=by simp [List.range_succ]
theorem numberB (w:World) (b:Nat) (l:List ClassD) (s:ByteArray) (hN:Nums w b l) (hs:s.size<=maxLen):
 Calls Tryz.prog 85 #[.pointer (some ⟨b,0,none⟩),.string s] w fun r w'=>r=.returned (.int .i64 (num l s))/\Below w.heap.size w w':=
 (numberN w b l s hN hs).mono fun _ _ ⟨h1,h2⟩=>⟨h1,h2 ▸ Below.refl _ _⟩
theorem NumMap.drew {w:World} {b:Nat} {l:List ClassD} (h:NumMap w b l):NumMap w.drew b l:=by
 obtain ⟨D,h,hd⟩:=h
 exact ⟨D,h.drew,hd⟩
theorem own_sup {w:World} {X:Nat} {v:Value} {l:List ClassD} (h:w.ownsRow (X+2) 3 1 v l.length (isup l l.length)) (hl:l.length<=1000):SL 1 RI (MT X [3] w) w v ((List.range l.length).map (supAt l)):=by
 have hz:((List.range l.length).map fun n=>([Value.int .i64 (supAt l n)],supAt l n)).length=l.length:=by simp
 have hf:((List.range l.length).map fun n=>([Value.int .i64 (supAt l n)],supAt l n)).flatMap (·.1)=isup l l.length:=by
  rw [List.flatMap_map,isup]
  generalize List.range l.length=r
  induction r with
  | nil=>rfl
  | cons x r ih=>rw [List.flatMap_cons,ih];rfl
 have:=own_SL (n:=1) (R:=RI) (T:=[3]) (zs:=(List.range l.length).map fun n=>([Value.int .i64 (supAt l n)],supAt l n)) (by rw [hz,hf];exact own_lower h (B':=X) (by omega)) (fun z hz=>by
  obtain ⟨s,hs',rfl⟩:=List.mem_map.1 hz
  exact ⟨rfl,rfl⟩) (by simp) (by rw [hz];unfold maxLen;omega)
 rwa [List.map_map]at this
structure WebM (M:Nat->Prop) (w:World) (b:Nat) (l:List ClassD) (vC vS vF vN vT vL:Value) (Bm:Nat):Prop where
 bM:M b
 mM:M Bm
 le:∀k,M k->k<w.heap.size
 blk:w.heap[b]? =some (.cells #[vC,vS,vF,vN,vT,.map (some Bm),vL] 107 (0,0))
 sC:SL 4 RC (fun k=>M k/\k≠b) w vC l
 sS:SL 1 RI (fun k=>M k/\k≠b) w vS ((List.range l.length).map (supAt l))
 sF:SL 1 (RSl 3 RF) (fun k=>M k/\k≠b) w vF ((List.range l.length).map (fieldsOf l))
 sN:SL 1 (RSl 1 RS) (fun k=>M k/\k≠b) w vN ((List.range l.length).map (namesOf l))
 sT:SL 1 (RSl 2 RT) (fun k=>M k/\k≠b) w vT ((List.range l.length).map (targetsOf l))
 sL:SL 1 (RSl 1 RO) (fun k=>M k/\k≠b) w vL ((List.range l.length).map (lineOf l))
 nm:NumMap w Bm l
 nS:SL 1 RI (fun k=>(M k/\k≠b)/\NF (b+1) w k) w vS ((List.range l.length).map (supAt l))
 nF:SL 1 (RSl 3 RF) (fun k=>(M k/\k≠b)/\NF (b+1) w k) w vF ((List.range l.length).map (fieldsOf l))
 nN:SL 1 (RSl 1 RS) (fun k=>(M k/\k≠b)/\NF (b+1) w k) w vN ((List.range l.length).map (namesOf l))
theorem WebM.kp {M:Nat->Prop} {w w':World} {b:Nat} (hk:Kp M w w'):Kp (fun k=>M k/\k≠b) w w':=⟨hk.size,fun k h hl=>hk.block k h.1 hl⟩
theorem WebM.kp2 {M:Nat->Prop} {w w':World} {b:Nat} (hk:Kp M w w'):Kp (fun k=>(M k/\k≠b)/\NF (b+1) w k) w w':=⟨hk.size,fun k h hl=>hk.block k h.1.1 hl⟩
theorem WebM.nf2 {M:Nat->Prop} {w w':World} {b:Nat} (hk:Kp M w w'):∀k,((M k/\k≠b)/\NF (b+1) w k)->(M k/\k≠b)/\NF (b+1) w' k:=fun k h=>⟨h.1,h.2.kept (hk.block k h.1.1 h.2.lt)⟩
theorem WebM.kept {M:Nat->Prop} {w w':World} {b:Nat} {l:List ClassD} {vC vS vF vN vT vL:Value} {Bm:Nat} (h:WebM M w b l vC vS vF vN vT vL Bm) (hk:Kp M w w'):WebM M w' b l vC vS vF vN vT vL Bm:=
 have hk':=WebM.kp (b:=b) hk
 ⟨h.bM,h.mM,fun k hm=>Nat.lt_of_lt_of_le (h.le k hm) hk.size,(hk.block b h.bM (h.le b h.bM)).trans h.blk,h.sC.keptC hk',h.sS.keptI hk',h.sF.keptSl hk' fun _ _ h=>h,h.sN.keptSl hk' fun _ _ h=>h,h.sT.keptSl hk' fun _ _ h=>h,h.sL.keptSl hk' fun _ _ h=>h,by
  obtain ⟨D,⟨es,clock,e,h'⟩,hd⟩:=h.nm
  exact ⟨D,⟨es,clock,(hk.block Bm h.mM (h.le Bm h.mM)).trans e,h'⟩,hd⟩,
  (h.nS.keptI (WebM.kp2 hk)).monoI (WebM.nf2 hk),(h.nF.keptSl (WebM.kp2 hk) fun _ _ h=>h).monoSl (WebM.nf2 hk) fun _ _ h=>h,(h.nN.keptSl (WebM.kp2 hk) fun _ _ h=>h).monoSl (WebM.nf2 hk) fun _ _ h=>h⟩
theorem WebM.mono {M M':Nat->Prop} {w:World} {b:Nat} {l:List ClassD} {vC vS vF vN vT vL:Value} {Bm:Nat} (h:WebM M w b l vC vS vF vN vT vL Bm) (hM:∀k,M k->M' k) (hl:∀k,M' k->k<w.heap.size):WebM M' w b l vC vS vF vN vT vL Bm:=
 have hM':∀k,(M k/\k≠b)->(M' k/\k≠b):=fun k h=>⟨hM k h.1,h.2⟩
 ⟨hM _ h.bM,hM _ h.mM,hl,h.blk,h.sC.monoC hM',h.sS.monoI hM',h.sF.monoSl hM' fun _ _ h=>h,h.sN.monoSl hM' fun _ _ h=>h,h.sT.monoSl hM' fun _ _ h=>h,h.sL.monoSl hM' fun _ _ h=>h,h.nm,h.nS.monoI (fun k hk=>⟨hM' k hk.1,hk.2⟩),h.nF.monoSl (fun k hk=>⟨hM' k hk.1,hk.2⟩) fun _ _ h=>h,h.nN.monoSl (fun k hk=>⟨hM' k hk.1,hk.2⟩) fun _ _ h=>h⟩
theorem WebM.web {M:Nat->Prop} {w:World} {b:Nat} {l:List ClassD} {vC vS vF vN vT vL:Value} {Bm:Nat} (h:WebM M w b l vC vS vF vN vT vL Bm):Web w.heap.size w b l vC vS vF vN vT vL Bm:=
 have hl:∀k,(M k/\k≠b)->k<w.heap.size:=fun k hk=>h.le k hk.1
 ⟨h.le _ h.bM,h.le _ h.mM,Nat.le_refl _,h.blk,h.sC.monoC hl,h.sS.monoI hl,h.sF.monoSl hl fun _ _ h=>h,h.sN.monoSl hl fun _ _ h=>h,h.sT.monoSl hl fun _ _ h=>h,h.sL.monoSl hl fun _ _ h=>h,h.nm⟩
set_option maxRecDepth 100000 in
set_option maxHeartbeats 16000000 in
theorem weave_any (w:World) (B:Nat) (l:List ClassD) (v:Value) (hv:SL 4 RC (· <B) w v l) (hB:B<=w.heap.size) (hchk:checkL l=0):
 Calls Tryz.prog 61 #[v] w fun r w'=>r=.returned (.pointer (some ⟨w.heap.size+1,0,none⟩))/\Below w.heap.size w w'/\∃vS vF vN vT vL,WebM (fun k=>(k<B\/w.heap.size<=k)/\k<w'.heap.size) w' (w.heap.size+1) l v vS vF vN vT vL w.heap.size:=by
 obtain ⟨iI,hiI,hzI0,hzI1,hzI2⟩:=info_parts Tryz.infoInt
 obtain ⟨iL,hiL,hzL0,hzL1,hzL2⟩:=info_parts Tryz.infoL
 obtain ⟨iF,hiF,hzF0,hzF1,hzF2⟩:=info_parts Tryz.infoFs
 obtain ⟨iN,hiN,hzN0,hzN1,hzN2⟩:=info_parts Tryz.infoNs
 obtain ⟨iT,hiT,hzT0,hzT1,hzT2⟩:=info_parts Tryz.infoTs
 have hmm:=@run_makeMap Tryz.prog
 obtain ⟨hN,hfine⟩:=list_fine hchk
 have HFI:=mkHid hfine
 have HV:=mkHid hv
 obtain ⟨ao,cl,rfl,-⟩:=hv
 clear hchk hfine
 have hB0:Below w.heap.size w ((w.alloc (.map #[] 0)).alloc (.cells #[.slice ao l.length cl,.slice none 0 0,.slice none 0 0,.slice none 0 0,.slice none 0 0,.map (some w.heap.size),.slice none 0 0] 107)):=((Below.refl _ _).alloc (Nat.le_refl _) _).alloc (by simp) _
 have hk0:((w.alloc (.map #[] 0)).alloc (.cells #[.slice ao l.length cl,.slice none 0 0,.slice none 0 0,.slice none 0 0,.slice none 0 0,.map (some w.heap.size),.slice none 0 0] 107)).heap[w.heap.size+1]? =some (.cells #[.slice ao l.length cl,.slice none 0 0,.slice none 0 0,.slice none 0 0,.slice none 0 0,.map (some w.heap.size),.slice none 0 0] 107 (0,0)):=by
  have:=heap_alloc_new (w.alloc (.map #[] 0)) (.cells #[.slice ao l.length cl,.slice none 0 0,.slice none 0 0,.slice none 0 0,.slice none 0 0,.map (some w.heap.size),.slice none 0 0] 107)
  simpa using this
 have hn0:NumMap ((w.alloc (.map #[] 0)).alloc (.cells #[.slice ao l.length cl,.slice none 0 0,.slice none 0 0,.slice none 0 0,.slice none 0 0,.map (some w.heap.size),.slice none 0 0] 107)) w.heap.size []:=⟨_,(World.ownsMap_made w _ _ _).alloc _,numD_nil⟩
 have HS0:=mkHid (And.intro hB0 (And.intro hk0 hn0))
 clear hB0 hk0 hn0
 generalize hXX:w.heap.size=X at*
 go_enter Tryz.func61,Tryz.ntmps61
 go_wp2_with fail
 go_loopw [21] (fun i wr=>∃k:Nat,k<=l.length/\i=.int .i64 k/\Hid (Below X w wr/\wr.heap[X+1]? =some (.cells #[.slice ao l.length cl,.slice none 0 0,.slice none 0 0,.slice none 0 0,.slice none 0 0,.map (some X),.slice none 0 0] 107 (0,0))/\NumMap wr X (l.take k))) (fun i _=>l.length - (intOf i).toNat)
 case atStart=>exact ⟨0,Nat.zero_le _,rfl,HS0.out⟩
 case round=>
  obtain ⟨k,hk,rfl,HST⟩:=hrel
  clear HS0
  obtain ⟨hBr,hblk,hnm⟩:=HST.out
  have hsr:X<=wr.heap.size:=by have:=hBr.size;omega
  have hXr:X+1<wr.heap.size:=lt_of hblk
  by_cases hlt:k<l.length
  ·
   obtain ⟨b,off,vf,vm,rfl,hb,e0,e1,e2,e3,ef,em,es1,es2⟩:=(HV.out.keptC (Kp.below (hBr.mono hB))).atC k hlt
   obtain ⟨fo,cf,rfl,-⟩:=ef
   obtain ⟨mo,cm,rfl,-⟩:=em
   have m5:=cell_of hblk 5 (x:=.map (some X)) rfl
   obtain ⟨D,hown,hD⟩:=hnm
   have hlk:(l.take k).length=k:=by simp;omega
   have hkey:keyOf Tryz.prog 9 (.string l[k].name)=some (key l[k].name):=Go.WideMaps.keyOf_string_mk Tryz.underlying9 es1
   obtain ⟨w2,hrun,hown2,hg2⟩:=World.ownsMap.update (w:=(wr.alloc (.cells #[.string l[k].name,.string l[k].super,.slice fo l[k].fields.length cf,.slice mo l[k].meths.length cm] 63)).drew) ((hown.alloc _).drew) law9 Tryz.underlying104 (by rw [hlk];unfold maxLen;omega) hkey (plainElem_int (H:=Unit) Tryz.underlying3 (a:=(k:Int)) (WalkArith.wf_i64 (by omega)))
   have hD2:=numD_put hD (hown.tidy law9) l[k]
   have HFN:Hid (Below X w w2/\w2.heap[X+1]? =some (.cells #[.slice (some ⟨b,off,none⟩) l.length cl,.slice none 0 0,.slice none 0 0,.slice none 0 0,.slice none 0 0,.map (some X),.slice none 0 0] 107 (0,0))/\NumMap w2 X (l.take (k+1))):=by
    refine ⟨((hBr.alloc hsr (.cells #[.string l[k].name,.string l[k].super,.slice fo l[k].fields.length cf,.slice mo l[k].meths.length cm] 63)).drew).grown hg2 (by show X<=(wr.alloc _).heap.size;simp;omega) (fun q e=>by cases e;exact Nat.le_refl _),?_,?_⟩
    ·
     rw [hg2.block (X+1) (by show X+1<(wr.alloc _).heap.size;simp;omega) (by simp)]
     exact (Below.heap_alloc _ _ _ hXr).trans hblk
    rw [List.take_succ_eq_append_getElem hlt]
    rw [hlk]at hD2 hown2
    refine ⟨_,?_,hD2⟩
    rw [List.length_append,hlk]
    exact hown2
   clear hown hown2 hg2 hD hD2 hkey hblk hlk es1 es2
   have h00:(0:Int)<=k:=by omega
   have h01:(k:Int)<l.length:=by omega
   go_wp2_with fail
   go_region
   all_goals
    go_wp2_with fail
    go_roundw
    case rel=>exact ⟨k+1,by omega,by go_num,HFN.out⟩
    case measure=>simp [intOf];omega
  have HN1:Hid (NumMap wr X l):=by
   have:=hnm
   rwa [List.take_of_length_le (by omega)]at this
  have HB1:=mkHid hBr
  have HK1:=mkHid hblk
  clear hBr hblk hnm HST
  go_wp2_with fail
  go_loopw [36] (fun i wr=>∃(k:Nat) (vS:Value),k<=l.length/\i=.int .i64 k/\Hid (Below X w wr/\wr.heap[X+1]? =some (.cells #[.slice ao l.length cl,vS,.slice none 0 0,.slice none 0 0,.slice none 0 0,.map (some X),.slice none 0 0] 107 (0,0))/\NumMap wr X l/\wr.ownsRow (X+2) 3 1 vS k (isup l k))) (fun i _=>l.length - (intOf i).toNat)
  case atStart=>exact ⟨0,_,Nat.zero_le _,rfl,HB1.out,HK1.out,HN1.out,World.ownsRow_nil _ _ _ _⟩
  case round=>
   clear HB1 HK1 HN1 hsr hXr
   rename World=>wr
   obtain ⟨k,vS,hk,rfl,HST⟩:=hrel
   obtain ⟨hBr,hblk,hnm,hown⟩:=HST.out
   have hsr:X<=wr.heap.size:=by have:=hBr.size;omega
   have hXr:X+1<wr.heap.size:=lt_of hblk
   by_cases hlt2:k<l.length
   ·
    obtain ⟨b,off,vf,vm,rfl,hb,e0,e1,e2,e3,ef,em,es1,es2⟩:=(HV.out.keptC (Kp.below (hBr.mono hB))).atC k hlt2
    obtain ⟨fo,cf,rfl,-⟩:=ef
    obtain ⟨mo,cm,rfl,-⟩:=em
    have m1:=cell_of hblk 1 (x:=vS) rfl
    have HSU:Hid (num l l[k].super=supAt l k):=by show _=_;rw [supAt,clsAt_eq hlt2]
    have HNU:Hid (Nums (wr.alloc (.cells #[.string l[k].name,.string l[k].super,.slice fo l[k].fields.length cf,.slice mo l[k].meths.length cm] 63)).drew (X+1) l):=⟨X,(World.cell?_alloc_past (w:=wr) _ (X+1) 5 hXr).trans (cell_of hblk 5 rfl),(hnm.kept (row:=none) (World.grownBy_alloc wr _ _) (by simp)).drew⟩
    have HBk:=mkHid hblk
    have HOW:=mkHid hown
    have HNM:=mkHid hnm
    have HES:=mkHid es2
    have HBR:=mkHid hBr
    have h00:(0:Int)<=k:=by omega
    have h01:(k:Int)<l.length:=by omega
    clear hblk hown hnm es1 es2 hBr HST
    go_upto_region 11 with fail
    go_region_law (first
     | (refine step_append_lies _ (by rfl) (.tmp 45) (.tmp 50) 23 (by rfl) (X+2) 3 iI (.int .i64 0) 1 8 Tryz.underlying23 hiI hzI0 hzI1 hzI2 rfl (by decide) vS k (isup l k) (by rfl) (HO7.out.alloc _) ⟨w7.heap.size,0,none⟩ 1 1 [.int .i64 (num l l[k].super)] (by rfl) rfl (World.news_of_block (heap_alloc_new w7 _)) (by intro u hu;simp at hu;subst hu;rfl) (by decide) HB7.out.1 HB7.out.2.1 HB7.out.2.2 _ rfl ?_;intro gA cA w9 hown9 hgr9 _ hlt9;have hrb9:∀q,vS.ownBlock=some q->X+2<=q:=fun q e=>(HO7.out.lt q e).1;have eB9:=(hgr9.block (X+1) (by simp;omega) (fun e=>by have:=hrb9 _ e.symm;omega)).trans ((Below.heap_alloc _ _ _ ml7).trans HE7.out);have m9:=cell_of eB9 1 (x:=vS) rfl;have z9:=frz_of eB9 1;have ml9:=lt_of eB9;have HFA:=mkHid (And.intro hown9 (And.intro hgr9 eB9));clear hown9 hgr9 eB9 hrb9)
     | (go_simp;go_wp2_with (go_at_call 85;refine (numberB _ (X+1) l l[k].super HNU.out HES.out).mono ?_;rintro r w7 ⟨rfl,hb7⟩;have HE7:=mkHid ((hb7.block (X+1) (by show X+1<(wr.alloc _).heap.size;simp;omega)).trans ((Below.heap_alloc wr _ _ hXr).trans HBk.out));have HO7:=mkHid (own_belowW ((HOW.out.alloc (.cells #[.string l[k].name,.string l[k].super,.slice fo l[k].fields.length cf,.slice mo l[k].meths.length cm] 63)).kept (w':=(wr.alloc (.cells #[.string l[k].name,.string l[k].super,.slice fo l[k].fields.length cf,.slice mo l[k].meths.length cm] 63)).drew) (row:=none) ⟨rfl,rfl,rfl,Nat.le_refl _,fun _ _ _=>rfl⟩ (by cases vS.ownBlock<;>simp)) hb7);have m7:=cell_of HE7.out 1 (x:=vS) rfl;have ml7:=lt_of HE7.out;have HN7:=mkHid (NumMap.below ((HNM.out.kept (row:=none) (World.grownBy_alloc wr (.cells #[.string l[k].name,.string l[k].super,.slice fo l[k].fields.length cf,.slice mo l[k].meths.length cm] 63) _) (by simp)).drew) hb7 (by show X<(wr.alloc _).heap.size;simp;omega));have HBL7:=mkHid (((HBR.out.alloc hsr (.cells #[.string l[k].name,.string l[k].super,.slice fo l[k].fields.length cf,.slice mo l[k].meths.length cm] 63)).drew).trans (hb7.mono (by show X<=(wr.alloc _).heap.size;simp;omega)));have HB7:Hid (k+1<=maxLen/\(k+1)*8<=140737488355328/\X+2<=(w7.alloc (.cells #[.int .i64 (num l l[k].super)] 3)).heap.size):=⟨by unfold maxLen;omega,by omega,by simp;omega⟩;clear hb7)))
    all_goals
     obtain ⟨hown9,hgr9,eB9⟩:=HFA.out
     have hrb9:∀q,vS.ownBlock=some q->X+2<=q:=fun q e=>(HO7.out.lt q e).1
     have hFIN:Below X w (w9.setCell ⟨X+1,1,none⟩ (.slice (some ⟨gA,0,none⟩) (k+1) cA))/\(w9.setCell ⟨X+1,1,none⟩ (.slice (some ⟨gA,0,none⟩) (k+1) cA)).heap[X+1]? =some (.cells #[.slice (some ⟨b,off,none⟩) l.length cl,.slice (some ⟨gA,0,none⟩) (k+1) cA,.slice none 0 0,.slice none 0 0,.slice none 0 0,.map (some X),.slice none 0 0] 107 (0,0))/\NumMap (w9.setCell ⟨X+1,1,none⟩ (.slice (some ⟨gA,0,none⟩) (k+1) cA)) X l/\(w9.setCell ⟨X+1,1,none⟩ (.slice (some ⟨gA,0,none⟩) (k+1) cA)).ownsRow (X+2) 3 1 (.slice (some ⟨gA,0,none⟩) (k+1) cA) (k+1) (isup l (k+1)):=by
      have hsz7:X<=w7.heap.size:=by have:=HBL7.out.size;omega
      refine ⟨((HBL7.out.alloc hsz7 _).grown hgr9 (by simp;omega) (fun q e=>by have:=hrb9 q e;omega)).setCell (by simp) _,heap_set eB9 _,?_,?_⟩
      ·
       exact (((HN7.out.kept (row:=none) (World.grownBy_alloc w7 _ _) (by simp)).kept hgr9 (fun e=>by have:=hrb9 _ e.symm;omega)).kept (row:=some (X+1)) (grown_set (World.grownBy.refl _ _) _ _ (Or.inl rfl)) (by simp))
      rw [isup_succ,<-HSU.out]
      exact ownsRow_setCell_below hown9 (by simp) _
     have HFIN:=mkHid hFIN
     clear hown9 hgr9 eB9 hrb9 hFIN HFA
     go_wp2_with fail
     go_roundw
     case rel=>exact ⟨k+1,_,by omega,by go_num,HFIN.out⟩
     case measure=>simp [intOf];omega
   have hkl:k=l.length:=by omega
   have sS:=own_sup (hkl ▸ hown) (by omega)
   have HW0:Hid (Wv w wr l (.slice ao l.length cl) vS (.slice none 0 0) (.slice none 0 0) (.slice none 0 0) (.slice none 0 0) [] [] [] []):=by
    refine ⟨by rw [hXX];exact hBr,by rw [hXX];exact hblk,by rw [hXX];exact sS,by rw [hXX];exact hnm,World.ownsRow_nil _ _ _ _,(fun z hz=>by cases hz),World.ownsRow_nil _ _ _ _,(fun z hz=>by cases hz),World.ownsRow_nil _ _ _ _,(fun z hz=>by cases hz),World.ownsRow_nil _ _ _ _,(fun z hz=>by cases hz)⟩
   clear sS hBr hblk hnm hown HST hkl
   obtain ⟨aS,cS,hvS⟩:∃aS cS,vS=.slice aS l.length cS:=by
    have:=HW0.out.sS
    obtain ⟨aS,cS,e,-⟩:=this
    exact ⟨aS,cS,by simpa using e⟩
   subst hvS
   go_wp2_with fail
   have HM0:Hid (True):=trivial
   go_loopw [58] (fun i wr=>∃(k:Nat) (vF vN vT vL:Value) (zF:List (List Value×List FieldD)) (zN:List (List Value×List ByteArray)) (zT:List (List Value×List TargD)) (zL:List (List Value×List Nat)),k<=l.length/\i=.int .i64 k/\Hid (Wv w wr l (.slice ao l.length cl) (.slice aS l.length cS) vF vN vT vL zF zN zT zL)/\
    Hid (zF.map (·.2)=(List.range k).map (fieldsOf l)/\zN.map (·.2)=(List.range k).map (namesOf l)/\zT.map (·.2)=(List.range k).map (targetsOf l)/\zL.map (·.2)=(List.range k).map (lineOf l))) (fun i _=>l.length - (intOf i).toNat)
   case atStart=>exact ⟨0,_,_,_,_,[],[],[],[],Nat.zero_le _,rfl,HW0.out,rfl,rfl,rfl,rfl⟩
   case round=>
    clear HW0 hsr hXr hlt2 hk hlt HM0
    rename World=>wr
    obtain ⟨k,vF,vN,vT,vL,zF,zN,zT,zL,hk,rfl,HW,HZ⟩:=hrel
    have hXr:X+1<wr.heap.size:=by have:=HW.out.lt;omega
    have hsr:X<=wr.heap.size:=by omega
    have hlZ:zF.length=k/\zN.length=k/\zT.length=k/\zL.length=k:=by
     obtain ⟨h1,h2,h3,h4⟩:=HZ.out
     have g1:=congrArg List.length h1
     have g2:=congrArg List.length h2
     have g3:=congrArg List.length h3
     have g4:=congrArg List.length h4
     simp at g1 g2 g3 g4
     exact ⟨g1,g2,g3,g4⟩
    have HLZ:=mkHid hlZ
    clear hlZ
    by_cases hlt:k<l.length
    ·
     have h00:(0:Int)<=k:=by omega
     have h01:(k:Int)<l.length:=by omega
     have HWD:=mkHid (HW.out.grow ((Below.refl wr.heap.size wr).drew))
     have m6:wr.cell? ⟨X+1,6,none⟩=some vL:=by have:=HW.out.cell 6 (x:=vL) rfl;rwa [hXX]at this
     go_upto_region 16 with fail
     go_cut [] (fun W=>∃vL' zL',Wv w W l (.slice ao l.length cl) (.slice aS l.length cS) vF vN vT vL' zF zN zT zL'/\zL'.map (·.2)=(List.range (k+1)).map (lineOf l))
     case first=>
      go_region_law (first
       | (refine step_append_lies _ (by rfl) (.tmp 65) (.tmp 69) 105 (by rfl) (X+2) 23 iL (.slice none 0 0) 1 24 Tryz.underlying105 hiL hzL0 hzL1 hzL2 rfl (by decide) vL zL.length (zL.flatMap (·.1)) (by rfl) (HO7.out.alloc _) ⟨w7.heap.size,0,none⟩ 1 1 [.slice au (lineOf l k).length cu] (by rfl) rfl (World.news_of_block (heap_alloc_new w7 _)) (by intro u hu;simp at hu;subst hu;rfl) (by decide) HB7.out.1 HB7.out.2.1 HB7.out.2.2 _ rfl ?_;intro gA cA w9 hown9 hgr9 _ hlt9;have hrb9:∀q,vL.ownBlock=some q->X+2<=q:=fun q e=>(HO7.out.lt q e).1;have eB9:=(hgr9.block (X+1) (by simp;omega) (fun e=>by have:=hrb9 _ e.symm;omega)).trans ((Below.heap_alloc _ _ _ ml7).trans HE7.out);have m9:=cell_of eB9 6 (x:=vL) rfl;have z9:=frz_of eB9 6;have ml9:=lt_of eB9;have HFA:=mkHid (And.intro hown9 hgr9);clear hown9 hgr9 eB9 hrb9)
       | (go_simp;go_wp2_with (go_at_call 86;refine (line_any _ wr.heap.size (X+1) l k hlt ao cl (.slice aS l.length cS) (hXX ▸ HWD.out.cell 0 rfl) (hXX ▸ HWD.out.cell 1 rfl) (HWD.out.sS.monoI fun _ hk=>hk.lt) (Nat.le_refl _) hN).mono ?_;rintro r w7 ⟨hb7,u7,rfl,su7⟩;have HW7:=mkHid (HWD.out.grow hb7);have SU7:=mkHid (su7.monoO (M':=MT w.heap.size [3] w7) fun _ hk=>hk.more (by rw [hXX];exact hsr) (fun _ ht=>ht));obtain ⟨au,cu,rfl,-⟩:=su7;have HE7:Hid (w7.heap[X+1]? =_):=hXX ▸ HW7.out.blk;have HO7:Hid (w7.ownsRow (X+2) 23 1 vL zL.length (zL.flatMap (·.1))):=hXX ▸ HW7.out.oL;have m7:=cell_of HE7.out 6 (x:=vL) rfl;have ml7:=lt_of HE7.out;have HB7:Hid (zL.length+1<=maxLen/\(zL.length+1)*24<=140737488355328/\X+2<=(w7.alloc (.cells #[.slice au (lineOf l k).length cu] 23)).heap.size):=(by have hz:=HLZ.out.2.2.2;exact ⟨by unfold maxLen;omega,by omega,by simp;omega⟩);clear hb7)))
      all_goals
       have HFIN:=mkHid (HW7.out.addL SU7.out (hXX.symm ▸ HFA.out.1) HFA.out.2)
       go_wp2_with fail
       go_meet
       exact ⟨_,_,hXX ▸ HFIN.out,by rw [List.map_append,HZ.out.2.2.2,range_snoc];rfl⟩
     case rest=>
      clear m6 HW HWD hXr hsr
      rename World=>W
      obtain ⟨vL',zL',hW,hZ⟩:=hcut
      have HW1:=mkHid hW
      have HZL:=mkHid hZ
      clear hW hZ
      have hzl:zL'.length=k+1:=by
       have:=congrArg List.length HZL.out
       simpa using this
      have HZN:=mkHid hzl
      clear hzl
      have hXW:X+1<W.heap.size:=by have:=HW1.out.lt;omega
      have hsW:X<=W.heap.size:=by omega
      have HD1:=mkHid (HW1.out.grow ((Below.refl W.heap.size W).drew))
      have m2:W.cell? ⟨X+1,2,none⟩=some vF:=by have:=HW1.out.cell 2 (x:=vF) rfl;rwa [hXX]at this
      have HSC:Hid (SL 4 RC (· <X) W.drew (.slice ao l.length cl) l):=(HV.out.keptC (Kp.below (HD1.out.below.mono (hXX.symm ▸ hB)))).monoC fun _ (hk:_<B)=>(by omega)
      have HSL:Hid (SL 1 (RSl 1 RO) (MT X [3,23] W.drew) W.drew vL' (zL'.map (·.2))):=hXX ▸ HD1.out.rowsL (by have:=HZN.out;omega)
      have HLK:Hid (∃h:k<(zL'.map (·.2)).length,(zL'.map (·.2))[k]=lineOf l k):=⟨by have:=HZN.out;simp;omega,by simp only [HZL.out];simp⟩
      go_upto_region 17 with fail
      go_cut [] (fun W=>∃vF' zF',Wv w W l (.slice ao l.length cl) (.slice aS l.length cS) vF' vN vT vL' zF' zN zT zL'/\zF'.map (·.2)=(List.range (k+1)).map (fieldsOf l))
      case first=>
       go_region_law (first
        | (refine step_append_lies _ (by rfl) (.tmp 78) (.tmp 82) 24 (by rfl) (X+2) 54 iF (.slice none 0 0) 1 24 Tryz.underlying24 hiF hzF0 hzF1 hzF2 rfl (by decide) vF zF.length (zF.flatMap (·.1)) (by rfl) (HO7.out.alloc _) ⟨w7.heap.size,0,none⟩ 1 1 [.slice au (fieldsOf l k).length cu] (by rfl) rfl (World.news_of_block (heap_alloc_new w7 _)) (by intro u hu;simp at hu;subst hu;rfl) (by decide) HB7.out.1 HB7.out.2.1 HB7.out.2.2 _ rfl ?_;intro gA cA w9 hown9 hgr9 _ hlt9;have hrb9:∀q,vF.ownBlock=some q->X+2<=q:=fun q e=>(HO7.out.lt q e).1;have eB9:=(hgr9.block (X+1) (by simp;omega) (fun e=>by have:=hrb9 _ e.symm;omega)).trans ((Below.heap_alloc _ _ _ ml7).trans HE7.out);have m9:=cell_of eB9 2 (x:=vF) rfl;have z9:=frz_of eB9 2;have ml9:=lt_of eB9;have HFA:=mkHid (And.intro hown9 hgr9);clear hown9 hgr9 eB9 hrb9)
        | (go_simp;go_wp2_with (go_at_call 87;refine (fieldsOf_any _ X (X+1) l k hlt ao cl (hXX ▸ HD1.out.cell 0 rfl) HSC.out vL' (zL'.map (·.2)) (hXX ▸ HD1.out.cell 6 rfl) HSL.out HLK.out.1 HLK.out.2 hsW hN (fun c hc=>(HFI.out c hc).2.2.1)).mono ?_;rintro r w7 ⟨hb7,u7,rfl,su7⟩;have HW7:=mkHid (HD1.out.grow hb7);have SU7:=mkHid (su7.monoF (M':=MT w.heap.size [85] w7) fun _ hk=>hk.more (by rw [hXX];exact hsW) (fun _ ht=>ht));obtain ⟨au,cu,rfl,-⟩:=su7;have HE7:Hid (w7.heap[X+1]? =_):=hXX ▸ HW7.out.blk;have HO7:Hid (w7.ownsRow (X+2) 54 1 vF zF.length (zF.flatMap (·.1))):=hXX ▸ HW7.out.oF;have m7:=cell_of HE7.out 2 (x:=vF) rfl;have ml7:=lt_of HE7.out;have HB7:Hid (zF.length+1<=maxLen/\(zF.length+1)*24<=140737488355328/\X+2<=(w7.alloc (.cells #[.slice au (fieldsOf l k).length cu] 54)).heap.size):=(by have hz:=HLZ.out.1;exact ⟨by unfold maxLen;omega,by omega,by simp;omega⟩);clear hb7)))
       all_goals
        have HFIN:=mkHid (HW7.out.addF SU7.out (hXX.symm ▸ HFA.out.1) HFA.out.2)
        go_wp2_with fail
        go_meet
        exact ⟨_,_,hXX ▸ HFIN.out,by rw [List.map_append,HZ.out.1,range_snoc];rfl⟩
      case rest=>
       clear m2 HW1 HD1 hXW hsW HSC HSL
       rename World=>W
       obtain ⟨vF',zF',hW,hZ⟩:=hcut
       have HW1:=mkHid hW
       have HZF:=mkHid hZ
       clear hW hZ
       have hXW:X+1<W.heap.size:=by have:=HW1.out.lt;omega
       have hsW:X<=W.heap.size:=by omega
       have HSC:Hid (SL 4 RC (· <X) W (.slice ao l.length cl) l):=(HV.out.keptC (Kp.below (HW1.out.below.mono (hXX.symm ▸ hB)))).monoC fun _ (hk:_<B)=>(by omega)
       have HSL:Hid (SL 1 (RSl 1 RO) (MT X [3,23] W) W vL' (zL'.map (·.2))):=hXX ▸ HW1.out.rowsL (by have:=HZN.out;omega)
       go_upto_region 19 with (go_at_call 88;refine (namesOf_any _ X (X+1) l k hlt ao cl (hXX ▸ HW1.out.cell 0 rfl) HSC.out vL' (zL'.map (·.2)) (hXX ▸ HW1.out.cell 6 rfl) HSL.out HLK.out.1 HLK.out.2 hsW hN (fun c hc=>(HFI.out c hc).2.2.2.2.1)).mono ?_;rintro r w7 ⟨hb7,u7,t7,rfl,su7,st7⟩;have HW7:=mkHid (HW1.out.grow hb7);have SU7:=mkHid (su7.monoS (M':=MT w.heap.size [9] w7) fun _ hk=>hk.more (by rw [hXX];exact hsW) (fun _ ht=>ht));have ST7:=mkHid (st7.monoT (M':=MT w.heap.size [67] w7) fun _ hk=>hk.more (by rw [hXX];exact hsW) (fun _ ht=>ht));obtain ⟨au,cu,rfl,-⟩:=su7;obtain ⟨bu,du,rfl,-⟩:=st7;clear hb7)
       have HE7:Hid (w7.heap[X+1]? =_):=hXX ▸ HW7.out.blk
       have m7:=cell_of HE7.out 3 (x:=vN) rfl
       have ml7:=lt_of HE7.out
       have HO7:Hid (w7.ownsRow (X+2) 56 1 vN zN.length (zN.flatMap (·.1))):=hXX ▸ HW7.out.oN
       have HB7:Hid (zN.length+1<=maxLen/\(zN.length+1)*24<=140737488355328/\X+2<=(w7.alloc (.cells #[.slice au (namesOf l k).length cu] 56)).heap.size):=(by have hz:=HLZ.out.2.1;exact ⟨by unfold maxLen;omega,by omega,by simp;omega⟩)
       go_upto_region 20 with (at_builtin;refine wpList_append_lies _ rfl _ _ 25 rfl (X+2) 56 iN (.slice none 0 0) 1 24 Tryz.underlying25 hiN hzN0 hzN1 hzN2 rfl (by decide) vN zN.length (zN.flatMap (·.1)) rfl (HO7.out.alloc _) ⟨w7.heap.size,0,none⟩ 1 1 [.slice au (namesOf l k).length cu] rfl rfl (World.news_of_block (heap_alloc_new w7 _)) (by intro u hu;simp at hu;subst hu;rfl) (by decide) HB7.out.1 HB7.out.2.1 HB7.out.2.2 _ rfl ?_;intro gA cA w9 hown9 hgr9 _ hlt9;have hrb9:∀q,vN.ownBlock=some q->X+2<=q:=fun q e=>(HO7.out.lt q e).1;have eB9:=(hgr9.block (X+1) (by simp;omega) (fun e=>by have:=hrb9 _ e.symm;omega)).trans ((Below.heap_alloc _ _ _ ml7).trans HE7.out);have m9:=cell_of eB9 3 (x:=vN) rfl;have z9:=frz_of eB9 3;have ml9:=lt_of eB9;have HW8:=mkHid (HW7.out.addN SU7.out (hXX.symm ▸ hown9) hgr9);have hst:Stp w.heap.size [67] w7 (w9.setCell ⟨X+1,3,none⟩ (.slice (some ⟨gA,0,none⟩) (zN.length+1) cA)):=(((Stp.refl _ _ _).alloc _).trans (Stp.row hgr9 (HO7.out.alloc _) (by decide))).trans (Stp.set eB9 (by decide) 3 _);have HS8:=mkHid ((ST7.out.keptT hst.kp).monoT fun _ hk=>hk.step hst);clear hown9 hgr9 eB9 hrb9 hst)
       rw [hXX]at HW8
       generalize hW9:w9.setCell ⟨X+1,3,none⟩ (.slice (some ⟨gA,0,none⟩) (zN.length+1) cA)=wz at*
       have HE9:Hid (wz.heap[X+1]? =_):=hXX ▸ HW8.out.blk
       have mz:=cell_of HE9.out 4 (x:=vT) rfl
       have mlz:=lt_of HE9.out
       have HOz:Hid (wz.ownsRow (X+2) 57 1 vT zT.length (zT.flatMap (·.1))):=hXX ▸ HW8.out.oT
       have HBz:Hid (zT.length+1<=maxLen/\(zT.length+1)*24<=140737488355328/\X+2<=(wz.alloc (.cells #[.slice bu (targetsOf l k).length du] 57)).heap.size):=(by have hz:=HLZ.out.2.2.1;exact ⟨by unfold maxLen;omega,by omega,by simp;omega⟩)
       clear hW9 m9 z9 ml9 hlt9 m7 ml7
       go_upto_region 21 with (at_builtin;refine wpList_append_lies _ rfl _ _ 26 rfl (X+2) 57 iT (.slice none 0 0) 1 24 Tryz.underlying26 hiT hzT0 hzT1 hzT2 rfl (by decide) vT zT.length (zT.flatMap (·.1)) rfl (HOz.out.alloc _) ⟨wz.heap.size,0,none⟩ 1 1 [.slice bu (targetsOf l k).length du] rfl rfl (World.news_of_block (heap_alloc_new wz _)) (by intro u hu;simp at hu;subst hu;rfl) (by decide) HBz.out.1 HBz.out.2.1 HBz.out.2.2 _ rfl ?_;intro gB cB wy hown9 hgr9 _ hlt9;have hrb9:∀q,vT.ownBlock=some q->X+2<=q:=fun q e=>(HOz.out.lt q e).1;have eB9:=(hgr9.block (X+1) (by simp;omega) (fun e=>by have:=hrb9 _ e.symm;omega)).trans ((Below.heap_alloc _ _ _ mlz).trans HE9.out);have m9:=cell_of eB9 4 (x:=vT) rfl;have z9:=frz_of eB9 4;have ml9:=lt_of eB9;have HWY:=mkHid (HW8.out.addT HS8.out (hXX.symm ▸ hown9) hgr9);clear hown9 hgr9 eB9 hrb9)
       go_wp2_with fail
       go_roundw
       case rel=>exact ⟨k+1,_,_,_,_,_,_,_,_,by omega,by go_num,hXX ▸ HWY.out,HZF.out,by rw [List.map_append,HZ.out.2.1,range_snoc];rfl,by rw [List.map_append,HZ.out.2.2.1,range_snoc];rfl,HZL.out⟩
       case measure=>simp [intOf];omega
    have hkl:k=l.length:=by omega
    have HWEB:Hid (WebM (fun k=>(k<B\/X<=k)/\k<wr.heap.size) wr (X+1) l (.slice ao l.length cl) (.slice aS l.length cS) vF vN vT vL X):=by
     obtain ⟨h1,h2,h3,h4⟩:=HZ.out
     obtain ⟨g1,g2,g3,g4⟩:=HLZ.out
     rw [hkl]at h1 h2 h3 h4
     have sF:=HW.out.rowsF (by omega)
     have sN:=HW.out.rowsN (by omega)
     have sT:=HW.out.rowsT (by omega)
     have sL:=HW.out.rowsL (by omega)
     rw [h1]at sF
     rw [h2]at sN
     rw [h3]at sT
     rw [h4]at sL
     have hb1:=hXX ▸ HW.out.blk
     have hM:∀ {T:List Nat},107∉T->∀(k:Nat),MT w.heap.size T wr k->((k<B\/X<=k)/\k<wr.heap.size)/\k≠X+1:=fun hT k hk=>⟨⟨Or.inr (hXX ▸ hk.1),hk.lt⟩,fun e=>by
      obtain ⟨_,c,t,fr,h2,h3⟩:=hk
      rw [e,hb1]at h2
      cases h2
      exact hT h3.1⟩
     have hM2:∀ {T:List Nat},107∉T->∀(k:Nat),MT w.heap.size T wr k->(((k<B\/X<=k)/\k<wr.heap.size)/\k≠X+1)/\NF (X+1+1) wr k:=fun hT k hk=>⟨hM hT k hk,by
      have h1:=(hM hT k hk).2
      have h0:X<=k:=hXX ▸ hk.1
      obtain ⟨-,c,t,hc⟩:=hk.nf
      have h3:k≠X:=fun e=>by
       obtain ⟨D,⟨es,clock,e',-⟩,-⟩:=hXX ▸ HW.out.nm
       rw [e,e']at hc
       cases hc
      exact ⟨by omega,c,t,hc⟩⟩
     exact ⟨⟨Or.inr (by omega),hXr⟩,⟨Or.inr (Nat.le_refl _),by omega⟩,fun _ h=>h.2,hXX ▸ HW.out.blk,(HV.out.keptC (Kp.below (HW.out.below.mono (hXX.symm ▸ hB)))).monoC (fun _ (hk:_<B)=>⟨⟨Or.inl hk,by omega⟩,by omega⟩),HW.out.sS.monoI (hM (by decide)),sF.monoSl (hM (by decide)) (fun _ _ h=>h),sN.monoSl (hM (by decide)) (fun _ _ h=>h),sT.monoSl (hM (by decide)) (fun _ _ h=>h),sL.monoSl (hM (by decide)) (fun _ _ h=>h),hXX ▸ HW.out.nm,HW.out.sS.monoI (hM2 (by decide)),sF.monoSl (hM2 (by decide)) (fun _ _ h=>h),sN.monoSl (hM2 (by decide)) (fun _ _ h=>h)⟩
    have HBE:Hid (Below X w wr):=hXX ▸ HW.out.below
    clear HW HZ
    go_wp2_with fail
    go_ret
    exact ⟨rfl,HBE.out,_,_,_,_,_,HWEB.out⟩
end Go.Proofs.YtcddpmappmjilaaGreatDoor
namespace Go.Proofs.YtcddpmappmjilaaGreatDoor
open Go.RowKit Go.Sort
structure Lv (w0 W:World) (vC vS vF vN vT:Value) (zS:List (List Value×Int)) (zF:List (List Value×(List FieldD))) (zN:List (List Value×(List ByteArray))) (zT:List (List Value×(List TargD))):Prop where
 below:Below w0.heap.size w0 W
 blk:W.heap[w0.heap.size]? =some (.cells #[vC,vS,vF,vN,vT] 28 (0,0))
 oS:W.ownsRow (w0.heap.size+1) 3 1 vS zS.length (zS.flatMap (·.1))
 aS:∀z∈zS,z.1= [Value.int .i64 z.2]
 oF:W.ownsRow (w0.heap.size+1) 54 1 vF zF.length (zF.flatMap (·.1))
 aF:∀z∈zF,z.1.length=1/\RSl 3 RF (MT w0.heap.size [85] W) W z.1 z.2
 oN:W.ownsRow (w0.heap.size+1) 56 1 vN zN.length (zN.flatMap (·.1))
 aN:∀z∈zN,z.1.length=1/\RSl 1 RS (MT w0.heap.size [9] W) W z.1 z.2
 oT:W.ownsRow (w0.heap.size+1) 57 1 vT zT.length (zT.flatMap (·.1))
 aT:∀z∈zT,z.1.length=1/\RSl 2 RT (MT w0.heap.size [67] W) W z.1 z.2
theorem Lv.lt {w0 W:World} {vC vS vF vN vT:Value} {zS:List (List Value×Int)} {zF:List (List Value×(List FieldD))} {zN:List (List Value×(List ByteArray))} {zT:List (List Value×(List TargD))} (h:Lv w0 W vC vS vF vN vT zS zF zN zT):w0.heap.size<W.heap.size:=lt_of h.blk
theorem Lv.grow {w0 W:World} {vC vS vF vN vT:Value} {zS:List (List Value×Int)} {zF:List (List Value×(List FieldD))} {zN:List (List Value×(List ByteArray))} {zT:List (List Value×(List TargD))} {W':World} (h:Lv w0 W vC vS vF vN vT zS zF zN zT) (hb:Below W.heap.size W W'):Lv w0 W' vC vS vF vN vT zS zF zN zT:=
 ⟨h.below.trans (hb.mono h.below.size),(hb.block _ h.lt).trans h.blk,own_belowW h.oS hb,h.aS,own_belowW h.oF hb,(fun z hz=>⟨(h.aF z hz).1,(h.aF z hz).2.stp (Stp.below hb) fun _ _ _ _ _ _ h=>h⟩),own_belowW h.oN hb,(fun z hz=>⟨(h.aN z hz).1,(h.aN z hz).2.stp (Stp.below hb) fun _ _ _ _ _ _ h=>h⟩),own_belowW h.oT hb,(fun z hz=>⟨(h.aT z hz).1,(h.aT z hz).2.stp (Stp.below hb) fun _ _ _ _ _ _ h=>h⟩)⟩
theorem Lv.cell {w0 W:World} {vC vS vF vN vT:Value} {zS:List (List Value×Int)} {zF:List (List Value×(List FieldD))} {zN:List (List Value×(List ByteArray))} {zT:List (List Value×(List TargD))} (h:Lv w0 W vC vS vF vN vT zS zF zN zT) (j:Nat) {x:Value} (hx:(#[vC,vS,vF,vN,vT]:Array Value)[j]? =some x):W.cell? ⟨w0.heap.size,j,none⟩=some x:=cell_of h.blk j hx
set_option maxHeartbeats 1000000 in
theorem Lv.addS {w0 W:World} {vC vS vF vN vT:Value} {zS:List (List Value×Int)} {zF:List (List Value×(List FieldD))} {zN:List (List Value×(List ByteArray))} {zT:List (List Value×(List TargD))} (h:Lv w0 W vC vS vF vN vT zS zF zN zT) {u:Value} {x:Int} (hu:u=.int .i64 x) {w1:World} {v':Value}
 (ho:w1.ownsRow (w0.heap.size+1) 3 1 v' (zS.length+1) (zS.flatMap (·.1)++ [u])) (hg:(W.alloc (.cells #[u] 3)).grownBy w1 vS.ownBlock):
 Lv w0 (w1.setCell ⟨w0.heap.size,1,none⟩ v') vC v' vF vN vT (zS++ [([u],x)]) zF zN zT:=by
 have hlt:=h.lt
 have hrb:∀q,vS.ownBlock=some q->w0.heap.size+1<=q/\q<W.heap.size:=fun q e=>h.oS.lt q e
 have hb1:w1.heap[w0.heap.size]? =some (.cells #[vC,vS,vF,vN,vT] 28 (0,0)):=by
  rw [hg.block w0.heap.size (by simp;omega) (fun e=>by have:=(hrb _ e.symm).1;omega),Below.heap_alloc _ _ _ hlt]
  exact h.blk
 have hst:∀t,t∉ [3,28]->Stp w0.heap.size [t] W (w1.setCell ⟨w0.heap.size,1,none⟩ v'):=fun t ht=>
  (((Stp.refl _ _ _).alloc _).trans (Stp.row hg (h.oS.alloc _) (fun e=>ht (by simp at e;simp [e])))).trans (Stp.set hb1 (fun e=>ht (by simp at e;simp [<-e])) 1 v')
 have hB1:Below w0.heap.size w0 w1:=(h.below.alloc h.below.size _).grown hg (by have:=h.below.size;simp;omega) (fun q e=>by have:=(hrb q e).1;omega)
 refine ⟨hB1.setCell (by simp) _,heap_set hb1 v',?_,?_,?_,?_,?_,?_,?_,?_⟩
 ·
  rw [List.length_append,snoc_flat]
  exact ownsRow_setCell_below ho (by simp) _
 ·
  intro z hz
  rcases List.mem_append.1 hz with hz | hz
  ·
   exact h.aS z hz
  rw [List.mem_singleton]at hz
  subst hz
  rw [hu]
 ·
  exact ownsRow_setCell_below ((h.oF.alloc _).kept hg (own_types h.oF h.oS (by decide))) (by simp) _
 ·
  exact fun z hz=>⟨(h.aF z hz).1,(h.aF z hz).2.stp (hst _ (by decide)) fun _ _ _ _ _ _ h=>h⟩
 ·
  exact ownsRow_setCell_below ((h.oN.alloc _).kept hg (own_types h.oN h.oS (by decide))) (by simp) _
 ·
  exact fun z hz=>⟨(h.aN z hz).1,(h.aN z hz).2.stp (hst _ (by decide)) fun _ _ _ _ _ _ h=>h⟩
 ·
  exact ownsRow_setCell_below ((h.oT.alloc _).kept hg (own_types h.oT h.oS (by decide))) (by simp) _
 exact fun z hz=>⟨(h.aT z hz).1,(h.aT z hz).2.stp (hst _ (by decide)) fun _ _ _ _ _ _ h=>h⟩
set_option maxHeartbeats 1000000 in
theorem Lv.addF {w0 W:World} {vC vS vF vN vT:Value} {zS:List (List Value×Int)} {zF:List (List Value×(List FieldD))} {zN:List (List Value×(List ByteArray))} {zT:List (List Value×(List TargD))} (h:Lv w0 W vC vS vF vN vT zS zF zN zT) {u:Value} {x:List FieldD} (hu:SL 3 RF (MT w0.heap.size [85] W) W u x) {w1:World} {v':Value}
 (ho:w1.ownsRow (w0.heap.size+1) 54 1 v' (zF.length+1) (zF.flatMap (·.1)++ [u])) (hg:(W.alloc (.cells #[u] 54)).grownBy w1 vF.ownBlock):
 Lv w0 (w1.setCell ⟨w0.heap.size,2,none⟩ v') vC vS v' vN vT zS (zF++ [([u],x)]) zN zT:=by
 have hlt:=h.lt
 have hrb:∀q,vF.ownBlock=some q->w0.heap.size+1<=q/\q<W.heap.size:=fun q e=>h.oF.lt q e
 have hb1:w1.heap[w0.heap.size]? =some (.cells #[vC,vS,vF,vN,vT] 28 (0,0)):=by
  rw [hg.block w0.heap.size (by simp;omega) (fun e=>by have:=(hrb _ e.symm).1;omega),Below.heap_alloc _ _ _ hlt]
  exact h.blk
 have hst:∀t,t∉ [54,28]->Stp w0.heap.size [t] W (w1.setCell ⟨w0.heap.size,2,none⟩ v'):=fun t ht=>
  (((Stp.refl _ _ _).alloc _).trans (Stp.row hg (h.oF.alloc _) (fun e=>ht (by simp at e;simp [e])))).trans (Stp.set hb1 (fun e=>ht (by simp at e;simp [<-e])) 2 v')
 have hB1:Below w0.heap.size w0 w1:=(h.below.alloc h.below.size _).grown hg (by have:=h.below.size;simp;omega) (fun q e=>by have:=(hrb q e).1;omega)
 refine ⟨hB1.setCell (by simp) _,heap_set hb1 v',?_,?_,?_,?_,?_,?_,?_,?_⟩
 ·
  exact ownsRow_setCell_below ((h.oS.alloc _).kept hg (own_types h.oS h.oF (by decide))) (by simp) _
 ·
  exact h.aS
 ·
  rw [List.length_append,snoc_flat]
  exact ownsRow_setCell_below ho (by simp) _
 ·
  intro z hz
  rcases List.mem_append.1 hz with hz | hz
  ·
   exact ⟨(h.aF z hz).1,(h.aF z hz).2.stp (hst _ (by decide)) fun _ _ _ _ _ _ h=>h⟩
  rw [List.mem_singleton]at hz
  subst hz
  exact ⟨rfl,RSl.stp ⟨u,rfl,hu⟩ (hst _ (by decide)) fun _ _ _ _ _ _ h=>h⟩
 ·
  exact ownsRow_setCell_below ((h.oN.alloc _).kept hg (own_types h.oN h.oF (by decide))) (by simp) _
 ·
  exact fun z hz=>⟨(h.aN z hz).1,(h.aN z hz).2.stp (hst _ (by decide)) fun _ _ _ _ _ _ h=>h⟩
 ·
  exact ownsRow_setCell_below ((h.oT.alloc _).kept hg (own_types h.oT h.oF (by decide))) (by simp) _
 exact fun z hz=>⟨(h.aT z hz).1,(h.aT z hz).2.stp (hst _ (by decide)) fun _ _ _ _ _ _ h=>h⟩
set_option maxHeartbeats 1000000 in
theorem Lv.addN {w0 W:World} {vC vS vF vN vT:Value} {zS:List (List Value×Int)} {zF:List (List Value×(List FieldD))} {zN:List (List Value×(List ByteArray))} {zT:List (List Value×(List TargD))} (h:Lv w0 W vC vS vF vN vT zS zF zN zT) {u:Value} {x:List ByteArray} (hu:SL 1 RS (MT w0.heap.size [9] W) W u x) {w1:World} {v':Value}
 (ho:w1.ownsRow (w0.heap.size+1) 56 1 v' (zN.length+1) (zN.flatMap (·.1)++ [u])) (hg:(W.alloc (.cells #[u] 56)).grownBy w1 vN.ownBlock):
 Lv w0 (w1.setCell ⟨w0.heap.size,3,none⟩ v') vC vS vF v' vT zS zF (zN++ [([u],x)]) zT:=by
 have hlt:=h.lt
 have hrb:∀q,vN.ownBlock=some q->w0.heap.size+1<=q/\q<W.heap.size:=fun q e=>h.oN.lt q e
 have hb1:w1.heap[w0.heap.size]? =some (.cells #[vC,vS,vF,vN,vT] 28 (0,0)):=by
  rw [hg.block w0.heap.size (by simp;omega) (fun e=>by have:=(hrb _ e.symm).1;omega),Below.heap_alloc _ _ _ hlt]
  exact h.blk
 have hst:∀t,t∉ [56,28]->Stp w0.heap.size [t] W (w1.setCell ⟨w0.heap.size,3,none⟩ v'):=fun t ht=>
  (((Stp.refl _ _ _).alloc _).trans (Stp.row hg (h.oN.alloc _) (fun e=>ht (by simp at e;simp [e])))).trans (Stp.set hb1 (fun e=>ht (by simp at e;simp [<-e])) 3 v')
 have hB1:Below w0.heap.size w0 w1:=(h.below.alloc h.below.size _).grown hg (by have:=h.below.size;simp;omega) (fun q e=>by have:=(hrb q e).1;omega)
 refine ⟨hB1.setCell (by simp) _,heap_set hb1 v',?_,?_,?_,?_,?_,?_,?_,?_⟩
 ·
  exact ownsRow_setCell_below ((h.oS.alloc _).kept hg (own_types h.oS h.oN (by decide))) (by simp) _
 ·
  exact h.aS
 ·
  exact ownsRow_setCell_below ((h.oF.alloc _).kept hg (own_types h.oF h.oN (by decide))) (by simp) _
 ·
  exact fun z hz=>⟨(h.aF z hz).1,(h.aF z hz).2.stp (hst _ (by decide)) fun _ _ _ _ _ _ h=>h⟩
 ·
  rw [List.length_append,snoc_flat]
  exact ownsRow_setCell_below ho (by simp) _
 ·
  intro z hz
  rcases List.mem_append.1 hz with hz | hz
  ·
   exact ⟨(h.aN z hz).1,(h.aN z hz).2.stp (hst _ (by decide)) fun _ _ _ _ _ _ h=>h⟩
  rw [List.mem_singleton]at hz
  subst hz
  exact ⟨rfl,RSl.stp ⟨u,rfl,hu⟩ (hst _ (by decide)) fun _ _ _ _ _ _ h=>h⟩
 ·
  exact ownsRow_setCell_below ((h.oT.alloc _).kept hg (own_types h.oT h.oN (by decide))) (by simp) _
 exact fun z hz=>⟨(h.aT z hz).1,(h.aT z hz).2.stp (hst _ (by decide)) fun _ _ _ _ _ _ h=>h⟩
set_option maxHeartbeats 1000000 in
theorem Lv.addT {w0 W:World} {vC vS vF vN vT:Value} {zS:List (List Value×Int)} {zF:List (List Value×(List FieldD))} {zN:List (List Value×(List ByteArray))} {zT:List (List Value×(List TargD))} (h:Lv w0 W vC vS vF vN vT zS zF zN zT) {u:Value} {x:List TargD} (hu:SL 2 RT (MT w0.heap.size [67] W) W u x) {w1:World} {v':Value}
 (ho:w1.ownsRow (w0.heap.size+1) 57 1 v' (zT.length+1) (zT.flatMap (·.1)++ [u])) (hg:(W.alloc (.cells #[u] 57)).grownBy w1 vT.ownBlock):
 Lv w0 (w1.setCell ⟨w0.heap.size,4,none⟩ v') vC vS vF vN v' zS zF zN (zT++ [([u],x)]):=by
 have hlt:=h.lt
 have hrb:∀q,vT.ownBlock=some q->w0.heap.size+1<=q/\q<W.heap.size:=fun q e=>h.oT.lt q e
 have hb1:w1.heap[w0.heap.size]? =some (.cells #[vC,vS,vF,vN,vT] 28 (0,0)):=by
  rw [hg.block w0.heap.size (by simp;omega) (fun e=>by have:=(hrb _ e.symm).1;omega),Below.heap_alloc _ _ _ hlt]
  exact h.blk
 have hst:∀t,t∉ [57,28]->Stp w0.heap.size [t] W (w1.setCell ⟨w0.heap.size,4,none⟩ v'):=fun t ht=>
  (((Stp.refl _ _ _).alloc _).trans (Stp.row hg (h.oT.alloc _) (fun e=>ht (by simp at e;simp [e])))).trans (Stp.set hb1 (fun e=>ht (by simp at e;simp [<-e])) 4 v')
 have hB1:Below w0.heap.size w0 w1:=(h.below.alloc h.below.size _).grown hg (by have:=h.below.size;simp;omega) (fun q e=>by have:=(hrb q e).1;omega)
 refine ⟨hB1.setCell (by simp) _,heap_set hb1 v',?_,?_,?_,?_,?_,?_,?_,?_⟩
 ·
  exact ownsRow_setCell_below ((h.oS.alloc _).kept hg (own_types h.oS h.oT (by decide))) (by simp) _
 ·
  exact h.aS
 ·
  exact ownsRow_setCell_below ((h.oF.alloc _).kept hg (own_types h.oF h.oT (by decide))) (by simp) _
 ·
  exact fun z hz=>⟨(h.aF z hz).1,(h.aF z hz).2.stp (hst _ (by decide)) fun _ _ _ _ _ _ h=>h⟩
 ·
  exact ownsRow_setCell_below ((h.oN.alloc _).kept hg (own_types h.oN h.oT (by decide))) (by simp) _
 ·
  exact fun z hz=>⟨(h.aN z hz).1,(h.aN z hz).2.stp (hst _ (by decide)) fun _ _ _ _ _ _ h=>h⟩
 ·
  rw [List.length_append,snoc_flat]
  exact ownsRow_setCell_below ho (by simp) _
 intro z hz
 rcases List.mem_append.1 hz with hz | hz
 ·
  exact ⟨(h.aT z hz).1,(h.aT z hz).2.stp (hst _ (by decide)) fun _ _ _ _ _ _ h=>h⟩
 rw [List.mem_singleton]at hz
 subst hz
 exact ⟨rfl,RSl.stp ⟨u,rfl,hu⟩ (hst _ (by decide)) fun _ _ _ _ _ _ h=>h⟩
theorem Lv.stpS {w0 W:World} {vC vS vF vN vT:Value} {zS:List (List Value×Int)} {zF:List (List Value×(List FieldD))} {zN:List (List Value×(List ByteArray))} {zT:List (List Value×(List TargD))} (h:Lv w0 W vC vS vF vN vT zS zF zN zT) {u:Value} {w1:World} {v':Value} {n:Nat} {xs:List Value}
 (_:w1.ownsRow (w0.heap.size+1) 3 1 v' n xs) (hg:(W.alloc (.cells #[u] 3)).grownBy w1 vS.ownBlock) (t:Nat) (ht:t∉ [3,28]):
 Stp w0.heap.size [t] W (w1.setCell ⟨w0.heap.size,1,none⟩ v'):=by
 have hlt:=h.lt
 have hrb:∀q,vS.ownBlock=some q->w0.heap.size+1<=q/\q<W.heap.size:=fun q e=>h.oS.lt q e
 have hb1:w1.heap[w0.heap.size]? =some (.cells #[vC,vS,vF,vN,vT] 28 (0,0)):=by
  rw [hg.block w0.heap.size (by simp;omega) (fun e=>by have:=(hrb _ e.symm).1;omega),Below.heap_alloc _ _ _ hlt]
  exact h.blk
 exact (((Stp.refl _ _ _).alloc _).trans (Stp.row hg (h.oS.alloc _) (fun e=>ht (by simp at e;simp [e])))).trans (Stp.set hb1 (fun e=>ht (by simp at e;simp [<-e])) 1 v')
theorem Lv.stpF {w0 W:World} {vC vS vF vN vT:Value} {zS:List (List Value×Int)} {zF:List (List Value×(List FieldD))} {zN:List (List Value×(List ByteArray))} {zT:List (List Value×(List TargD))} (h:Lv w0 W vC vS vF vN vT zS zF zN zT) {u:Value} {w1:World} {v':Value} {n:Nat} {xs:List Value}
 (_:w1.ownsRow (w0.heap.size+1) 54 1 v' n xs) (hg:(W.alloc (.cells #[u] 54)).grownBy w1 vF.ownBlock) (t:Nat) (ht:t∉ [54,28]):
 Stp w0.heap.size [t] W (w1.setCell ⟨w0.heap.size,2,none⟩ v'):=by
 have hlt:=h.lt
 have hrb:∀q,vF.ownBlock=some q->w0.heap.size+1<=q/\q<W.heap.size:=fun q e=>h.oF.lt q e
 have hb1:w1.heap[w0.heap.size]? =some (.cells #[vC,vS,vF,vN,vT] 28 (0,0)):=by
  rw [hg.block w0.heap.size (by simp;omega) (fun e=>by have:=(hrb _ e.symm).1;omega),Below.heap_alloc _ _ _ hlt]
  exact h.blk
 exact (((Stp.refl _ _ _).alloc _).trans (Stp.row hg (h.oF.alloc _) (fun e=>ht (by simp at e;simp [e])))).trans (Stp.set hb1 (fun e=>ht (by simp at e;simp [<-e])) 2 v')
theorem Lv.stpN {w0 W:World} {vC vS vF vN vT:Value} {zS:List (List Value×Int)} {zF:List (List Value×(List FieldD))} {zN:List (List Value×(List ByteArray))} {zT:List (List Value×(List TargD))} (h:Lv w0 W vC vS vF vN vT zS zF zN zT) {u:Value} {w1:World} {v':Value} {n:Nat} {xs:List Value}
 (_:w1.ownsRow (w0.heap.size+1) 56 1 v' n xs) (hg:(W.alloc (.cells #[u] 56)).grownBy w1 vN.ownBlock) (t:Nat) (ht:t∉ [56,28]):
 Stp w0.heap.size [t] W (w1.setCell ⟨w0.heap.size,3,none⟩ v'):=by
 have hlt:=h.lt
 have hrb:∀q,vN.ownBlock=some q->w0.heap.size+1<=q/\q<W.heap.size:=fun q e=>h.oN.lt q e
 have hb1:w1.heap[w0.heap.size]? =some (.cells #[vC,vS,vF,vN,vT] 28 (0,0)):=by
  rw [hg.block w0.heap.size (by simp;omega) (fun e=>by have:=(hrb _ e.symm).1;omega),Below.heap_alloc _ _ _ hlt]
  exact h.blk
 exact (((Stp.refl _ _ _).alloc _).trans (Stp.row hg (h.oN.alloc _) (fun e=>ht (by simp at e;simp [e])))).trans (Stp.set hb1 (fun e=>ht (by simp at e;simp [<-e])) 3 v')
theorem Lv.rlk {w0 W:World} {vC vS vF vN vT:Value} {zS:List (List Value×Int)} {zF:List (List Value×(List FieldD))} {zN:List (List Value×(List ByteArray))} {zT:List (List Value×(List TargD))} {l:List ClassD} {B:Nat} (h:Lv w0 W vC vS vF vN vT zS zF zN zT) (hB:B<=w0.heap.size) (hC:SL 4 RC (· <B) W vC l) (h1:zS.length<=1000) (h2:zF.length<=1000) (h3:zN.length<=1000) (h4:zT.length<=1000):
 RLk (fun k=>(k<B\/w0.heap.size<=k)/\k<W.heap.size) W vC vS vF vN vT ⟨l,zS.map (·.2),zF.map (·.2),zN.map (·.2),zT.map (·.2)⟩:=by
 have hm:∀ {T:List Nat} (k:Nat),MT w0.heap.size T W k->(k<B\/w0.heap.size<=k)/\k<W.heap.size:=fun k hk=>⟨Or.inr hk.1,hk.lt⟩
 have sS:=own_SL (n:=1) (R:=RI) (T:=[3]) (own_lower h.oS (B':=w0.heap.size) (by omega)) (fun z hz=>⟨by rw [h.aS z hz];rfl,h.aS z hz⟩) (by simp) (by unfold maxLen;omega)
 have sF:=own_SL (n:=1) (R:=RSl 3 RF) (T:=[85,54]) (own_lower h.oF (B':=w0.heap.size) (by omega)) (fun z hz=>⟨(h.aF z hz).1,by
  obtain ⟨v,e,hs⟩:=(h.aF z hz).2
  exact ⟨v,e,hs.mono (fun _ hk=>hk.more (Nat.le_refl _) (fun _ ht=>by simp at ht;simp [ht])) fun _ _ h=>h⟩⟩) (by simp) (by unfold maxLen;omega)
 have sN:=own_SL (n:=1) (R:=RSl 1 RS) (T:=[9,56]) (own_lower h.oN (B':=w0.heap.size) (by omega)) (fun z hz=>⟨(h.aN z hz).1,by
  obtain ⟨v,e,hs⟩:=(h.aN z hz).2
  exact ⟨v,e,hs.mono (fun _ hk=>hk.more (Nat.le_refl _) (fun _ ht=>by simp at ht;simp [ht])) fun _ _ h=>h⟩⟩) (by simp) (by unfold maxLen;omega)
 have sT:=own_SL (n:=1) (R:=RSl 2 RT) (T:=[67,57]) (own_lower h.oT (B':=w0.heap.size) (by omega)) (fun z hz=>⟨(h.aT z hz).1,by
  obtain ⟨v,e,hs⟩:=(h.aT z hz).2
  exact ⟨v,e,hs.mono (fun _ hk=>hk.more (Nat.le_refl _) (fun _ ht=>by simp at ht;simp [ht])) fun _ _ h=>h⟩⟩) (by simp) (by unfold maxLen;omega)
 exact ⟨hC.monoC (fun k (hk:k<B)=>⟨Or.inl hk,by have:=h.below.size;omega⟩),sS.monoI hm,sF.monoSl hm (fun _ _ h=>h),sN.monoSl hm (fun _ _ h=>h),sT.monoSl hm (fun _ _ h=>h)⟩
end Go.Proofs.YtcddpmappmjilaaGreatDoor
