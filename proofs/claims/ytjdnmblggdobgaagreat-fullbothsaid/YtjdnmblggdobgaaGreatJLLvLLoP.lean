import Derived.Test.YtjdnmblggdobgaaGreatJLCkLCkP
import Derived.Test.YtjdnmblggdobgaaGreatJLLkLBas
set_option maxHeartbeats 16000000
set_option maxRecDepth 100000
namespace Go.Proofs.YtjdnmblggdobgaaGreat
open Go.RowKit Tryz List Or World
section
open Go.Sort
variable {E N A D W:World} {F J G I O X vS Z L Y:Value}
structure Lv (w0 W:World) (vC vS vF vN vT:Value) (zS:List (List Value×Int)) (zF:List (List Value×(List bv))) (zN:List (List Value×(List ByteArray))) (zT:List (List Value×(List dc))):Prop where
 below:Bl w0 W
 blk:W.heap[w0.heap.size]? =some (.cells #[vC,vS,vF,vN,vT] 36 (0,0))
 oS:W.ownsRow (w0.heap.size+1) 3 1 vS zS.length (zS.flatMap (·.1))
 aS:∀z∈zS,z.1= [Value.int .i64 z.2]
 oF:W.ownsRow (w0.heap.size+1) 126 1 vF zF.length (zF.flatMap (·.1))
 aF:∀z∈zF,z.1.length=1/\la 3 RF (MT w0.heap.size [125] W) W z.1 z.2
 oN:W.ownsRow (w0.heap.size+1) 225 1 vN zN.length (zN.flatMap (·.1))
 aN:∀z∈zN,z.1.length=1/\la 1 RS (MT w0.heap.size [9] W) W z.1 z.2
 oT:W.ownsRow (w0.heap.size+1) 226 1 vT zT.length (zT.flatMap (·.1))
 aT:∀z∈zT,z.1.length=1/\la 2 RT (MT w0.heap.size [233] W) W z.1 z.2
theorem Lv.lt {D G E F I:Value} {N:List (List Value×Int)} {J:List (List Value×(List bv))} {L:List (List Value×(List ByteArray))} {O:List (List Value×(List dc))} (h:Lv A W D G E F I N J L O):A.heap.size<W.heap.size:=bz h.blk
theorem Lv.grow {X:List (List Value×Int)} {O:List (List Value×(List bv))} {V:List (List Value×(List ByteArray))} {Y:List (List Value×(List dc))} {E:World} (h:Lv N W F J G I L X O V Y) (A:Bl W E):Lv N E F J G I L X O V Y:=
 ⟨h.below.trans (A.mono h.below.size),(A.block _ h.lt).trans h.blk,km h.oS A,h.aS,km h.oF A,(fun z D=>⟨(h.aF z D).1,(h.aF z D).2.stp (Stp.below A) fun _ _ _ _ _ _ h=>h⟩),km h.oN A,(fun z D=>⟨(h.aN z D).1,(h.aN z D).2.stp (Stp.below A) fun _ _ _ _ _ _ h=>h⟩),km h.oT A,(fun z D=>⟨(h.aT z D).1,(h.aT z D).2.stp (Stp.below A) fun _ _ _ _ _ _ h=>h⟩)⟩
theorem Lv.addS {Z vT:Value} {N:List (List Value×Int)} {zF:List (List Value×(List bv))} {zN:List (List Value×(List ByteArray))} {zT:List (List Value×(List dc))} (h:Lv D W X L Y Z vT N zF zN zT) {u:Value} {x:Int} (hu:u=.i x) {G:World} {F:Value} (ho:G.ownsRow (D.heap.size+1) 3 1 F (N.length+1) (N.flatMap (·.1)++ [u])) (E:(W.alloc (.cells #[u] 3)).grownBy G L.ownBlock):
 Lv D (G.setCell ⟨D.heap.size,1,none⟩ F) X F Y Z vT (N++ [([u],x)]) zF zN zT:=by
 have V:=h.lt;have J:∀q,L.ownBlock=some q->D.heap.size+1<=q/\q<W.heap.size:=fun q e=>h.oS.lt q e;have I:G.heap[D.heap.size]? =some (.cells #[X,L,Y,Z,vT] 36 (0,0)):=by rw [E.block D.heap.size (by simp;omega) (fun e=>by have:=(J _ e.symm).1;omega),Below.heap_alloc _ _ _ V];exact h.blk
 have hst:∀t,t∉ [3,36]->Stp D.heap.size [t] W (G.setCell ⟨D.heap.size,1,none⟩ F):=fun t ht=>
  (((Stp.refl _ _ _).alloc _).trans (Stp.row E (h.oS.alloc _) (fun e=>ht (by simp at e;simp [e])))).trans (Stp.set I (fun e=>ht (by simp at e;simp [<-e])) 1 F)
 have O:Bl D G:=(h.below.alloc h.below.size _).grown E (by have:=h.below.size;simp;omega) (fun q e=>by have:=(J q e).1;omega);refine ⟨O.setCell (by simp) _,s9 I F,?_,?_,?_,?_,?_,?_,?_,?_⟩
 ·rw [length_append,Es];exact ownsRow_setCell_below ho (by simp) _
 ·intro z A;rcases mem_append.1 A with A | A
  ·exact h.aS z A
  rw [mem_singleton]at A;subst A;rw [hu]
 ·exact ownsRow_setCell_below ((h.oF.alloc _).kept E (tw h.oF h.oS (by decide))) (by simp) _
 ·exact fun z A=>⟨(h.aF z A).1,(h.aF z A).2.stp (hst _ (by decide)) fun _ _ _ _ _ _ h=>h⟩
 ·exact ownsRow_setCell_below ((h.oN.alloc _).kept E (tw h.oN h.oS (by decide))) (by simp) _
 ·exact fun z A=>⟨(h.aN z A).1,(h.aN z A).2.stp (hst _ (by decide)) fun _ _ _ _ _ _ h=>h⟩
 ·exact ownsRow_setCell_below ((h.oT.alloc _).kept E (tw h.oT h.oS (by decide))) (by simp) _
 exact fun z A=>⟨(h.aT z A).1,(h.aT z A).2.stp (hst _ (by decide)) fun _ _ _ _ _ _ h=>h⟩
theorem Lv.addF {vT:Value} {zS:List (List Value×Int)} {N:List (List Value×(List bv))} {zN:List (List Value×(List ByteArray))} {zT:List (List Value×(List dc))} (h:Lv D W X Z L Y vT zS N zN zT) {u:Value} {x:List bv} (hu:SL 3 RF (MT D.heap.size [125] W) W u x) {G:World} {F:Value} (ho:G.ownsRow (D.heap.size+1) 126 1 F (N.length+1) (N.flatMap (·.1)++ [u])) (E:(W.alloc (.cells #[u] 126)).grownBy G L.ownBlock):
 Lv D (G.setCell ⟨D.heap.size,2,none⟩ F) X Z F Y vT zS (N++ [([u],x)]) zN zT:=by
 have V:=h.lt;have J:∀q,L.ownBlock=some q->D.heap.size+1<=q/\q<W.heap.size:=fun q e=>h.oF.lt q e;have I:G.heap[D.heap.size]? =some (.cells #[X,Z,L,Y,vT] 36 (0,0)):=by rw [E.block D.heap.size (by simp;omega) (fun e=>by have:=(J _ e.symm).1;omega),Below.heap_alloc _ _ _ V];exact h.blk
 have hst:∀t,t∉ [126,36]->Stp D.heap.size [t] W (G.setCell ⟨D.heap.size,2,none⟩ F):=fun t ht=>
  (((Stp.refl _ _ _).alloc _).trans (Stp.row E (h.oF.alloc _) (fun e=>ht (by simp at e;simp [e])))).trans (Stp.set I (fun e=>ht (by simp at e;simp [<-e])) 2 F)
 have O:Bl D G:=(h.below.alloc h.below.size _).grown E (by have:=h.below.size;simp;omega) (fun q e=>by have:=(J q e).1;omega);refine ⟨O.setCell (by simp) _,s9 I F,?_,?_,?_,?_,?_,?_,?_,?_⟩
 ·exact ownsRow_setCell_below ((h.oS.alloc _).kept E (tw h.oS h.oF (by decide))) (by simp) _
 ·exact h.aS
 ·rw [length_append,Es];exact ownsRow_setCell_below ho (by simp) _
 ·intro z A;rcases mem_append.1 A with A | A
  ·exact ⟨(h.aF z A).1,(h.aF z A).2.stp (hst _ (by decide)) fun _ _ _ _ _ _ h=>h⟩
  rw [mem_singleton]at A;subst A;exact ⟨rfl,la.stp ⟨u,rfl,hu⟩ (hst _ (by decide)) fun _ _ _ _ _ _ h=>h⟩
 ·exact ownsRow_setCell_below ((h.oN.alloc _).kept E (tw h.oN h.oF (by decide))) (by simp) _
 ·exact fun z A=>⟨(h.aN z A).1,(h.aN z A).2.stp (hst _ (by decide)) fun _ _ _ _ _ _ h=>h⟩
 ·exact ownsRow_setCell_below ((h.oT.alloc _).kept E (tw h.oT h.oF (by decide))) (by simp) _
 exact fun z A=>⟨(h.aT z A).1,(h.aT z A).2.stp (hst _ (by decide)) fun _ _ _ _ _ _ h=>h⟩
theorem Lv.addN {L vT:Value} {zS:List (List Value×Int)} {zF:List (List Value×(List bv))} {N:List (List Value×(List ByteArray))} {zT:List (List Value×(List dc))} (h:Lv D W X Z Y L vT zS zF N zT) {u:Value} {x:List ByteArray} (hu:SL 1 RS (MT D.heap.size [9] W) W u x) {G:World} {F:Value} (ho:G.ownsRow (D.heap.size+1) 225 1 F (N.length+1) (N.flatMap (·.1)++ [u])) (E:(W.alloc (.cells #[u] 225)).grownBy G L.ownBlock):
 Lv D (G.setCell ⟨D.heap.size,3,none⟩ F) X Z Y F vT zS zF (N++ [([u],x)]) zT:=by
 have V:=h.lt;have J:∀q,L.ownBlock=some q->D.heap.size+1<=q/\q<W.heap.size:=fun q e=>h.oN.lt q e;have I:G.heap[D.heap.size]? =some (.cells #[X,Z,Y,L,vT] 36 (0,0)):=by rw [E.block D.heap.size (by simp;omega) (fun e=>by have:=(J _ e.symm).1;omega),Below.heap_alloc _ _ _ V];exact h.blk
 have hst:∀t,t∉ [225,36]->Stp D.heap.size [t] W (G.setCell ⟨D.heap.size,3,none⟩ F):=fun t ht=>
  (((Stp.refl _ _ _).alloc _).trans (Stp.row E (h.oN.alloc _) (fun e=>ht (by simp at e;simp [e])))).trans (Stp.set I (fun e=>ht (by simp at e;simp [<-e])) 3 F)
 have O:Bl D G:=(h.below.alloc h.below.size _).grown E (by have:=h.below.size;simp;omega) (fun q e=>by have:=(J q e).1;omega);refine ⟨O.setCell (by simp) _,s9 I F,?_,?_,?_,?_,?_,?_,?_,?_⟩
 ·exact ownsRow_setCell_below ((h.oS.alloc _).kept E (tw h.oS h.oN (by decide))) (by simp) _
 ·exact h.aS
 ·exact ownsRow_setCell_below ((h.oF.alloc _).kept E (tw h.oF h.oN (by decide))) (by simp) _
 ·exact fun z A=>⟨(h.aF z A).1,(h.aF z A).2.stp (hst _ (by decide)) fun _ _ _ _ _ _ h=>h⟩
 ·rw [length_append,Es];exact ownsRow_setCell_below ho (by simp) _
 ·intro z A;rcases mem_append.1 A with A | A
  ·exact ⟨(h.aN z A).1,(h.aN z A).2.stp (hst _ (by decide)) fun _ _ _ _ _ _ h=>h⟩
  rw [mem_singleton]at A;subst A;exact ⟨rfl,la.stp ⟨u,rfl,hu⟩ (hst _ (by decide)) fun _ _ _ _ _ _ h=>h⟩
 ·exact ownsRow_setCell_below ((h.oT.alloc _).kept E (tw h.oT h.oN (by decide))) (by simp) _
 exact fun z A=>⟨(h.aT z A).1,(h.aT z A).2.stp (hst _ (by decide)) fun _ _ _ _ _ _ h=>h⟩
theorem Lv.addT {Z L:Value} {zS:List (List Value×Int)} {zF:List (List Value×(List bv))} {zN:List (List Value×(List ByteArray))} {N:List (List Value×(List dc))} (h:Lv D W X vS Y Z L zS zF zN N) {u:Value} {x:List dc} (hu:SL 2 RT (MT D.heap.size [233] W) W u x) {G:World} {F:Value} (ho:G.ownsRow (D.heap.size+1) 226 1 F (N.length+1) (N.flatMap (·.1)++ [u])) (E:(W.alloc (.cells #[u] 226)).grownBy G L.ownBlock):
 Lv D (G.setCell ⟨D.heap.size,4,none⟩ F) X vS Y Z F zS zF zN (N++ [([u],x)]):=by
 have V:=h.lt;have J:∀q,L.ownBlock=some q->D.heap.size+1<=q/\q<W.heap.size:=fun q e=>h.oT.lt q e;have I:G.heap[D.heap.size]? =some (.cells #[X,vS,Y,Z,L] 36 (0,0)):=by rw [E.block D.heap.size (by simp;omega) (fun e=>by have:=(J _ e.symm).1;omega),Below.heap_alloc _ _ _ V];exact h.blk
 have hst:∀t,t∉ [226,36]->Stp D.heap.size [t] W (G.setCell ⟨D.heap.size,4,none⟩ F):=fun t ht=>
  (((Stp.refl _ _ _).alloc _).trans (Stp.row E (h.oT.alloc _) (fun e=>ht (by simp at e;simp [e])))).trans (Stp.set I (fun e=>ht (by simp at e;simp [<-e])) 4 F)
 have O:Bl D G:=(h.below.alloc h.below.size _).grown E (by have:=h.below.size;simp;omega) (fun q e=>by have:=(J q e).1;omega);refine ⟨O.setCell (by simp) _,s9 I F,?_,?_,?_,?_,?_,?_,?_,?_⟩
 ·exact ownsRow_setCell_below ((h.oS.alloc _).kept E (tw h.oS h.oT (by decide))) (by simp) _
 ·exact h.aS
 ·exact ownsRow_setCell_below ((h.oF.alloc _).kept E (tw h.oF h.oT (by decide))) (by simp) _
 ·exact fun z A=>⟨(h.aF z A).1,(h.aF z A).2.stp (hst _ (by decide)) fun _ _ _ _ _ _ h=>h⟩
 ·exact ownsRow_setCell_below ((h.oN.alloc _).kept E (tw h.oN h.oT (by decide))) (by simp) _
 ·exact fun z A=>⟨(h.aN z A).1,(h.aN z A).2.stp (hst _ (by decide)) fun _ _ _ _ _ _ h=>h⟩
 ·rw [length_append,Es];exact ownsRow_setCell_below ho (by simp) _
 intro z A;rcases mem_append.1 A with A | A
 ·exact ⟨(h.aT z A).1,(h.aT z A).2.stp (hst _ (by decide)) fun _ _ _ _ _ _ h=>h⟩
 rw [mem_singleton]at A;subst A;exact ⟨rfl,la.stp ⟨u,rfl,hu⟩ (hst _ (by decide)) fun _ _ _ _ _ _ h=>h⟩
theorem Lv.stpS {D V X Y:Value} {zS:List (List Value×Int)} {Z:List (List Value×(List bv))} {zN:List (List Value×(List ByteArray))} {zT:List (List Value×(List dc))} (h:Lv A W O D V X Y zS Z zN zT) {u:Value} {E:World} {J:Value} {n:Nat} {xs:List Value} (_:E.ownsRow (A.heap.size+1) 3 1 J n xs) (L:(W.alloc (.cells #[u] 3)).grownBy E D.ownBlock) (t:Nat) (N:t∉ [3,36]):
 Stp A.heap.size [t] W (E.setCell ⟨A.heap.size,1,none⟩ J):=by
 have G:=h.lt;have I:∀q,D.ownBlock=some q->A.heap.size+1<=q/\q<W.heap.size:=fun q e=>h.oS.lt q e;have F:E.heap[A.heap.size]? =some (.cells #[O,D,V,X,Y] 36 (0,0)):=by rw [L.block A.heap.size (by simp;omega) (fun e=>by have:=(I _ e.symm).1;omega),Below.heap_alloc _ _ _ G];exact h.blk
 exact (((Stp.refl _ _ _).alloc _).trans (Stp.row L (h.oS.alloc _) (fun e=>N (by simp at e;simp [e])))).trans (Stp.set F (fun e=>N (by simp at e;simp [<-e])) 1 J)
theorem Lv.stpF {D V Y:Value} {zS:List (List Value×Int)} {Z:List (List Value×(List bv))} {zN:List (List Value×(List ByteArray))} {zT:List (List Value×(List dc))} (h:Lv A W O X D V Y zS Z zN zT) {u:Value} {E:World} {J:Value} {n:Nat} {xs:List Value} (_:E.ownsRow (A.heap.size+1) 126 1 J n xs) (L:(W.alloc (.cells #[u] 126)).grownBy E D.ownBlock) (t:Nat) (N:t∉ [126,36]):
 Stp A.heap.size [t] W (E.setCell ⟨A.heap.size,2,none⟩ J):=by
 have G:=h.lt;have I:∀q,D.ownBlock=some q->A.heap.size+1<=q/\q<W.heap.size:=fun q e=>h.oF.lt q e;have F:E.heap[A.heap.size]? =some (.cells #[O,X,D,V,Y] 36 (0,0)):=by rw [L.block A.heap.size (by simp;omega) (fun e=>by have:=(I _ e.symm).1;omega),Below.heap_alloc _ _ _ G];exact h.blk
 exact (((Stp.refl _ _ _).alloc _).trans (Stp.row L (h.oF.alloc _) (fun e=>N (by simp at e;simp [e])))).trans (Stp.set F (fun e=>N (by simp at e;simp [<-e])) 2 J)
theorem Lv.stpN {V D Y:Value} {zS:List (List Value×Int)} {Z:List (List Value×(List bv))} {zN:List (List Value×(List ByteArray))} {zT:List (List Value×(List dc))} (h:Lv A W O X V D Y zS Z zN zT) {u:Value} {E:World} {J:Value} {n:Nat} {xs:List Value} (_:E.ownsRow (A.heap.size+1) 225 1 J n xs) (L:(W.alloc (.cells #[u] 225)).grownBy E D.ownBlock) (t:Nat) (N:t∉ [225,36]):
 Stp A.heap.size [t] W (E.setCell ⟨A.heap.size,3,none⟩ J):=by
 have G:=h.lt;have I:∀q,D.ownBlock=some q->A.heap.size+1<=q/\q<W.heap.size:=fun q e=>h.oN.lt q e;have F:E.heap[A.heap.size]? =some (.cells #[O,X,V,D,Y] 36 (0,0)):=by rw [L.block A.heap.size (by simp;omega) (fun e=>by have:=(I _ e.symm).1;omega),Below.heap_alloc _ _ _ G];exact h.blk
 exact (((Stp.refl _ _ _).alloc _).trans (Stp.row L (h.oN.alloc _) (fun e=>N (by simp at e;simp [e])))).trans (Stp.set F (fun e=>N (by simp at e;simp [<-e])) 3 J)
theorem Lv.rlk {X Y vT:Value} {O:List (List Value×Int)} {L:List (List Value×(List bv))} {N:List (List Value×(List ByteArray))} {V:List (List Value×(List dc))} {l:List aq} {B:Nat} (h:Lv E W J Z X Y vT O L N V) (hB:B<=E.heap.size) (hC:SL 4 RC (· <B) W J l) (h1:O.length<=1000) (h2:L.length<=1000) (h3:N.length<=1000) (h4:V.length<=1000):
 nh (fun k=>(k<B\/E.heap.size<=k)/\k<W.heap.size) W J Z X Y vT ⟨l,O.map (·.2),L.map (·.2),N.map (·.2),V.map (·.2)⟩:=by
 have I:∀ {T:List Nat} (k:Nat),MT E.heap.size T W k->(k<B\/E.heap.size<=k)/\k<W.heap.size:=fun k D=>⟨inr D.1,D.lt⟩;have sS:=xr (n:=1) (R:=RI) (T:=[3]) (Cv h.oS (B':=E.heap.size) (by omega)) (fun z A=>⟨by rw [h.aS z A];rfl,h.aS z A⟩) (by simp) (by unfold maxLen;omega);have sF:=xr (n:=1) (R:=la 3 RF) (T:=[125,126]) (Cv h.oF (B':=E.heap.size) (by omega)) (fun z A=>⟨(h.aF z A).1,by
  obtain ⟨v,e,G⟩:=(h.aF z A).2;exact ⟨v,e,G.mono (fun _ D=>D.more (nlq _) (fun _ F=>by simp at F;simp [F])) fun _ _ h=>h⟩⟩) (by simp) (by unfold maxLen;omega)
 have sN:=xr (n:=1) (R:=la 1 RS) (T:=[9,225]) (Cv h.oN (B':=E.heap.size) (by omega)) (fun z A=>⟨(h.aN z A).1,by
  obtain ⟨v,e,G⟩:=(h.aN z A).2;exact ⟨v,e,G.mono (fun _ D=>D.more (nlq _) (fun _ F=>by simp at F;simp [F])) fun _ _ h=>h⟩⟩) (by simp) (by unfold maxLen;omega)
 have sT:=xr (n:=1) (R:=la 2 RT) (T:=[233,226]) (Cv h.oT (B':=E.heap.size) (by omega)) (fun z A=>⟨(h.aT z A).1,by
  obtain ⟨v,e,G⟩:=(h.aT z A).2;exact ⟨v,e,G.mono (fun _ D=>D.more (nlq _) (fun _ F=>by simp at F;simp [F])) fun _ _ h=>h⟩⟩) (by simp) (by unfold maxLen;omega)
 exact ⟨hC.monoC (fun k (D:k<B)=>⟨inl D,by have:=h.below.size;omega⟩),sS.monoI I,sF.monoSl I (fun _ _ h=>h),sN.monoSl I (fun _ _ h=>h),sT.monoSl I (fun _ _ h=>h)⟩
end
def xm (l:List aq) (i:Nat):Bool:=decide ((ni l i).length<=12)&&decide ((kw l i).1.length<=16)
def jy (l:List aq):Int:=if db l≠0 then db l else if fp l (xm l)=true then 0 else 2
def qz (l:List aq):ax:=⟨l,(range l.length).map fun i=>cd l (cz l i).b9,(range l.length).map (ni l),(range l.length).map fun i=>(kw l i).1,(range l.length).map fun i=>(kw l i).2⟩
theorem zqg {l:List aq} (h:db l=0):ed l=0:=by
 by_cases hc:ed l=0
 ·exact hc
 have:db l=ed l:=by simp [db,hc]
 rw [<-this];exact h
theorem set5e (W:World) (R t:Nat) (I J L N O A D E F G:Value) (h:W.heap[R]? =some (.cells #[I,J,L,N,O] t (0,0))):
 ∃W9,(((((W.setCell ⟨R,0,none⟩ A).setCell ⟨R,1,none⟩ D).setCell ⟨R,2,none⟩ E).setCell ⟨R,3,none⟩ F).setCell ⟨R,4,none⟩ G)=W9/\W9.heap[R]? =some (.cells #[A,D,E,F,G] t (0,0))/\W.grownBy W9 (some R):=⟨_,rfl,Fk W R t I J L N O A D E F G h⟩
theorem z1n (w:World) (B:Nat) (l:List aq) (v:Value) (hv:SL 4 RC (· <B) w v l) (hB:B<=w.heap.size) (h0:jy l=0):
 Calls prog 117 #[v] w fun r w'=>Below w.heap.size w w'/\∃kC kS kF kN kT,r=.returned (.tuple #[.agg #[kC,kS,kF,kN,kT],.i 0])/\nh (fun k=>(k<B\/w.heap.size<=k)/\k<w'.heap.size) w' kC kS kF kN kT (qz l):=by
 have X:db l=0:=by
  by_cases h:db l=0
  ·exact h
  have e:jy l=db l:=by rw [jy,if_pos h]
  rw [h0]at e;exact e.symm
 have H0:=aj h0;have bi:=aj X;clear h0 X;obtain ⟨iI,er,ch,ci,cj⟩:=info_parts kh;obtain ⟨iF,eq,cc,ce,cf⟩:=info_parts Cj;obtain ⟨iN,es,ck,cm,cn⟩:=info_parts Ck;obtain ⟨iT,et,co,cp,cr⟩:=info_parts Cl;have HV:=aj hv;obtain ⟨ao,cl,rfl,-⟩:=hv;have av:=aj (fun o=>(br w.heap.size w).alloc (nlq _) o);go_enter func117,ntmps117;go_wp2_with fail;refine (z1m _ B l _ (HV.o.keptC (Kp.below ((av.o _).mono hB))) (lt3 hB (av.o _).size) bi.o).mono ?_;rintro r w1 ⟨rfl,b6⟩;have b5:w1.heap[w.heap.size]? =some (.cells #[.nl,.nl,.nl,.nl,.nl] 36 (0,0)):=(b6.block w.heap.size (by simp)).trans (heap_alloc_new w _);have dl:Below w.heap.size w w1:=(av.o _).trans (b6.mono (av.o _).size);have O:=aj dl;have c0:=aj b5;have e5:w.heap.size<w1.heap.size:=bz b5;have bo:Hid (∀W,Below w1.heap.size w1 W->W.heap[w.heap.size]? =some (.cells #[.nl,.nl,.nl,.nl,.nl] 36 (0,0))/\Below w.heap.size w W):=fun W hW=>⟨(hW.block _ (bz c0.o)).trans c0.o,O.o.trans (hW.mono O.o.size)⟩;clear b6 dl b5;have X:=bi.o;obtain ⟨hN,al⟩:=zgd (zqg X);have cu:=aj al;have c4:Hid (jy l=if fp l (xm l)=true then 0 else 2):=by show jy l=_;rw [jy,if_neg (by simpa using X)]
 rw [X];clear X al;have dd:Hid (Lv w1 (w1.alloc (.cells #[.slice ao l.length cl,.nl,.nl,.nl,.nl] 36)) (.slice ao l.length cl) (.nl) (.nl) (.nl) (.nl) [] [] [] []):=
  ⟨(br _ _).alloc (nlq _) _,heap_alloc_new w1 _,ownsRow_nil _ _ _ _,(fun z hz=>by cases hz),ownsRow_nil _ _ _ _,(fun z hz=>by cases hz),ownsRow_nil _ _ _ _,(fun z hz=>by cases hz),ownsRow_nil _ _ _ _,(fun z hz=>by cases hz)⟩
 go_wp2_with fail;generalize hYY:w1.heap.size=Y at*;go_loopw [6] (fun i wr=>∃(k:Nat) (vS vF vN vT:Value) (zS:List (List Value×Int)) (Z:List (List Value×List bv)) (zN:List (List Value×List ByteArray)) (zT:List (List Value×List dc)),k<=l.length/\i=.i k/\Hid (Lv w1 wr (.slice ao l.length cl) vS vF vN vT zS Z zN zT)/\
  Hid ((zS.map (·.2)=(range k).map fun i=>cd l (cz l i).b9)/\Z.map (·.2)=(range k).map (ni l)/\(zN.map (·.2)=(range k).map fun i=>(kw l i).1)/\(zT.map (·.2)=(range k).map fun i=>(kw l i).2)/\∀j,j<k->xm l j=true)) (fun i _=>l.length - (intOf i).toNat)
 case atStart=>exact ⟨0,_,_,_,_,[],[],[],[],n0q _,rfl,dd.o,rfl,rfl,rfl,rfl,fun j h=>by omega⟩
 case round=>as_aux_lemma=>
  clear dd;obtain ⟨k,vS,vF,vN,vT,zS,Z,zN,zT,J,rfl,HW,HZ⟩:=hrel;have eo:Y<wr.heap.size:=by have:=HW.o.lt;omega
  have d6:zS.length=k/\Z.length=k/\zN.length=k/\zT.length=k:=by obtain ⟨h1,h2,h3,h4,-⟩:=HZ.o;have g1:=congrArg length h1;have g2:=congrArg length h2;have g3:=congrArg length h3;have g4:=congrArg length h4;simp at g1 g2 g3 g4;exact ⟨g1,g2,g3,g4⟩
  have ac:=aj d6;clear d6;have ah:Hid (SL 4 RC (· <B) wr (.slice ao l.length cl) l):=HV.o.keptC (Kp.below ((O.o.trans (HW.o.below.mono O.o.size)).mono hB));have bf:B<=wr.heap.size:=lt3 hB (O.o.trans (HW.o.below.mono O.o.size)).size;by_cases ae:k<l.length
  ·have ey:(0:Int)<=k:=by omega
   have ez:(k:Int)<l.length:=by omega
   have cs:=aj (zod wr B _ l k ae ah.o bf hN (fun c hc=>(cu.o c hc).2.2.1));have c6:Hid (∀W,Below wr.heap.size wr W->Calls prog 183 #[.slice ao l.length cl,.i k] W fun r w'=>Below W.heap.size W w'/\∃v u,r=.returned (.tuple #[v,u])/\SL 1 RS (MT W.heap.size [9] w') w' v (kw l k).1/\SL 2 RT (MT W.heap.size [233] w') w' u (kw l k).2):=fun W hW=>zoh W B _ l k ae (ah.o.keptC (Kp.below (hW.mono bf))) (lt3 bf hW.size) hN (fun c hc=>(cu.o c hc).2.2.2.2.1);have ex:Hid (xm l k=(decide ((ni l k).length<=12)&&decide ((kw l k).1.length<=16))):=rfl
   go_upto_region 10 with (first
    | (go_at_call 182;refine cs.o.mono ?_;rintro r w2 ⟨d4,u7,rfl,ef⟩;have aa:=aj d4;have c1:=aj ef;obtain ⟨a7,c7,rfl,-⟩:=ef;clear d4)
    | (go_at_call 183;refine (c6.o _ aa.o).mono ?_;rintro r I ⟨d5,u8,u9,rfl,eg,eh⟩;have aw:=aj d5;have c2:=aj eg;have c3:=aj eh;obtain ⟨a8,c8,rfl,-⟩:=eg;obtain ⟨a9,c9,rfl,-⟩:=eh;clear d5))
   have ca:Hid (Below wr.heap.size wr I):=aa.o.trans (aw.o.mono aa.o.size);have ai:=aj (HW.o.grow ca.o);by_cases b7:xm l k=false
   ·have c5:Hid (jy l=2):=c4.o.trans (by rw [Ey ae b7];rfl);exact absurd c5.o (by rw [H0.o];decide)
   have am:xm l k=true:=by simpa using b7
   have cv:=aj am;have d3:(ni l k).length<=12/\(kw l k).1.length<=16:=by simpa [xm]using am
   have e6:¬((12:Int)<(ni l k).length):=by omega
   have e7:¬((16:Int)<(kw l k).1.length):=by omega
   clear b7 am d3;have b4:Hid (SL 4 RC (· <B) I (.slice ao l.length cl) l):=ah.o.keptC (Kp.below (ca.o.mono bf));obtain ⟨b,off,vf,vm,rfl,hb,-,e1,-,-,-,-,-,dj⟩:=b4.o.atC k ae;have ct:=aj (C1 I.drew (· <B) _ l l[k].b9 b4.o);have el:Hid (cd l l[k].b9=cd l (cz l k).b9):=by show _=_;rw [tu ae]
   have a2:Hid (I.heap[Y]? =some (.cells #[.slice (some ⟨b,off,none⟩) l.length cl,vS,vF,vN,vT] 36 (0,0))):=hYY ▸ ai.o.blk;have m3:=bg a2.o 1 (x:=vS) rfl;have d1:=bz a2.o;have b0:Hid (I.ownsRow (Y+1) 3 1 vS zS.length (zS.flatMap (·.1))):=hYY ▸ ai.o.oS;have cy:Hid (∀c,((I.alloc c).drew).ownsRow (Y+1) 3 1 vS zS.length (zS.flatMap (·.1))):=fun c=>b0.o.alloc c;have cx:Hid (∀c,((I.alloc c).drew).heap[I.heap.size]? =some c):=fun c=>heap_alloc_new I c;have a0:Hid (zS.length+1<=maxLen/\(zS.length+1)*8<=140737488355328/\Y+1<=((I.alloc (.cells #[.i (cd l l[k].b9)] 3)).drew).heap.size):=(by have hz:=ac.o.1;exact ⟨by unfold maxLen;omega,by omega,by show Y+1<=(I.alloc _).heap.size;simp;omega⟩);have bk:Hid (SL 3 RF (MT Y [125] I) I (Value.slice a7 (ni l k).length c7) (ni l k)):=(c1.o.keptF (Stp.below aw.o).kp).monoF fun _ J=>(J.step (Stp.below aw.o)).more (by omega) (fun _ ht=>ht);have bl:Hid (SL 1 RS (MT Y [9] I) I (Value.slice a8 (kw l k).1.length c8) (kw l k).1):=c2.o.monoS fun _ J=>J.more (by have:=aa.o.size;omega) (fun _ ht=>ht);have bm:Hid (SL 2 RT (MT Y [233] I) I (Value.slice a9 (kw l k).2.length c9) (kw l k).2):=c3.o.monoT fun _ J=>J.more (by have:=aa.o.size;omega) (fun _ ht=>ht);have ej:=aj dj;clear dj c1 c2 c3 aa aw ca cs c6
   go_upto_region 12 with fail
   go_cut [] (fun W=>∃au bh,Lv w1 W (.slice (some ⟨b,off,none⟩) l.length cl) au vF vN vT bh Z zN zT/\(bh.map (·.2)=(range (k+1)).map fun i=>cd l (cz l i).b9)/\SL 3 RF (MT Y [125] W) W (Value.slice a7 (ni l k).length c7) (ni l k)/\SL 1 RS (MT Y [9] W) W (Value.slice a8 (kw l k).1.length c8) (kw l k).1/\SL 2 RT (MT Y [233] W) W (Value.slice a9 (kw l k).2.length c9) (kw l k).2)
   case first=>
    go_region_law (first
     | (refine step_append_lies _ (by rfl) (.tmp 43) (.tmp 51) 22 (by rfl) (Y+1) 3 iI (.i 0) 1 8 underlying22 er ch ci cj rfl (by decide) vS zS.length (zS.flatMap (·.1)) (by rfl) (cy.o _) ⟨I.heap.size,0,none⟩ 1 1 [.i (cd l l[k].b9)] (by rfl) rfl (news_of_block (cx.o _)) (by intro u hu;simp at hu;subst hu;rfl) (by decide) a0.o.1 a0.o.2.1 a0.o.2.2 _ rfl ?_;intro gA cA w9 D A _ L;have G:∀q,vS.ownBlock=some q->Y+1<=q:=fun q e=>(b0.o.lt q e).1;have E:=(A.block Y (by show Y<(I.alloc _).heap.size;simp;omega) (fun e=>by have:=G _ e.symm;omega)).trans ((Below.heap_alloc I _ _ d1).trans a2.o);have m9:=bg E 1 (x:=vS) rfl;have z9:=pq E 1;have an:=bz E;have a6:Hid (_/\grownBy (I.alloc (.cells #[.i (cd l l[k].b9)] 3)) w9 vS.ownBlock):=(And.intro D ⟨A.os,A.tape,A.output,A.size,A.block⟩);clear D A E G)
     | (go_simp;go_wp2_with (go_at_call 184;refine ct.o.mono ?_;rintro r w7 ⟨rfl,rfl⟩)))
    all_goals
     have bj:=aj (ai.o.addS (x:=cd l l[k].b9) rfl (hYY.symm ▸ a6.o.1) a6.o.2);have hst:=ai.o.stpS (hYY.symm ▸ a6.o.1) a6.o.2;rw [hYY]at bj hst;have bb:=aj ((bk.o.keptF (hst 125 (by decide)).kp).monoF fun _ J=>J.step (hst 125 (by decide)));have bc:=aj ((bl.o.keptS (hst 9 (by decide)).kp).monoS fun _ J=>J.step (hst 9 (by decide)));have bd:=aj ((bm.o.keptT (hst 233 (by decide)).kp).monoT fun _ J=>J.step (hst 233 (by decide)));clear hst;go_wp2_with fail
     go_meet
     exact ⟨_,_,bj.o,by rw [map_append,HZ.o.1,Ev,<-el.o];rfl,bb.o,bc.o,bd.o⟩
   case rest=>as_aux_lemma=>
    clear m3 HW a2 cy b0 cx a0 bk bl bm ct b4 d1 eo e1 hb ai ej
    rename World=>W
    obtain ⟨au,bh,hW,d2,k7,k8,k9⟩:=hcut;have ak:=aj hW;have dg:=aj d2;have bb:=aj k7;have bc:=aj k8;have bd:=aj k9;clear hW d2 k7 k8 k9;have a3:Hid (W.heap[Y]? =some (.cells #[.slice (some ⟨b,off,none⟩) l.length cl,au,vF,vN,vT] 36 (0,0))):=hYY ▸ ak.o.blk;have mF:=bg a3.o 2 (x:=vF) rfl;have eb:=bz a3.o;have b1:Hid (W.ownsRow (Y+1) 126 1 vF Z.length (Z.flatMap (·.1))):=hYY ▸ ak.o.oF;have ay:Hid (Z.length+1<=maxLen/\(Z.length+1)*24<=140737488355328/\Y+1<=(W.alloc (.cells #[Value.slice a7 (ni l k).length c7] 126)).heap.size):=(by have hz:=ac.o.2.1;exact ⟨by unfold maxLen;omega,by omega,by simp;omega⟩)
    go_upto_region 14 with (at_builtin;refine wpList_append_lies _ rfl _ _ 32 rfl (Y+1) 126 iF (.nl) 1 24 underlying32 eq cc ce cf rfl (by decide) vF Z.length (Z.flatMap (·.1)) rfl (b1.o.alloc _) ⟨W.heap.size,0,none⟩ 1 1 [Value.slice a7 (ni l k).length c7] rfl rfl (news_of_block (heap_alloc_new W _)) (by intro u hu;simp at hu;subst hu;rfl) (by decide) ay.o.1 ay.o.2.1 ay.o.2.2 _ rfl ?_;intro gA cA w9 D A _ L;have G:∀q,vF.ownBlock=some q->Y+1<=q:=fun q e=>(b1.o.lt q e).1;have E:=(A.block Y (by simp;omega) (fun e=>by have:=G _ e.symm;omega)).trans ((Below.heap_alloc _ _ _ eb).trans a3.o);have m9:=bg E 2 (x:=vF) rfl;have z9:=pq E 2;have an:=bz E;have V:=aj (ak.o.addF (hYY.symm ▸ bb.o) (hYY.symm ▸ D) A);have hst:=ak.o.stpF (hYY.symm ▸ D) A;rw [hYY]at V hst;have bs:=aj ((bc.o.keptS (hst 9 (by decide)).kp).monoS fun _ J=>J.step (hst 9 (by decide)));have bu:=aj ((bd.o.keptT (hst 233 (by decide)).kp).monoT fun _ J=>J.step (hst 233 (by decide)));clear hst;clear D A E G)
    obtain ⟨wn,d8⟩:∃wn,w9.setCell ⟨Y,2,none⟩ (.slice (some ⟨gA,0,none⟩) (Z.length+1) cA)=wn:=⟨_,rfl⟩;rw [d8]at V bs bu ⊢;have a4:Hid (wn.heap[Y]? =some (.cells #[.slice (some ⟨b,off,none⟩) l.length cl,au,.slice (some ⟨gA,0,none⟩) (Z.length+1) cA,vN,vT] 36 (0,0))):=hYY ▸ V.o.blk;have mN:=bg a4.o 3 (x:=vN) rfl;have ec:=bz a4.o;have b2:Hid (wn.ownsRow (Y+1) 225 1 vN zN.length (zN.flatMap (·.1))):=hYY ▸ V.o.oN;have az:Hid (zN.length+1<=maxLen/\(zN.length+1)*24<=140737488355328/\Y+1<=(wn.alloc (.cells #[Value.slice a8 (kw l k).1.length c8] 225)).heap.size):=(by have hz:=ac.o.2.2.1;exact ⟨by unfold maxLen;omega,by omega,by simp;omega⟩);clear d8 m9 z9 an L mF eb ak a3 b1 ay bb bc bd
    go_upto_region 15 with (at_builtin;refine wpList_append_lies _ rfl _ _ 33 rfl (Y+1) 225 iN (.nl) 1 24 underlying33 es ck cm cn rfl (by decide) vN zN.length (zN.flatMap (·.1)) rfl (b2.o.alloc _) ⟨wn.heap.size,0,none⟩ 1 1 [Value.slice a8 (kw l k).1.length c8] rfl rfl (news_of_block (heap_alloc_new wn _)) (by intro u hu;simp at hu;subst hu;rfl) (by decide) az.o.1 az.o.2.1 az.o.2.2 _ rfl ?_;intro gB cB w8 D A _ L;have G:∀q,vN.ownBlock=some q->Y+1<=q:=fun q e=>(b2.o.lt q e).1;have E:=(A.block Y (by simp;omega) (fun e=>by have:=G _ e.symm;omega)).trans ((Below.heap_alloc _ _ _ ec).trans a4.o);have m9:=bg E 3 (x:=vN) rfl;have z9:=pq E 3;have an:=bz E;have ad:=aj (V.o.addN (hYY.symm ▸ bs.o) (hYY.symm ▸ D) A);have hst:=V.o.stpN (hYY.symm ▸ D) A;rw [hYY]at ad hst;have bx:=aj ((bu.o.keptT (hst 233 (by decide)).kp).monoT fun _ J=>J.step (hst 233 (by decide)));clear hst;clear D A E G)
    obtain ⟨wt,ea⟩:∃wt,w8.setCell ⟨Y,3,none⟩ (.slice (some ⟨gB,0,none⟩) (zN.length+1) cB)=wt:=⟨_,rfl⟩;rw [ea]at ad bx ⊢;have a5:Hid (wt.heap[Y]? =some (.cells #[.slice (some ⟨b,off,none⟩) l.length cl,au,.slice (some ⟨gA,0,none⟩) (Z.length+1) cA,.slice (some ⟨gB,0,none⟩) (zN.length+1) cB,vT] 36 (0,0))):=hYY ▸ ad.o.blk;have mT:=bg a5.o 4 (x:=vT) rfl;have ee:=bz a5.o;have b3:Hid (wt.ownsRow (Y+1) 226 1 vT zT.length (zT.flatMap (·.1))):=hYY ▸ ad.o.oT;have a1:Hid (zT.length+1<=maxLen/\(zT.length+1)*24<=140737488355328/\Y+1<=(wt.alloc (.cells #[Value.slice a9 (kw l k).2.length c9] 226)).heap.size):=(by have hz:=ac.o.2.2.2;exact ⟨by unfold maxLen;omega,by omega,by simp;omega⟩);clear ea m9 z9 an L mN ec V a4 b2 az bs bu
    go_upto_region 7 with (at_builtin;refine wpList_append_lies _ rfl _ _ 34 rfl (Y+1) 226 iT (.nl) 1 24 underlying34 et co cp cr rfl (by decide) vT zT.length (zT.flatMap (·.1)) rfl (b3.o.alloc _) ⟨wt.heap.size,0,none⟩ 1 1 [Value.slice a9 (kw l k).2.length c9] rfl rfl (news_of_block (heap_alloc_new wt _)) (by intro u hu;simp at hu;subst hu;rfl) (by decide) a1.o.1 a1.o.2.1 a1.o.2.2 _ rfl ?_;intro gC cC w7 D A _ L;have G:∀q,vT.ownBlock=some q->Y+1<=q:=fun q e=>(b3.o.lt q e).1;have E:=(A.block Y (by simp;omega) (fun e=>by have:=G _ e.symm;omega)).trans ((Below.heap_alloc _ _ _ ee).trans a5.o);have m9:=bg E 4 (x:=vT) rfl;have z9:=pq E 4;have an:=bz E;have df:=aj (ad.o.addT (hYY.symm ▸ bx.o) (hYY.symm ▸ D) A);rw [hYY]at df;clear D A E G)
    have en:Hid ((bh.map (·.2)=(range (k+1)).map fun i=>cd l (cz l i).b9)/\((Z++ [([Value.slice a7 (ni l k).length c7],ni l k)]).map (·.2)=(range (k+1)).map (ni l))/\((zN++ [([Value.slice a8 (kw l k).1.length c8],(kw l k).1)]).map (·.2)=(range (k+1)).map fun i=>(kw l i).1)/\((zT++ [([Value.slice a9 (kw l k).2.length c9],(kw l k).2)]).map (·.2)=(range (k+1)).map fun i=>(kw l i).2)/\∀j,j<k+1->xm l j=true):=by
     obtain ⟨-,h2,h3,h4,h5⟩:=HZ.o;refine ⟨dg.o,?_,?_,?_,Ez h5 cv.o⟩
     ·rw [map_append,h2,Ev];rfl
     ·rw [map_append,h3,Ev];rfl
     rw [map_append,h4,Ev];rfl
    clear ad a5 b3 a1 bx mT ee HZ dg;go_wp2_with fail;go_roundw
    case rel=>exact ⟨k+1,_,_,_,_,_,_,_,_,by omega,by go_num,df.o,en.o⟩
    case measure=>simp [intOf];omega
  have eu:k=l.length:=by omega
  have c5:Hid (jy l=0):=c4.o.trans (if_pos (Ex ae HZ.o.2.2.2.2));have af:Hid (nh (fun q=>(q<B\/w1.heap.size<=q)/\q<wr.heap.size) wr (.slice ao l.length cl) vS vF vN vT (qz l)):=by obtain ⟨h1,h2,h3,h4,-⟩:=HZ.o;obtain ⟨g1,g2,g3,g4⟩:=ac.o;have:=HW.o.rlk (B:=B) (lt3 hB O.o.size) ah.o (by omega) (by omega) (by omega) (by omega);rw [h1,h2,h3,h4,eu]at this;exact this
  obtain ⟨hR,ds⟩:=bo.o wr (hYY ▸ HW.o.below);obtain ⟨aS,cS,e1⟩:∃aS cS,vS=.slice aS l.length cS:=(by obtain ⟨a,c,e,-⟩:=af.o.S;exact ⟨a,c,by simpa [qz]using e⟩);obtain ⟨aF,cF,e2⟩:∃aF cF,vF=.slice aF l.length cF:=(by obtain ⟨a,c,e,-⟩:=af.o.F;exact ⟨a,c,by simpa [qz]using e⟩);obtain ⟨aN,cN,e3⟩:∃aN cN,vN=.slice aN l.length cN:=(by obtain ⟨a,c,e,-⟩:=af.o.N;exact ⟨a,c,by simpa [qz]using e⟩);obtain ⟨aT,cT,e4⟩:∃aT cT,vT=.slice aT l.length cT:=(by obtain ⟨a,c,e,-⟩:=af.o.T;exact ⟨a,c,by simpa [qz]using e⟩);subst e1 e2 e3 e4;have bn:wr.heap[Y]? =some (.cells #[.slice ao l.length cl,.slice aS l.length cS,.slice aF l.length cF,.slice aN l.length cN,.slice aT l.length cT] 36 (0,0)):=hYY ▸ HW.o.blk;have dk:=cells5 bn;have rk:=cells5 hR;have f0:∀j,wr.frozen? ⟨w.heap.size,j,none⟩=false:=fun j=>pq hR j;have e0:=bz hR;obtain ⟨W9,d0,dz,du⟩:=set5e _ w.heap.size _ _ _ _ _ _ (.slice ao l.length cl) (.slice aS l.length cS) (.slice aF l.length cF) (.slice aN l.length cN) (.slice aT l.length cT) hR;have ek:=aj dz;have ba:=aj du;have em:=aj d0;have ei:=aj ds;clear hR dz du d0 ds bn HW HZ ah ac;go_wp2_with fail;rw [em.o];have sk:=cells5 ek.o;refine bodyPost_ret (v:=.tuple #[.agg #[.slice ao l.length cl,.slice aS l.length cS,.slice aF l.length cF,.slice aN l.length cN,.slice aT l.length cT],.i 0]) (by simp [results,results117,go_sem,sk]) rfl ⟨pf ei.o ba.o (nlq _),_,_,_,_,_,rfl,?_⟩;exact (af.o.kept (w':=W9) ⟨ba.o.size,fun q hq hl=>ba.o.block q hl (by intro e;injection e with e;rcases hq.1 with h | h<;>omega)⟩).mono fun q hq=>⟨hq.1.imp id (fun h=>by omega),ll3 hq.2 ba.o.size⟩
end Go.Proofs.YtjdnmblggdobgaaGreat
