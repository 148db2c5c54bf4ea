import Derived.Test.YtjdnmblggdobgaaGreatJLNoneLSaD
import Derived.Test.YtjdnmblggdobgaaGreatJLErrLRf4
set_option maxHeartbeats 1000000
namespace Go.Proofs.YtjdnmblggdobgaaGreat
open Go.RowKit Go.Sort
structure Lv (w0 W:World) (vC vS vF vN vT:Value) (zS:List (List Value×Int)) (zF:List (List Value×(List bg))) (zN:List (List Value×(List ByteArray))) (zT:List (List Value×(List cg))):Prop where
 below:Below w0.heap.size w0 W
 blk:W.heap[w0.heap.size]? =some (.cells #[vC,vS,vF,vN,vT] 36 (0,0))
 oS:W.ownsRow (w0.heap.size+1) 3 1 vS zS.length (zS.flatMap (·.1))
 aS:∀z∈zS,z.1= [Value.int .i64 z.2]
 oF:W.ownsRow (w0.heap.size+1) 126 1 vF zF.length (zF.flatMap (·.1))
 aF:∀z∈zF,z.1.length=1/\jm 3 RF (MT w0.heap.size [125] W) W z.1 z.2
 oN:W.ownsRow (w0.heap.size+1) 225 1 vN zN.length (zN.flatMap (·.1))
 aN:∀z∈zN,z.1.length=1/\jm 1 RS (MT w0.heap.size [9] W) W z.1 z.2
 oT:W.ownsRow (w0.heap.size+1) 226 1 vT zT.length (zT.flatMap (·.1))
 aT:∀z∈zT,z.1.length=1/\jm 2 RT (MT w0.heap.size [233] W) W z.1 z.2
theorem Lv.lt {A W:World} {D G E F I:Value} {N:List (List Value×Int)} {J:List (List Value×(List bg))} {L:List (List Value×(List ByteArray))} {O:List (List Value×(List cg))} (h:Lv A W D G E F I N J L O):A.heap.size<W.heap.size:=bk h.blk
theorem Lv.grow {N W:World} {F J G I L:Value} {X:List (List Value×Int)} {O:List (List Value×(List bg))} {V:List (List Value×(List ByteArray))} {Y:List (List Value×(List cg))} {E:World} (h:Lv N W F J G I L X O V Y) (A:Below W.heap.size W E):Lv N E F J G I L X O V Y:=
 ⟨h.below.trans (A.mono h.below.size),(A.block _ h.lt).trans h.blk,kv h.oS A,h.aS,kv h.oF A,(fun z D=>⟨(h.aF z D).1,(h.aF z D).2.stp (Stp.below A) fun _ _ _ _ _ _ h=>h⟩),kv h.oN A,(fun z D=>⟨(h.aN z D).1,(h.aN z D).2.stp (Stp.below A) fun _ _ _ _ _ _ h=>h⟩),kv h.oT A,(fun z D=>⟨(h.aT z D).1,(h.aT z D).2.stp (Stp.below A) fun _ _ _ _ _ _ h=>h⟩)⟩
theorem Lv.addS {D W:World} {X L Y Z vT:Value} {N:List (List Value×Int)} {zF:List (List Value×(List bg))} {zN:List (List Value×(List ByteArray))} {zT:List (List Value×(List cg))} (h:Lv D W X L Y Z vT N zF zN zT) {u:Value} {x:Int} (hu:u=.int .i64 x) {G:World} {F:Value}
 (ho:G.ownsRow (D.heap.size+1) 3 1 F (N.length+1) (N.flatMap (·.1)++ [u])) (E:(W.alloc (.cells #[u] 3)).grownBy G L.ownBlock):
 Lv D (G.setCell ⟨D.heap.size,1,none⟩ F) X F Y Z vT (N++ [([u],x)]) zF zN zT:=by
 have V:=h.lt;have J:∀q,L.ownBlock=some q->D.heap.size+1<=q/\q<W.heap.size:=fun q e=>h.oS.lt q e;have I:G.heap[D.heap.size]? =some (.cells #[X,L,Y,Z,vT] 36 (0,0)):=by rw [E.block D.heap.size (by simp;omega) (fun e=>by have:=(J _ e.symm).1;omega),Below.heap_alloc _ _ _ V];exact h.blk
 have hst:∀t,t∉ [3,36]->Stp D.heap.size [t] W (G.setCell ⟨D.heap.size,1,none⟩ F):=fun t ht=>
  (((Stp.refl _ _ _).alloc _).trans (Stp.row E (h.oS.alloc _) (fun e=>ht (by simp at e;simp [e])))).trans (Stp.set I (fun e=>ht (by simp at e;simp [<-e])) 1 F)
 have O:Below D.heap.size D G:=(h.below.alloc h.below.size _).grown E (by have:=h.below.size;simp;omega) (fun q e=>by have:=(J q e).1;omega);refine ⟨O.setCell (by simp) _,mu I F,?_,?_,?_,?_,?_,?_,?_,?_⟩
 ·rw [List.length_append,ze7];exact ownsRow_setCell_below ho (by simp) _
 ·intro z A;rcases List.mem_append.1 A with A | A
  ·exact h.aS z A
  rw [List.mem_singleton]at A;subst A;rw [hu]
 ·exact ownsRow_setCell_below ((h.oF.alloc _).kept E (zg8 h.oF h.oS (by decide))) (by simp) _
 ·exact fun z A=>⟨(h.aF z A).1,(h.aF z A).2.stp (hst _ (by decide)) fun _ _ _ _ _ _ h=>h⟩
 ·exact ownsRow_setCell_below ((h.oN.alloc _).kept E (zg8 h.oN h.oS (by decide))) (by simp) _
 ·exact fun z A=>⟨(h.aN z A).1,(h.aN z A).2.stp (hst _ (by decide)) fun _ _ _ _ _ _ h=>h⟩
 ·exact ownsRow_setCell_below ((h.oT.alloc _).kept E (zg8 h.oT h.oS (by decide))) (by simp) _
 exact fun z A=>⟨(h.aT z A).1,(h.aT z A).2.stp (hst _ (by decide)) fun _ _ _ _ _ _ h=>h⟩
theorem Lv.addF {D W:World} {X Z L Y vT:Value} {zS:List (List Value×Int)} {N:List (List Value×(List bg))} {zN:List (List Value×(List ByteArray))} {zT:List (List Value×(List cg))} (h:Lv D W X Z L Y vT zS N zN zT) {u:Value} {x:List bg} (hu:SL 3 RF (MT D.heap.size [125] W) W u x) {G:World} {F:Value}
 (ho:G.ownsRow (D.heap.size+1) 126 1 F (N.length+1) (N.flatMap (·.1)++ [u])) (E:(W.alloc (.cells #[u] 126)).grownBy G L.ownBlock):
 Lv D (G.setCell ⟨D.heap.size,2,none⟩ F) X Z F Y vT zS (N++ [([u],x)]) zN zT:=by
 have V:=h.lt;have J:∀q,L.ownBlock=some q->D.heap.size+1<=q/\q<W.heap.size:=fun q e=>h.oF.lt q e;have I:G.heap[D.heap.size]? =some (.cells #[X,Z,L,Y,vT] 36 (0,0)):=by rw [E.block D.heap.size (by simp;omega) (fun e=>by have:=(J _ e.symm).1;omega),Below.heap_alloc _ _ _ V];exact h.blk
 have hst:∀t,t∉ [126,36]->Stp D.heap.size [t] W (G.setCell ⟨D.heap.size,2,none⟩ F):=fun t ht=>
  (((Stp.refl _ _ _).alloc _).trans (Stp.row E (h.oF.alloc _) (fun e=>ht (by simp at e;simp [e])))).trans (Stp.set I (fun e=>ht (by simp at e;simp [<-e])) 2 F)
 have O:Below D.heap.size D G:=(h.below.alloc h.below.size _).grown E (by have:=h.below.size;simp;omega) (fun q e=>by have:=(J q e).1;omega);refine ⟨O.setCell (by simp) _,mu I F,?_,?_,?_,?_,?_,?_,?_,?_⟩
 ·exact ownsRow_setCell_below ((h.oS.alloc _).kept E (zg8 h.oS h.oF (by decide))) (by simp) _
 ·exact h.aS
 ·rw [List.length_append,ze7];exact ownsRow_setCell_below ho (by simp) _
 ·intro z A;rcases List.mem_append.1 A with A | A
  ·exact ⟨(h.aF z A).1,(h.aF z A).2.stp (hst _ (by decide)) fun _ _ _ _ _ _ h=>h⟩
  rw [List.mem_singleton]at A;subst A;exact ⟨rfl,jm.stp ⟨u,rfl,hu⟩ (hst _ (by decide)) fun _ _ _ _ _ _ h=>h⟩
 ·exact ownsRow_setCell_below ((h.oN.alloc _).kept E (zg8 h.oN h.oF (by decide))) (by simp) _
 ·exact fun z A=>⟨(h.aN z A).1,(h.aN z A).2.stp (hst _ (by decide)) fun _ _ _ _ _ _ h=>h⟩
 ·exact ownsRow_setCell_below ((h.oT.alloc _).kept E (zg8 h.oT h.oF (by decide))) (by simp) _
 exact fun z A=>⟨(h.aT z A).1,(h.aT z A).2.stp (hst _ (by decide)) fun _ _ _ _ _ _ h=>h⟩
theorem Lv.addN {D W:World} {X Z Y L vT:Value} {zS:List (List Value×Int)} {zF:List (List Value×(List bg))} {N:List (List Value×(List ByteArray))} {zT:List (List Value×(List cg))} (h:Lv D W X Z Y L vT zS zF N zT) {u:Value} {x:List ByteArray} (hu:SL 1 RS (MT D.heap.size [9] W) W u x) {G:World} {F:Value}
 (ho:G.ownsRow (D.heap.size+1) 225 1 F (N.length+1) (N.flatMap (·.1)++ [u])) (E:(W.alloc (.cells #[u] 225)).grownBy G L.ownBlock):
 Lv D (G.setCell ⟨D.heap.size,3,none⟩ F) X Z Y F vT zS zF (N++ [([u],x)]) zT:=by
 have V:=h.lt;have J:∀q,L.ownBlock=some q->D.heap.size+1<=q/\q<W.heap.size:=fun q e=>h.oN.lt q e;have I:G.heap[D.heap.size]? =some (.cells #[X,Z,Y,L,vT] 36 (0,0)):=by rw [E.block D.heap.size (by simp;omega) (fun e=>by have:=(J _ e.symm).1;omega),Below.heap_alloc _ _ _ V];exact h.blk
 have hst:∀t,t∉ [225,36]->Stp D.heap.size [t] W (G.setCell ⟨D.heap.size,3,none⟩ F):=fun t ht=>
  (((Stp.refl _ _ _).alloc _).trans (Stp.row E (h.oN.alloc _) (fun e=>ht (by simp at e;simp [e])))).trans (Stp.set I (fun e=>ht (by simp at e;simp [<-e])) 3 F)
 have O:Below D.heap.size D G:=(h.below.alloc h.below.size _).grown E (by have:=h.below.size;simp;omega) (fun q e=>by have:=(J q e).1;omega);refine ⟨O.setCell (by simp) _,mu I F,?_,?_,?_,?_,?_,?_,?_,?_⟩
 ·exact ownsRow_setCell_below ((h.oS.alloc _).kept E (zg8 h.oS h.oN (by decide))) (by simp) _
 ·exact h.aS
 ·exact ownsRow_setCell_below ((h.oF.alloc _).kept E (zg8 h.oF h.oN (by decide))) (by simp) _
 ·exact fun z A=>⟨(h.aF z A).1,(h.aF z A).2.stp (hst _ (by decide)) fun _ _ _ _ _ _ h=>h⟩
 ·rw [List.length_append,ze7];exact ownsRow_setCell_below ho (by simp) _
 ·intro z A;rcases List.mem_append.1 A with A | A
  ·exact ⟨(h.aN z A).1,(h.aN z A).2.stp (hst _ (by decide)) fun _ _ _ _ _ _ h=>h⟩
  rw [List.mem_singleton]at A;subst A;exact ⟨rfl,jm.stp ⟨u,rfl,hu⟩ (hst _ (by decide)) fun _ _ _ _ _ _ h=>h⟩
 ·exact ownsRow_setCell_below ((h.oT.alloc _).kept E (zg8 h.oT h.oN (by decide))) (by simp) _
 exact fun z A=>⟨(h.aT z A).1,(h.aT z A).2.stp (hst _ (by decide)) fun _ _ _ _ _ _ h=>h⟩
theorem Lv.addT {D W:World} {X vS Y Z L:Value} {zS:List (List Value×Int)} {zF:List (List Value×(List bg))} {zN:List (List Value×(List ByteArray))} {N:List (List Value×(List cg))} (h:Lv D W X vS Y Z L zS zF zN N) {u:Value} {x:List cg} (hu:SL 2 RT (MT D.heap.size [233] W) W u x) {G:World} {F:Value}
 (ho:G.ownsRow (D.heap.size+1) 226 1 F (N.length+1) (N.flatMap (·.1)++ [u])) (E:(W.alloc (.cells #[u] 226)).grownBy G L.ownBlock):
 Lv D (G.setCell ⟨D.heap.size,4,none⟩ F) X vS Y Z F zS zF zN (N++ [([u],x)]):=by
 have V:=h.lt;have J:∀q,L.ownBlock=some q->D.heap.size+1<=q/\q<W.heap.size:=fun q e=>h.oT.lt q e;have I:G.heap[D.heap.size]? =some (.cells #[X,vS,Y,Z,L] 36 (0,0)):=by rw [E.block D.heap.size (by simp;omega) (fun e=>by have:=(J _ e.symm).1;omega),Below.heap_alloc _ _ _ V];exact h.blk
 have hst:∀t,t∉ [226,36]->Stp D.heap.size [t] W (G.setCell ⟨D.heap.size,4,none⟩ F):=fun t ht=>
  (((Stp.refl _ _ _).alloc _).trans (Stp.row E (h.oT.alloc _) (fun e=>ht (by simp at e;simp [e])))).trans (Stp.set I (fun e=>ht (by simp at e;simp [<-e])) 4 F)
 have O:Below D.heap.size D G:=(h.below.alloc h.below.size _).grown E (by have:=h.below.size;simp;omega) (fun q e=>by have:=(J q e).1;omega);refine ⟨O.setCell (by simp) _,mu I F,?_,?_,?_,?_,?_,?_,?_,?_⟩
 ·exact ownsRow_setCell_below ((h.oS.alloc _).kept E (zg8 h.oS h.oT (by decide))) (by simp) _
 ·exact h.aS
 ·exact ownsRow_setCell_below ((h.oF.alloc _).kept E (zg8 h.oF h.oT (by decide))) (by simp) _
 ·exact fun z A=>⟨(h.aF z A).1,(h.aF z A).2.stp (hst _ (by decide)) fun _ _ _ _ _ _ h=>h⟩
 ·exact ownsRow_setCell_below ((h.oN.alloc _).kept E (zg8 h.oN h.oT (by decide))) (by simp) _
 ·exact fun z A=>⟨(h.aN z A).1,(h.aN z A).2.stp (hst _ (by decide)) fun _ _ _ _ _ _ h=>h⟩
 ·rw [List.length_append,ze7];exact ownsRow_setCell_below ho (by simp) _
 intro z A;rcases List.mem_append.1 A with A | A
 ·exact ⟨(h.aT z A).1,(h.aT z A).2.stp (hst _ (by decide)) fun _ _ _ _ _ _ h=>h⟩
 rw [List.mem_singleton]at A;subst A;exact ⟨rfl,jm.stp ⟨u,rfl,hu⟩ (hst _ (by decide)) fun _ _ _ _ _ _ h=>h⟩
theorem Lv.stpS {A W:World} {O D V X Y:Value} {zS:List (List Value×Int)} {Z:List (List Value×(List bg))} {zN:List (List Value×(List ByteArray))} {zT:List (List Value×(List cg))} (h:Lv A W O D V X Y zS Z zN zT) {u:Value} {E:World} {J:Value} {n:Nat} {xs:List Value}
 (_:E.ownsRow (A.heap.size+1) 3 1 J n xs) (L:(W.alloc (.cells #[u] 3)).grownBy E D.ownBlock) (t:Nat) (N:t∉ [3,36]):
 Stp A.heap.size [t] W (E.setCell ⟨A.heap.size,1,none⟩ J):=by
 have G:=h.lt;have I:∀q,D.ownBlock=some q->A.heap.size+1<=q/\q<W.heap.size:=fun q e=>h.oS.lt q e;have F:E.heap[A.heap.size]? =some (.cells #[O,D,V,X,Y] 36 (0,0)):=by rw [L.block A.heap.size (by simp;omega) (fun e=>by have:=(I _ e.symm).1;omega),Below.heap_alloc _ _ _ G];exact h.blk
 exact (((Stp.refl _ _ _).alloc _).trans (Stp.row L (h.oS.alloc _) (fun e=>N (by simp at e;simp [e])))).trans (Stp.set F (fun e=>N (by simp at e;simp [<-e])) 1 J)
theorem Lv.stpF {A W:World} {O X D V Y:Value} {zS:List (List Value×Int)} {Z:List (List Value×(List bg))} {zN:List (List Value×(List ByteArray))} {zT:List (List Value×(List cg))} (h:Lv A W O X D V Y zS Z zN zT) {u:Value} {E:World} {J:Value} {n:Nat} {xs:List Value}
 (_:E.ownsRow (A.heap.size+1) 126 1 J n xs) (L:(W.alloc (.cells #[u] 126)).grownBy E D.ownBlock) (t:Nat) (N:t∉ [126,36]):
 Stp A.heap.size [t] W (E.setCell ⟨A.heap.size,2,none⟩ J):=by
 have G:=h.lt;have I:∀q,D.ownBlock=some q->A.heap.size+1<=q/\q<W.heap.size:=fun q e=>h.oF.lt q e;have F:E.heap[A.heap.size]? =some (.cells #[O,X,D,V,Y] 36 (0,0)):=by rw [L.block A.heap.size (by simp;omega) (fun e=>by have:=(I _ e.symm).1;omega),Below.heap_alloc _ _ _ G];exact h.blk
 exact (((Stp.refl _ _ _).alloc _).trans (Stp.row L (h.oF.alloc _) (fun e=>N (by simp at e;simp [e])))).trans (Stp.set F (fun e=>N (by simp at e;simp [<-e])) 2 J)
theorem Lv.stpN {A W:World} {O X V D Y:Value} {zS:List (List Value×Int)} {Z:List (List Value×(List bg))} {zN:List (List Value×(List ByteArray))} {zT:List (List Value×(List cg))} (h:Lv A W O X V D Y zS Z zN zT) {u:Value} {E:World} {J:Value} {n:Nat} {xs:List Value}
 (_:E.ownsRow (A.heap.size+1) 225 1 J n xs) (L:(W.alloc (.cells #[u] 225)).grownBy E D.ownBlock) (t:Nat) (N:t∉ [225,36]):
 Stp A.heap.size [t] W (E.setCell ⟨A.heap.size,3,none⟩ J):=by
 have G:=h.lt;have I:∀q,D.ownBlock=some q->A.heap.size+1<=q/\q<W.heap.size:=fun q e=>h.oN.lt q e;have F:E.heap[A.heap.size]? =some (.cells #[O,X,V,D,Y] 36 (0,0)):=by rw [L.block A.heap.size (by simp;omega) (fun e=>by have:=(I _ e.symm).1;omega),Below.heap_alloc _ _ _ G];exact h.blk
 exact (((Stp.refl _ _ _).alloc _).trans (Stp.row L (h.oN.alloc _) (fun e=>N (by simp at e;simp [e])))).trans (Stp.set F (fun e=>N (by simp at e;simp [<-e])) 3 J)
theorem Lv.rlk {E W:World} {J Z X Y vT:Value} {O:List (List Value×Int)} {L:List (List Value×(List bg))} {N:List (List Value×(List ByteArray))} {V:List (List Value×(List cg))} {l:List ap} {B:Nat} (h:Lv E W J Z X Y vT O L N V) (hB:B<=E.heap.size) (hC:SL 4 RC (· <B) W J l) (h1:O.length<=1000) (h2:L.length<=1000) (h3:N.length<=1000) (h4:V.length<=1000):
 j9 (fun k=>(k<B\/E.heap.size<=k)/\k<W.heap.size) W J Z X Y vT ⟨l,O.map (·.2),L.map (·.2),N.map (·.2),V.map (·.2)⟩:=by
 have I:∀ {T:List Nat} (k:Nat),MT E.heap.size T W k->(k<B\/E.heap.size<=k)/\k<W.heap.size:=fun k D=>⟨Or.inr D.1,D.lt⟩;have sS:=ze4 (n:=1) (R:=RI) (T:=[3]) (zbi h.oS (B':=E.heap.size) (by omega)) (fun z A=>⟨by rw [h.aS z A];rfl,h.aS z A⟩) (by simp) (by unfold maxLen;omega);have sF:=ze4 (n:=1) (R:=jm 3 RF) (T:=[125,126]) (zbi h.oF (B':=E.heap.size) (by omega)) (fun z A=>⟨(h.aF z A).1,by
  obtain ⟨v,e,G⟩:=(h.aF z A).2;exact ⟨v,e,G.mono (fun _ D=>D.more (nlq _) (fun _ F=>by simp at F;simp [F])) fun _ _ h=>h⟩⟩) (by simp) (by unfold maxLen;omega)
 have sN:=ze4 (n:=1) (R:=jm 1 RS) (T:=[9,225]) (zbi h.oN (B':=E.heap.size) (by omega)) (fun z A=>⟨(h.aN z A).1,by
  obtain ⟨v,e,G⟩:=(h.aN z A).2;exact ⟨v,e,G.mono (fun _ D=>D.more (nlq _) (fun _ F=>by simp at F;simp [F])) fun _ _ h=>h⟩⟩) (by simp) (by unfold maxLen;omega)
 have sT:=ze4 (n:=1) (R:=jm 2 RT) (T:=[233,226]) (zbi h.oT (B':=E.heap.size) (by omega)) (fun z A=>⟨(h.aT z A).1,by
  obtain ⟨v,e,G⟩:=(h.aT z A).2;exact ⟨v,e,G.mono (fun _ D=>D.more (nlq _) (fun _ F=>by simp at F;simp [F])) fun _ _ h=>h⟩⟩) (by simp) (by unfold maxLen;omega)
 exact ⟨hC.monoC (fun k (D:k<B)=>⟨Or.inl D,by have:=h.below.size;omega⟩),sS.monoI I,sF.monoSl I (fun _ _ h=>h),sN.monoSl I (fun _ _ h=>h),sT.monoSl I (fun _ _ h=>h)⟩
end Go.Proofs.YtjdnmblggdobgaaGreat
