import Derived.Test.YtjdnmblggdobgaaGreatJLNoneLSaD
import Derived.Test.YtjdnmblggdobgaaGreatJLErrLRf4
import Derived.Test.YtjdnmblggdobgaaGreatLCk
import Derived.Test.YtjdnmblggdobgaaGreatJLLkLBas
set_option maxHeartbeats 16000000
set_option maxRecDepth 100000
namespace Go.Proofs.YtjdnmblggdobgaaGreat
open Go.RowKit Go.Sort
structure Lv (w0 W:World) (vC vS vF vN vT:Value) (zS:List (List Value×Int)) (zF:List (List Value×(List bo))) (zN:List (List Value×(List ByteArray))) (zT:List (List Value×(List cd))):Prop where
 below:Below w0.heap.size w0 W
 blk:W.heap[w0.heap.size]? =some (.cells #[vC,vS,vF,vN,vT] 36 (0,0))
 oS:W.ownsRow (w0.heap.size+1) 3 1 vS zS.length (zS.flatMap (·.1))
 aS:∀z∈zS,z.1= [Value.int .i64 z.2]
 oF:W.ownsRow (w0.heap.size+1) 126 1 vF zF.length (zF.flatMap (·.1))
 aF:∀z∈zF,z.1.length=1/\jv 3 RF (MT w0.heap.size [125] W) W z.1 z.2
 oN:W.ownsRow (w0.heap.size+1) 225 1 vN zN.length (zN.flatMap (·.1))
 aN:∀z∈zN,z.1.length=1/\jv 1 RS (MT w0.heap.size [9] W) W z.1 z.2
 oT:W.ownsRow (w0.heap.size+1) 226 1 vT zT.length (zT.flatMap (·.1))
 aT:∀z∈zT,z.1.length=1/\jv 2 RT (MT w0.heap.size [233] W) W z.1 z.2
theorem Lv.lt {u W:World} {A F D E G:Value} {L:List (List Value×Int)} {I:List (List Value×(List bo))} {J:List (List Value×(List ByteArray))} {N:List (List Value×(List cd))} (h:Lv u W A F D E G L I J N):u.heap.size<W.heap.size:=bz h.blk
theorem Lv.grow {L W:World} {E I F G J:Value} {V:List (List Value×Int)} {N:List (List Value×(List bo))} {O:List (List Value×(List ByteArray))} {X:List (List Value×(List cd))} {D:World} (h:Lv L W E I F G J V N O X) (u:Below W.heap.size W D):Lv L D E I F G J V N O X:=
 ⟨h.below.trans (u.mono h.below.size),(u.block _ h.lt).trans h.blk,kg h.oS u,h.aS,kg h.oF u,(fun z A=>⟨(h.aF z A).1,(h.aF z A).2.stp (Stp.below u) fun _ _ _ _ _ _ h=>h⟩),kg h.oN u,(fun z A=>⟨(h.aN z A).1,(h.aN z A).2.stp (Stp.below u) fun _ _ _ _ _ _ h=>h⟩),kg h.oT u,(fun z A=>⟨(h.aT z A).1,(h.aT z A).2.stp (Stp.below u) fun _ _ _ _ _ _ h=>h⟩)⟩
theorem Lv.addS {D W:World} {X L Y Z vT:Value} {N:List (List Value×Int)} {zF:List (List Value×(List bo))} {zN:List (List Value×(List ByteArray))} {zT:List (List Value×(List cd))} (h:Lv D W X L Y Z vT N zF zN zT) {u:Value} {x:Int} (hu:u=.int .i64 x) {G:World} {F:Value}
 (ho:G.ownsRow (D.heap.size+1) 3 1 F (N.length+1) (N.flatMap (·.1)++ [u])) (E:(W.alloc (.cells #[u] 3)).grownBy G L.ownBlock):
 Lv D (G.setCell ⟨D.heap.size,1,none⟩ F) X F Y Z vT (N++ [([u],x)]) zF zN zT:=by
 have V:=h.lt;have J:∀q,L.ownBlock=some q->D.heap.size+1<=q/\q<W.heap.size:=fun q e=>h.oS.lt q e;have I:G.heap[D.heap.size]? =some (.cells #[X,L,Y,Z,vT] 36 (0,0)):=by rw [E.block D.heap.size (by simp;omega) (fun e=>by have:=(J _ e.symm).1;omega),Below.heap_alloc _ _ _ V];exact h.blk
 have hst:∀t,t∉ [3,36]->Stp D.heap.size [t] W (G.setCell ⟨D.heap.size,1,none⟩ F):=fun t ht=>
  (((Stp.refl _ _ _).alloc _).trans (Stp.row E (h.oS.alloc _) (fun e=>ht (by simp at e;simp [e])))).trans (Stp.set I (fun e=>ht (by simp at e;simp [<-e])) 1 F)
 have O:Below D.heap.size D G:=(h.below.alloc h.below.size _).grown E (by have:=h.below.size;simp;omega) (fun q e=>by have:=(J q e).1;omega);refine ⟨O.setCell (by simp) _,zg6 I F,?_,?_,?_,?_,?_,?_,?_,?_⟩
 ·rw [List.length_append,ze7];exact ownsRow_setCell_below ho (by simp) _
 ·intro z A;rcases List.mem_append.1 A with A | A
  ·exact h.aS z A
  rw [List.mem_singleton]at A;subst A;rw [hu]
 ·exact ownsRow_setCell_below ((h.oF.alloc _).kept E (zg8 h.oF h.oS (by decide))) (by simp) _
 ·exact fun z A=>⟨(h.aF z A).1,(h.aF z A).2.stp (hst _ (by decide)) fun _ _ _ _ _ _ h=>h⟩
 ·exact ownsRow_setCell_below ((h.oN.alloc _).kept E (zg8 h.oN h.oS (by decide))) (by simp) _
 ·exact fun z A=>⟨(h.aN z A).1,(h.aN z A).2.stp (hst _ (by decide)) fun _ _ _ _ _ _ h=>h⟩
 ·exact ownsRow_setCell_below ((h.oT.alloc _).kept E (zg8 h.oT h.oS (by decide))) (by simp) _
 exact fun z A=>⟨(h.aT z A).1,(h.aT z A).2.stp (hst _ (by decide)) fun _ _ _ _ _ _ h=>h⟩
theorem Lv.addF {D W:World} {X Z L Y vT:Value} {zS:List (List Value×Int)} {N:List (List Value×(List bo))} {zN:List (List Value×(List ByteArray))} {zT:List (List Value×(List cd))} (h:Lv D W X Z L Y vT zS N zN zT) {u:Value} {x:List bo} (hu:SL 3 RF (MT D.heap.size [125] W) W u x) {G:World} {F:Value}
 (ho:G.ownsRow (D.heap.size+1) 126 1 F (N.length+1) (N.flatMap (·.1)++ [u])) (E:(W.alloc (.cells #[u] 126)).grownBy G L.ownBlock):
 Lv D (G.setCell ⟨D.heap.size,2,none⟩ F) X Z F Y vT zS (N++ [([u],x)]) zN zT:=by
 have V:=h.lt;have J:∀q,L.ownBlock=some q->D.heap.size+1<=q/\q<W.heap.size:=fun q e=>h.oF.lt q e;have I:G.heap[D.heap.size]? =some (.cells #[X,Z,L,Y,vT] 36 (0,0)):=by rw [E.block D.heap.size (by simp;omega) (fun e=>by have:=(J _ e.symm).1;omega),Below.heap_alloc _ _ _ V];exact h.blk
 have hst:∀t,t∉ [126,36]->Stp D.heap.size [t] W (G.setCell ⟨D.heap.size,2,none⟩ F):=fun t ht=>
  (((Stp.refl _ _ _).alloc _).trans (Stp.row E (h.oF.alloc _) (fun e=>ht (by simp at e;simp [e])))).trans (Stp.set I (fun e=>ht (by simp at e;simp [<-e])) 2 F)
 have O:Below D.heap.size D G:=(h.below.alloc h.below.size _).grown E (by have:=h.below.size;simp;omega) (fun q e=>by have:=(J q e).1;omega);refine ⟨O.setCell (by simp) _,zg6 I F,?_,?_,?_,?_,?_,?_,?_,?_⟩
 ·exact ownsRow_setCell_below ((h.oS.alloc _).kept E (zg8 h.oS h.oF (by decide))) (by simp) _
 ·exact h.aS
 ·rw [List.length_append,ze7];exact ownsRow_setCell_below ho (by simp) _
 ·intro z A;rcases List.mem_append.1 A with A | A
  ·exact ⟨(h.aF z A).1,(h.aF z A).2.stp (hst _ (by decide)) fun _ _ _ _ _ _ h=>h⟩
  rw [List.mem_singleton]at A;subst A;exact ⟨rfl,jv.stp ⟨u,rfl,hu⟩ (hst _ (by decide)) fun _ _ _ _ _ _ h=>h⟩
 ·exact ownsRow_setCell_below ((h.oN.alloc _).kept E (zg8 h.oN h.oF (by decide))) (by simp) _
 ·exact fun z A=>⟨(h.aN z A).1,(h.aN z A).2.stp (hst _ (by decide)) fun _ _ _ _ _ _ h=>h⟩
 ·exact ownsRow_setCell_below ((h.oT.alloc _).kept E (zg8 h.oT h.oF (by decide))) (by simp) _
 exact fun z A=>⟨(h.aT z A).1,(h.aT z A).2.stp (hst _ (by decide)) fun _ _ _ _ _ _ h=>h⟩
theorem Lv.addN {D W:World} {X Z Y L vT:Value} {zS:List (List Value×Int)} {zF:List (List Value×(List bo))} {N:List (List Value×(List ByteArray))} {zT:List (List Value×(List cd))} (h:Lv D W X Z Y L vT zS zF N zT) {u:Value} {x:List ByteArray} (hu:SL 1 RS (MT D.heap.size [9] W) W u x) {G:World} {F:Value}
 (ho:G.ownsRow (D.heap.size+1) 225 1 F (N.length+1) (N.flatMap (·.1)++ [u])) (E:(W.alloc (.cells #[u] 225)).grownBy G L.ownBlock):
 Lv D (G.setCell ⟨D.heap.size,3,none⟩ F) X Z Y F vT zS zF (N++ [([u],x)]) zT:=by
 have V:=h.lt;have J:∀q,L.ownBlock=some q->D.heap.size+1<=q/\q<W.heap.size:=fun q e=>h.oN.lt q e;have I:G.heap[D.heap.size]? =some (.cells #[X,Z,Y,L,vT] 36 (0,0)):=by rw [E.block D.heap.size (by simp;omega) (fun e=>by have:=(J _ e.symm).1;omega),Below.heap_alloc _ _ _ V];exact h.blk
 have hst:∀t,t∉ [225,36]->Stp D.heap.size [t] W (G.setCell ⟨D.heap.size,3,none⟩ F):=fun t ht=>
  (((Stp.refl _ _ _).alloc _).trans (Stp.row E (h.oN.alloc _) (fun e=>ht (by simp at e;simp [e])))).trans (Stp.set I (fun e=>ht (by simp at e;simp [<-e])) 3 F)
 have O:Below D.heap.size D G:=(h.below.alloc h.below.size _).grown E (by have:=h.below.size;simp;omega) (fun q e=>by have:=(J q e).1;omega);refine ⟨O.setCell (by simp) _,zg6 I F,?_,?_,?_,?_,?_,?_,?_,?_⟩
 ·exact ownsRow_setCell_below ((h.oS.alloc _).kept E (zg8 h.oS h.oN (by decide))) (by simp) _
 ·exact h.aS
 ·exact ownsRow_setCell_below ((h.oF.alloc _).kept E (zg8 h.oF h.oN (by decide))) (by simp) _
 ·exact fun z A=>⟨(h.aF z A).1,(h.aF z A).2.stp (hst _ (by decide)) fun _ _ _ _ _ _ h=>h⟩
 ·rw [List.length_append,ze7];exact ownsRow_setCell_below ho (by simp) _
 ·intro z A;rcases List.mem_append.1 A with A | A
  ·exact ⟨(h.aN z A).1,(h.aN z A).2.stp (hst _ (by decide)) fun _ _ _ _ _ _ h=>h⟩
  rw [List.mem_singleton]at A;subst A;exact ⟨rfl,jv.stp ⟨u,rfl,hu⟩ (hst _ (by decide)) fun _ _ _ _ _ _ h=>h⟩
 ·exact ownsRow_setCell_below ((h.oT.alloc _).kept E (zg8 h.oT h.oN (by decide))) (by simp) _
 exact fun z A=>⟨(h.aT z A).1,(h.aT z A).2.stp (hst _ (by decide)) fun _ _ _ _ _ _ h=>h⟩
theorem Lv.addT {D W:World} {X vS Y Z L:Value} {zS:List (List Value×Int)} {zF:List (List Value×(List bo))} {zN:List (List Value×(List ByteArray))} {N:List (List Value×(List cd))} (h:Lv D W X vS Y Z L zS zF zN N) {u:Value} {x:List cd} (hu:SL 2 RT (MT D.heap.size [233] W) W u x) {G:World} {F:Value}
 (ho:G.ownsRow (D.heap.size+1) 226 1 F (N.length+1) (N.flatMap (·.1)++ [u])) (E:(W.alloc (.cells #[u] 226)).grownBy G L.ownBlock):
 Lv D (G.setCell ⟨D.heap.size,4,none⟩ F) X vS Y Z F zS zF zN (N++ [([u],x)]):=by
 have V:=h.lt;have J:∀q,L.ownBlock=some q->D.heap.size+1<=q/\q<W.heap.size:=fun q e=>h.oT.lt q e;have I:G.heap[D.heap.size]? =some (.cells #[X,vS,Y,Z,L] 36 (0,0)):=by rw [E.block D.heap.size (by simp;omega) (fun e=>by have:=(J _ e.symm).1;omega),Below.heap_alloc _ _ _ V];exact h.blk
 have hst:∀t,t∉ [226,36]->Stp D.heap.size [t] W (G.setCell ⟨D.heap.size,4,none⟩ F):=fun t ht=>
  (((Stp.refl _ _ _).alloc _).trans (Stp.row E (h.oT.alloc _) (fun e=>ht (by simp at e;simp [e])))).trans (Stp.set I (fun e=>ht (by simp at e;simp [<-e])) 4 F)
 have O:Below D.heap.size D G:=(h.below.alloc h.below.size _).grown E (by have:=h.below.size;simp;omega) (fun q e=>by have:=(J q e).1;omega);refine ⟨O.setCell (by simp) _,zg6 I F,?_,?_,?_,?_,?_,?_,?_,?_⟩
 ·exact ownsRow_setCell_below ((h.oS.alloc _).kept E (zg8 h.oS h.oT (by decide))) (by simp) _
 ·exact h.aS
 ·exact ownsRow_setCell_below ((h.oF.alloc _).kept E (zg8 h.oF h.oT (by decide))) (by simp) _
 ·exact fun z A=>⟨(h.aF z A).1,(h.aF z A).2.stp (hst _ (by decide)) fun _ _ _ _ _ _ h=>h⟩
 ·exact ownsRow_setCell_below ((h.oN.alloc _).kept E (zg8 h.oN h.oT (by decide))) (by simp) _
 ·exact fun z A=>⟨(h.aN z A).1,(h.aN z A).2.stp (hst _ (by decide)) fun _ _ _ _ _ _ h=>h⟩
 ·rw [List.length_append,ze7];exact ownsRow_setCell_below ho (by simp) _
 intro z A;rcases List.mem_append.1 A with A | A
 ·exact ⟨(h.aT z A).1,(h.aT z A).2.stp (hst _ (by decide)) fun _ _ _ _ _ _ h=>h⟩
 rw [List.mem_singleton]at A;subst A;exact ⟨rfl,jv.stp ⟨u,rfl,hu⟩ (hst _ (by decide)) fun _ _ _ _ _ _ h=>h⟩
theorem Lv.stpS {A W:World} {O D V X Y:Value} {zS:List (List Value×Int)} {Z:List (List Value×(List bo))} {zN:List (List Value×(List ByteArray))} {zT:List (List Value×(List cd))} (h:Lv A W O D V X Y zS Z zN zT) {u:Value} {E:World} {J:Value} {n:Nat} {xs:List Value}
 (_:E.ownsRow (A.heap.size+1) 3 1 J n xs) (L:(W.alloc (.cells #[u] 3)).grownBy E D.ownBlock) (t:Nat) (N:t∉ [3,36]):
 Stp A.heap.size [t] W (E.setCell ⟨A.heap.size,1,none⟩ J):=by
 have G:=h.lt;have I:∀q,D.ownBlock=some q->A.heap.size+1<=q/\q<W.heap.size:=fun q e=>h.oS.lt q e;have F:E.heap[A.heap.size]? =some (.cells #[O,D,V,X,Y] 36 (0,0)):=by rw [L.block A.heap.size (by simp;omega) (fun e=>by have:=(I _ e.symm).1;omega),Below.heap_alloc _ _ _ G];exact h.blk
 exact (((Stp.refl _ _ _).alloc _).trans (Stp.row L (h.oS.alloc _) (fun e=>N (by simp at e;simp [e])))).trans (Stp.set F (fun e=>N (by simp at e;simp [<-e])) 1 J)
theorem Lv.stpF {A W:World} {O X D V Y:Value} {zS:List (List Value×Int)} {Z:List (List Value×(List bo))} {zN:List (List Value×(List ByteArray))} {zT:List (List Value×(List cd))} (h:Lv A W O X D V Y zS Z zN zT) {u:Value} {E:World} {J:Value} {n:Nat} {xs:List Value}
 (_:E.ownsRow (A.heap.size+1) 126 1 J n xs) (L:(W.alloc (.cells #[u] 126)).grownBy E D.ownBlock) (t:Nat) (N:t∉ [126,36]):
 Stp A.heap.size [t] W (E.setCell ⟨A.heap.size,2,none⟩ J):=by
 have G:=h.lt;have I:∀q,D.ownBlock=some q->A.heap.size+1<=q/\q<W.heap.size:=fun q e=>h.oF.lt q e;have F:E.heap[A.heap.size]? =some (.cells #[O,X,D,V,Y] 36 (0,0)):=by rw [L.block A.heap.size (by simp;omega) (fun e=>by have:=(I _ e.symm).1;omega),Below.heap_alloc _ _ _ G];exact h.blk
 exact (((Stp.refl _ _ _).alloc _).trans (Stp.row L (h.oF.alloc _) (fun e=>N (by simp at e;simp [e])))).trans (Stp.set F (fun e=>N (by simp at e;simp [<-e])) 2 J)
theorem Lv.stpN {A W:World} {O X V D Y:Value} {zS:List (List Value×Int)} {Z:List (List Value×(List bo))} {zN:List (List Value×(List ByteArray))} {zT:List (List Value×(List cd))} (h:Lv A W O X V D Y zS Z zN zT) {u:Value} {E:World} {J:Value} {n:Nat} {xs:List Value}
 (_:E.ownsRow (A.heap.size+1) 225 1 J n xs) (L:(W.alloc (.cells #[u] 225)).grownBy E D.ownBlock) (t:Nat) (N:t∉ [225,36]):
 Stp A.heap.size [t] W (E.setCell ⟨A.heap.size,3,none⟩ J):=by
 have G:=h.lt;have I:∀q,D.ownBlock=some q->A.heap.size+1<=q/\q<W.heap.size:=fun q e=>h.oN.lt q e;have F:E.heap[A.heap.size]? =some (.cells #[O,X,V,D,Y] 36 (0,0)):=by rw [L.block A.heap.size (by simp;omega) (fun e=>by have:=(I _ e.symm).1;omega),Below.heap_alloc _ _ _ G];exact h.blk
 exact (((Stp.refl _ _ _).alloc _).trans (Stp.row L (h.oN.alloc _) (fun e=>N (by simp at e;simp [e])))).trans (Stp.set F (fun e=>N (by simp at e;simp [<-e])) 3 J)
theorem Lv.rlk {D W:World} {I Y V X Z:Value} {N:List (List Value×Int)} {J:List (List Value×(List bo))} {L:List (List Value×(List ByteArray))} {O:List (List Value×(List cd))} {l:List am} {B:Nat} (h:Lv D W I Y V X Z N J L O) (hB:B<=D.heap.size) (hC:SL 4 RC (· <B) W I l) (h1:N.length<=1000) (h2:J.length<=1000) (h3:L.length<=1000) (h4:O.length<=1000):
 ma (fun k=>(k<B\/D.heap.size<=k)/\k<W.heap.size) W I Y V X Z ⟨l,N.map (·.2),J.map (·.2),L.map (·.2),O.map (·.2)⟩:=by
 have G:∀ {T:List Nat} (k:Nat),MT D.heap.size T W k->(k<B\/D.heap.size<=k)/\k<W.heap.size:=fun k A=>⟨Or.inr A.1,A.lt⟩;have sS:=ze4 (n:=1) (R:=RI) (T:=[3]) (zbi h.oS (B':=D.heap.size) (by omega)) (fun z u=>⟨by rw [h.aS z u];rfl,h.aS z u⟩) (by simp) (by unfold maxLen;omega);have sF:=ze4 (n:=1) (R:=jv 3 RF) (T:=[125,126]) (zbi h.oF (B':=D.heap.size) (by omega)) (fun z u=>⟨(h.aF z u).1,by
  obtain ⟨v,e,F⟩:=(h.aF z u).2;exact ⟨v,e,F.mono (fun _ A=>A.more (nlq _) (fun _ E=>by simp at E;simp [E])) fun _ _ h=>h⟩⟩) (by simp) (by unfold maxLen;omega)
 have sN:=ze4 (n:=1) (R:=jv 1 RS) (T:=[9,225]) (zbi h.oN (B':=D.heap.size) (by omega)) (fun z u=>⟨(h.aN z u).1,by
  obtain ⟨v,e,F⟩:=(h.aN z u).2;exact ⟨v,e,F.mono (fun _ A=>A.more (nlq _) (fun _ E=>by simp at E;simp [E])) fun _ _ h=>h⟩⟩) (by simp) (by unfold maxLen;omega)
 have sT:=ze4 (n:=1) (R:=jv 2 RT) (T:=[233,226]) (zbi h.oT (B':=D.heap.size) (by omega)) (fun z u=>⟨(h.aT z u).1,by
  obtain ⟨v,e,F⟩:=(h.aT z u).2;exact ⟨v,e,F.mono (fun _ A=>A.more (nlq _) (fun _ E=>by simp at E;simp [E])) fun _ _ h=>h⟩⟩) (by simp) (by unfold maxLen;omega)
 exact ⟨hC.monoC (fun k (A:k<B)=>⟨Or.inl A,by have:=h.below.size;omega⟩),sS.monoI G,sF.monoSl G (fun _ _ h=>h),sN.monoSl G (fun _ _ h=>h),sT.monoSl G (fun _ _ h=>h)⟩
end Go.Proofs.YtjdnmblggdobgaaGreat
namespace Go.Proofs.YtjdnmblggdobgaaGreat
open Go.RowKit
def fewI (l:List am) (i:Nat):Bool:=decide ((ki l i).length<=12)&&decide ((ji l i).1.length<=16)
def ic (l:List am):Int:=if cb l≠0 then cb l else if ev l (fewI l)=true then 0 else 2
def od (l:List am):be:=⟨l,(List.range l.length).map fun i=>bw l (b8 l i).bq,(List.range l.length).map (ki l),(List.range l.length).map fun i=>(ji l i).1,(List.range l.length).map fun i=>(ji l i).2⟩
theorem zqq {l:List am} (h:cb l=0):dt l=0:=by
 by_cases hc:dt l=0
 ·exact hc
 have:cb l=dt l:=by simp [cb,hc]
 rw [<-this];exact h
theorem set5e (W:World) (R t:Nat) (G I J L N u A D E F:Value) (h:W.heap[R]? =some (.cells #[G,I,J,L,N] t (0,0))):
 ∃W9,(((((W.setCell ⟨R,0,none⟩ u).setCell ⟨R,1,none⟩ A).setCell ⟨R,2,none⟩ D).setCell ⟨R,3,none⟩ E).setCell ⟨R,4,none⟩ F)=W9/\W9.heap[R]? =some (.cells #[u,A,D,E,F] t (0,0))/\W.grownBy W9 (some R):=⟨_,rfl,set5 W R t G I J L N u A D E F h⟩
theorem zqr (w:World) (B:Nat) (l:List am) (v:Value) (hv:SL 4 RC (· <B) w v l) (hB:B<=w.heap.size):
 Calls Tryz.prog 117 #[v] w fun r w'=>Below w.heap.size w w'/\
  ((ic l=0/\∃kC kS kF kN kT,r=.returned (.tuple #[.agg #[kC,kS,kF,kN,kT],.int .i64 0])/\ma (fun k=>(k<B\/w.heap.size<=k)/\k<w'.heap.size) w' kC kS kF kN kT (od l))\/(ic l≠0/\r=.returned (.tuple #[nilLk,.int .i64 (ic l)]))):=by
 obtain ⟨iI,e8,cv,cx,cy⟩:=info_parts Tryz.infoInt;obtain ⟨iF,e7,cs,ct,cu⟩:=info_parts Tryz.infoFs;obtain ⟨iN,e9,c0,c1,c2⟩:=info_parts Tryz.infoNs;obtain ⟨iT,fa,c3,c4,c5⟩:=info_parts Tryz.infoTs;have HV:=ag hv;obtain ⟨ao,Z,rfl,-⟩:=hv;have a4:=ag (fun o=>(br w.heap.size w).alloc (nlq _) o);go_enter Tryz.func117,Tryz.ntmps117;go_wp2_with fail;refine (zqp _ B l _ (HV.o.keptC (Kp.below ((a4.o _).mono hB))) (lt3 hB (a4.o _).size)).mono ?_;rintro r w1 ⟨rfl,cp⟩;have co:w1.heap[w.heap.size]? =some (.cells #[.slice none 0 0,.slice none 0 0,.slice none 0 0,.slice none 0 0,.slice none 0 0] 36 (0,0)):=(cp.block w.heap.size (by simp)).trans (heap_alloc_new w _);have ea:Below w.heap.size w w1:=(a4.o _).trans (cp.mono (a4.o _).size);have ah:=ag ea;have dl:=ag co;have fk:w.heap.size<w1.heap.size:=bz co;have ai:Hid (∀W,Below w1.heap.size w1 W->W.heap[w.heap.size]? =some (.cells #[.slice none 0 0,.slice none 0 0,.slice none 0 0,.slice none 0 0,.slice none 0 0] 36 (0,0))/\Below w.heap.size w W):=fun W hW=>⟨(hW.block _ (bz dl.o)).trans dl.o,ah.o.trans (hW.mono ah.o.size)⟩;clear cp ea co;by_cases ae:cb l=0
 rotate_left
 ·have fl:(cb l==0)=false:=beq_eq_false_iff_ne.2 ae;have HT:Hid (ic l=cb l):=by show ic l=_;rw [ic,if_pos ae]
  have HN:=ag ae;obtain ⟨J,ak⟩:=ai.o w1 (br _ _);obtain ⟨W9,ad,ac,aa⟩:=set5e _ w.heap.size _ _ _ _ _ _ (.slice none 0 0) (.slice none 0 0) (.slice none 0 0) (.slice none 0 0) (.slice none 0 0) J;have r0:=ba J 0 (x:=.slice none 0 0) rfl;have r1:=ba J 1 (x:=.slice none 0 0) rfl;have r2:=ba J 2 (x:=.slice none 0 0) rfl;have r3:=ba J 3 (x:=.slice none 0 0) rfl;have r4:=ba J 4 (x:=.slice none 0 0) rfl;have f0:∀j,w1.frozen? ⟨w.heap.size,j,none⟩=false:=fun j=>nu J j;have E:=ag ac;have au:=ag ad;have V:=ag aa;clear ae J ac aa ad;generalize cb l=te at*;go_wp2_with fail;rw [au.o];have s0:=ba E.o 0 (x:=.slice none 0 0) rfl;have s1:=ba E.o 1 (x:=.slice none 0 0) rfl;have s2:=ba E.o 2 (x:=.slice none 0 0) rfl;have s3:=ba E.o 3 (x:=.slice none 0 0) rfl;have s4:=ba E.o 4 (x:=.slice none 0 0) rfl;exact bodyPost_ret (v:=.tuple #[nilLk,.int .i64 te]) (by simp [results,Tryz.results117,go_sem,s0,s1,s2,s3,s4,nilLk]) rfl ⟨nt ak V.o (nlq _),Or.inr ⟨by rw [HT.o];exact HN.o,by rw [HT.o]⟩⟩
 obtain ⟨hN,a0⟩:=zgm (zqq ae);have dd:=ag a0;have ds:Hid (ic l=if ev l (fewI l)=true then 0 else 2):=by show ic l=_;rw [ic,if_neg (by simpa using ae)]
 rw [ae];clear ae a0;have dz:Hid (Lv w1 (w1.alloc (.cells #[.slice ao l.length Z,.slice none 0 0,.slice none 0 0,.slice none 0 0,.slice none 0 0] 36)) (.slice ao l.length Z) (.slice none 0 0) (.slice none 0 0) (.slice none 0 0) (.slice none 0 0) [] [] [] []):=
  ⟨(br _ _).alloc (nlq _) _,heap_alloc_new w1 _,World.ownsRow_nil _ _ _ _,(fun z hz=>by cases hz),World.ownsRow_nil _ _ _ _,(fun z hz=>by cases hz),World.ownsRow_nil _ _ _ _,(fun z hz=>by cases hz),World.ownsRow_nil _ _ _ _,(fun z hz=>by cases hz)⟩
 go_wp2_with fail;generalize hYY:w1.heap.size=Y at*;go_loopw [6] (fun i wr=>∃(k:Nat) (vS vF vN vT:Value) (zS:List (List Value×Int)) (zF:List (List Value×List bo)) (zN:List (List Value×List ByteArray)) (zT:List (List Value×List cd)),k<=l.length/\i=.int .i64 k/\Hid (Lv w1 wr (.slice ao l.length Z) vS vF vN vT zS zF zN zT)/\
  Hid ((zS.map (·.2)=(List.range k).map fun i=>bw l (b8 l i).bq)/\zF.map (·.2)=(List.range k).map (ki l)/\(zN.map (·.2)=(List.range k).map fun i=>(ji l i).1)/\(zT.map (·.2)=(List.range k).map fun i=>(ji l i).2)/\∀j,j<k->fewI l j=true)) (fun i _=>l.length - (intOf i).toNat)
 case atStart=>exact ⟨0,_,_,_,_,[],[],[],[],n0q _,rfl,dz.o,rfl,rfl,rfl,rfl,fun j h=>by omega⟩
 case round=>as_aux_lemma=>
  clear dz;obtain ⟨k,vS,vF,vN,vT,zS,zF,zN,zT,X,rfl,HW,HZ⟩:=hrel;have e6:Y<wr.heap.size:=by have:=HW.o.lt;omega
  have eh:zS.length=k/\zF.length=k/\zN.length=k/\zT.length=k:=by obtain ⟨h1,h2,h3,h4,-⟩:=HZ.o;have g1:=congrArg List.length h1;have g2:=congrArg List.length h2;have g3:=congrArg List.length h3;have g4:=congrArg List.length h4;simp at g1 g2 g3 g4;exact ⟨g1,g2,g3,g4⟩
  have ap:=ag eh;clear eh;have ay:Hid (SL 4 RC (· <B) wr (.slice ao l.length Z) l):=HV.o.keptC (Kp.below ((ah.o.trans (HW.o.below.mono ah.o.size)).mono hB));have bx:B<=wr.heap.size:=lt3 hB (ah.o.trans (HW.o.below.mono ah.o.size)).size;by_cases aw:k<l.length
  ·have fi:(0:Int)<=k:=by omega
   have fj:(k:Int)<l.length:=by omega
   have c6:=ag (zon wr B _ l k aw ay.o bx hN (fun c hc=>(dd.o c hc).2.2.1));have du:Hid (∀W,Below wr.heap.size wr W->Calls Tryz.prog 183 #[.slice ao l.length Z,.int .i64 k] W fun r w'=>Below W.heap.size W w'/\∃v u,r=.returned (.tuple #[v,u])/\SL 1 RS (MT W.heap.size [9] w') w' v (ji l k).1/\SL 2 RT (MT W.heap.size [233] w') w' u (ji l k).2):=fun W hW=>zor W B _ l k aw (ay.o.keptC (Kp.below (hW.mono bx))) (lt3 bx hW.size) hN (fun c hc=>(dd.o c hc).2.2.2.2.1);have eu:Hid (fewI l k=(decide ((ki l k).length<=12)&&decide ((ji l k).1.length<=16))):=rfl
   go_upto_region 10 with (first
    | (go_at_call 182;refine c6.o.mono ?_;rintro r w2 ⟨ef,u7,rfl,eq⟩;have an:=ag ef;have ch:=ag eq;obtain ⟨a7,c7,rfl,-⟩:=eq;clear ef)
    | (go_at_call 183;refine (du.o _ an.o).mono ?_;rintro r L ⟨eg,u8,u9,rfl,er,es⟩;have a5:=ag eg;have ci:=ag er;have cj:=ag es;obtain ⟨a8,c8,rfl,-⟩:=er;obtain ⟨a9,c9,rfl,-⟩:=es;clear eg))
   have cr:Hid (Below wr.heap.size wr L):=an.o.trans (a5.o.mono an.o.size);have ar:=ag (HW.o.grow cr.o);by_cases al:fewI l k=false
   ·have aq:Hid (ic l=2):=ds.o.trans (by rw [zov aw al];rfl);obtain ⟨J,ak⟩:=ai.o L (hYY ▸ ar.o.below);obtain ⟨W9,ad,ac,aa⟩:=set5e _ w.heap.size _ _ _ _ _ _ (.slice none 0 0) (.slice none 0 0) (.slice none 0 0) (.slice none 0 0) (.slice none 0 0) J;have r0:=ba J 0 (x:=.slice none 0 0) rfl;have r1:=ba J 1 (x:=.slice none 0 0) rfl;have r2:=ba J 2 (x:=.slice none 0 0) rfl;have r3:=ba J 3 (x:=.slice none 0 0) rfl;have r4:=ba J 4 (x:=.slice none 0 0) rfl;have f0:∀j,L.frozen? ⟨w.heap.size,j,none⟩=false:=fun j=>nu J j;have e5:=bz J;have E:=ag ac;have au:=ag ad;have V:=ag aa;have a6:=ag ak;rw [eu.o]at al;clear J ac aa ak ch ci cj ad;by_cases cn:(ki l k).length<=12
    ·have e0:¬(ji l k).1.length<=16:=by simpa [cn]using al
     have ek:¬((12:Int)<(ki l k).length):=by omega
     have ff:((16:Int)<(ji l k).1.length):=by omega
     clear al cn e0;go_wp2_with fail;rw [au.o];have s0:=ba E.o 0 (x:=.slice none 0 0) rfl;have s1:=ba E.o 1 (x:=.slice none 0 0) rfl;have s2:=ba E.o 2 (x:=.slice none 0 0) rfl;have s3:=ba E.o 3 (x:=.slice none 0 0) rfl;have s4:=ba E.o 4 (x:=.slice none 0 0) rfl;exact bodyPost_ret (v:=.tuple #[nilLk,.int .i64 2]) (by simp [results,Tryz.results117,go_sem,s0,s1,s2,s3,s4,nilLk]) rfl ⟨nt a6.o V.o (nlq _),Or.inr ⟨by rw [aq.o];decide,by rw [aq.o]⟩⟩
    have ek:((12:Int)<(ki l k).length):=by omega
    clear al cn;go_wp2_with fail;rw [au.o];have s0:=ba E.o 0 (x:=.slice none 0 0) rfl;have s1:=ba E.o 1 (x:=.slice none 0 0) rfl;have s2:=ba E.o 2 (x:=.slice none 0 0) rfl;have s3:=ba E.o 3 (x:=.slice none 0 0) rfl;have s4:=ba E.o 4 (x:=.slice none 0 0) rfl;exact bodyPost_ret (v:=.tuple #[nilLk,.int .i64 2]) (by simp [results,Tryz.results117,go_sem,s0,s1,s2,s3,s4,nilLk]) rfl ⟨nt a6.o V.o (nlq _),Or.inr ⟨by rw [aq.o];decide,by rw [aq.o]⟩⟩
   have a1:fewI l k=true:=by simpa using al
   have df:=ag a1;have ee:(ki l k).length<=12/\(ji l k).1.length<=16:=by simpa [fewI]using a1
   have ek:¬((12:Int)<(ki l k).length):=by omega
   have ff:¬((16:Int)<(ji l k).1.length):=by omega
   clear al a1 ee;have cm:Hid (SL 4 RC (· <B) L (.slice ao l.length Z) l):=ay.o.keptC (Kp.below (cr.o.mono bx));obtain ⟨b,off,vf,vm,rfl,hb,-,e1,-,-,-,-,-,d8⟩:=cm.o.atC k aw;have da:=ag (zoe L.drew (· <B) _ l l[k].bq cm.o);have ex:Hid (bw l l[k].bq=bw l (b8 l k).bq):=by show _=_;rw [zay aw]
   have bh:Hid (L.heap[Y]? =some (.cells #[.slice (some ⟨b,off,none⟩) l.length Z,vS,vF,vN,vT] 36 (0,0))):=hYY ▸ ar.o.blk;have m3:=ba bh.o 1 (x:=vS) rfl;have eb:=bz bh.o;have ca:Hid (L.ownsRow (Y+1) 3 1 vS zS.length (zS.flatMap (·.1))):=hYY ▸ ar.o.oS;have dk:Hid (∀c,((L.alloc c).drew).ownsRow (Y+1) 3 1 vS zS.length (zS.flatMap (·.1))):=fun c=>ca.o.alloc c;have dg:Hid (∀c,((L.alloc c).drew).heap[L.heap.size]? =some c):=fun c=>heap_alloc_new L c;have bf:Hid (zS.length+1<=maxLen/\(zS.length+1)*8<=140737488355328/\Y+1<=((L.alloc (.cells #[.int .i64 (bw l l[k].bq)] 3)).drew).heap.size):=(by have hz:=ap.o.1;exact ⟨by unfold maxLen;omega,by omega,by show Y+1<=(L.alloc _).heap.size;simp;omega⟩);have b2:Hid (SL 3 RF (MT Y [125] L) L (Value.slice a7 (ki l k).length c7) (ki l k)):=(ch.o.keptF (Stp.below a5.o).kp).monoF fun _ X=>(X.step (Stp.below a5.o)).more (by omega) (fun _ ht=>ht);have b3:Hid (SL 1 RS (MT Y [9] L) L (Value.slice a8 (ji l k).1.length c8) (ji l k).1):=ci.o.monoS fun _ X=>X.more (by have:=an.o.size;omega) (fun _ ht=>ht);have b4:Hid (SL 2 RT (MT Y [233] L) L (Value.slice a9 (ji l k).2.length c9) (ji l k).2):=cj.o.monoT fun _ X=>X.more (by have:=an.o.size;omega) (fun _ ht=>ht);have et:=ag d8;clear d8 ch ci cj an a5 cr c6 du
   go_upto_region 12 with fail
   go_cut [] (fun W=>∃a3 b0,Lv w1 W (.slice (some ⟨b,off,none⟩) l.length Z) a3 vF vN vT b0 zF zN zT/\(b0.map (·.2)=(List.range (k+1)).map fun i=>bw l (b8 l i).bq)/\SL 3 RF (MT Y [125] W) W (Value.slice a7 (ki l k).length c7) (ki l k)/\SL 1 RS (MT Y [9] W) W (Value.slice a8 (ji l k).1.length c8) (ji l k).1/\SL 2 RT (MT Y [233] W) W (Value.slice a9 (ji l k).2.length c9) (ji l k).2)
   case first=>
    go_region_law (first
     | (refine step_append_lies _ (by rfl) (.tmp 43) (.tmp 51) 22 (by rfl) (Y+1) 3 iI (.int .i64 0) 1 8 Tryz.underlying22 e8 cv cx cy rfl (by decide) vS zS.length (zS.flatMap (·.1)) (by rfl) (dk.o _) ⟨L.heap.size,0,none⟩ 1 1 [.int .i64 (bw l l[k].bq)] (by rfl) rfl (World.news_of_block (dg.o _)) (by intro u hu;simp at hu;subst hu;rfl) (by decide) bf.o.1 bf.o.2.1 bf.o.2.2 _ rfl ?_;intro gA cA w9 D A _ af;have I:∀q,vS.ownBlock=some q->Y+1<=q:=fun q e=>(ca.o.lt q e).1;have G:=(A.block Y (by show Y<(L.alloc _).heap.size;simp;omega) (fun e=>by have:=I _ e.symm;omega)).trans ((Below.heap_alloc L _ _ eb).trans bh.o);have m9:=ba G 1 (x:=vS) rfl;have z9:=nu G 1;have a2:=bz G;have bm:Hid (_/\World.grownBy (L.alloc (.cells #[.int .i64 (bw l l[k].bq)] 3)) w9 vS.ownBlock):=(And.intro D ⟨A.os,A.tape,A.output,A.size,A.block⟩);clear D A G I)
     | (go_simp;go_wp2_with (go_at_call 184;refine da.o.mono ?_;rintro r w7 ⟨rfl,rfl⟩)))
    all_goals
     have b1:=ag (ar.o.addS (x:=bw l l[k].bq) rfl (hYY.symm ▸ bm.o.1) bm.o.2);have hst:=ar.o.stpS (hYY.symm ▸ bm.o.1) bm.o.2;rw [hYY]at b1 hst;have bn:=ag ((b2.o.keptF (hst 125 (by decide)).kp).monoF fun _ X=>X.step (hst 125 (by decide)));have bs:=ag ((b3.o.keptS (hst 9 (by decide)).kp).monoS fun _ X=>X.step (hst 9 (by decide)));have bu:=ag ((b4.o.keptT (hst 233 (by decide)).kp).monoT fun _ X=>X.step (hst 233 (by decide)));clear hst;go_wp2_with fail
     go_meet
     exact ⟨_,_,b1.o,by rw [List.map_append,HZ.o.1,zjk,<-ex.o];rfl,bn.o,bs.o,bu.o⟩
   case rest=>as_aux_lemma=>
    clear m3 HW bh dk ca dg bf b2 b3 b4 da cm eb e6 e1 hb ar et
    rename World=>W
    obtain ⟨a3,b0,hW,ec,k7,k8,k9⟩:=hcut;have az:=ag hW;have d6:=ag ec;have bn:=ag k7;have bs:=ag k8;have bu:=ag k9;clear hW ec k7 k8 k9;have bi:Hid (W.heap[Y]? =some (.cells #[.slice (some ⟨b,off,none⟩) l.length Z,a3,vF,vN,vT] 36 (0,0))):=hYY ▸ az.o.blk;have mF:=ba bi.o 2 (x:=vF) rfl;have el:=bz bi.o;have cc:Hid (W.ownsRow (Y+1) 126 1 vF zF.length (zF.flatMap (·.1))):=hYY ▸ az.o.oF;have bb:Hid (zF.length+1<=maxLen/\(zF.length+1)*24<=140737488355328/\Y+1<=(W.alloc (.cells #[Value.slice a7 (ki l k).length c7] 126)).heap.size):=(by have hz:=ap.o.2.1;exact ⟨by unfold maxLen;omega,by omega,by simp;omega⟩)
    go_upto_region 14 with (at_builtin;refine wpList_append_lies _ rfl _ _ 32 rfl (Y+1) 126 iF (.slice none 0 0) 1 24 Tryz.underlying32 e7 cs ct cu rfl (by decide) vF zF.length (zF.flatMap (·.1)) rfl (cc.o.alloc _) ⟨W.heap.size,0,none⟩ 1 1 [Value.slice a7 (ki l k).length c7] rfl rfl (World.news_of_block (heap_alloc_new W _)) (by intro u hu;simp at hu;subst hu;rfl) (by decide) bb.o.1 bb.o.2.1 bb.o.2.2 _ rfl ?_;intro gA cA w9 D A _ af;have I:∀q,vF.ownBlock=some q->Y+1<=q:=fun q e=>(cc.o.lt q e).1;have G:=(A.block Y (by simp;omega) (fun e=>by have:=I _ e.symm;omega)).trans ((Below.heap_alloc _ _ _ el).trans bi.o);have m9:=ba G 2 (x:=vF) rfl;have z9:=nu G 2;have a2:=bz G;have aj:=ag (az.o.addF (hYY.symm ▸ bn.o) (hYY.symm ▸ D) A);have hst:=az.o.stpF (hYY.symm ▸ D) A;rw [hYY]at aj hst;have b5:=ag ((bs.o.keptS (hst 9 (by decide)).kp).monoS fun _ X=>X.step (hst 9 (by decide)));have b6:=ag ((bu.o.keptT (hst 233 (by decide)).kp).monoT fun _ X=>X.step (hst 233 (by decide)));clear hst;clear D A G I)
    obtain ⟨wn,ei⟩:∃wn,w9.setCell ⟨Y,2,none⟩ (.slice (some ⟨gA,0,none⟩) (zF.length+1) cA)=wn:=⟨_,rfl⟩;rw [ei]at aj b5 b6 ⊢;have bk:Hid (wn.heap[Y]? =some (.cells #[.slice (some ⟨b,off,none⟩) l.length Z,a3,.slice (some ⟨gA,0,none⟩) (zF.length+1) cA,vN,vT] 36 (0,0))):=hYY ▸ aj.o.blk;have mN:=ba bk.o 3 (x:=vN) rfl;have em:=bz bk.o;have ce:Hid (wn.ownsRow (Y+1) 225 1 vN zN.length (zN.flatMap (·.1))):=hYY ▸ aj.o.oN;have bc:Hid (zN.length+1<=maxLen/\(zN.length+1)*24<=140737488355328/\Y+1<=(wn.alloc (.cells #[Value.slice a8 (ji l k).1.length c8] 225)).heap.size):=(by have hz:=ap.o.2.2.1;exact ⟨by unfold maxLen;omega,by omega,by simp;omega⟩);clear ei m9 z9 a2 af mF el az bi cc bb bn bs bu
    go_upto_region 15 with (at_builtin;refine wpList_append_lies _ rfl _ _ 33 rfl (Y+1) 225 iN (.slice none 0 0) 1 24 Tryz.underlying33 e9 c0 c1 c2 rfl (by decide) vN zN.length (zN.flatMap (·.1)) rfl (ce.o.alloc _) ⟨wn.heap.size,0,none⟩ 1 1 [Value.slice a8 (ji l k).1.length c8] rfl rfl (World.news_of_block (heap_alloc_new wn _)) (by intro u hu;simp at hu;subst hu;rfl) (by decide) bc.o.1 bc.o.2.1 bc.o.2.2 _ rfl ?_;intro gB cB w8 D A _ af;have I:∀q,vN.ownBlock=some q->Y+1<=q:=fun q e=>(ce.o.lt q e).1;have G:=(A.block Y (by simp;omega) (fun e=>by have:=I _ e.symm;omega)).trans ((Below.heap_alloc _ _ _ em).trans bk.o);have m9:=ba G 3 (x:=vN) rfl;have z9:=nu G 3;have a2:=bz G;have av:=ag (aj.o.addN (hYY.symm ▸ b5.o) (hYY.symm ▸ D) A);have hst:=aj.o.stpN (hYY.symm ▸ D) A;rw [hYY]at av hst;have b7:=ag ((b6.o.keptT (hst 233 (by decide)).kp).monoT fun _ X=>X.step (hst 233 (by decide)));clear hst;clear D A G I)
    obtain ⟨wt,ej⟩:∃wt,w8.setCell ⟨Y,3,none⟩ (.slice (some ⟨gB,0,none⟩) (zN.length+1) cB)=wt:=⟨_,rfl⟩;rw [ej]at av b7 ⊢;have bl:Hid (wt.heap[Y]? =some (.cells #[.slice (some ⟨b,off,none⟩) l.length Z,a3,.slice (some ⟨gA,0,none⟩) (zF.length+1) cA,.slice (some ⟨gB,0,none⟩) (zN.length+1) cB,vT] 36 (0,0))):=hYY ▸ av.o.blk;have mT:=ba bl.o 4 (x:=vT) rfl;have en:=bz bl.o;have cf:Hid (wt.ownsRow (Y+1) 226 1 vT zT.length (zT.flatMap (·.1))):=hYY ▸ av.o.oT;have bg:Hid (zT.length+1<=maxLen/\(zT.length+1)*24<=140737488355328/\Y+1<=(wt.alloc (.cells #[Value.slice a9 (ji l k).2.length c9] 226)).heap.size):=(by have hz:=ap.o.2.2.2;exact ⟨by unfold maxLen;omega,by omega,by simp;omega⟩);clear ej m9 z9 a2 af mN em aj bk ce bc b5 b6
    go_upto_region 7 with (at_builtin;refine wpList_append_lies _ rfl _ _ 34 rfl (Y+1) 226 iT (.slice none 0 0) 1 24 Tryz.underlying34 fa c3 c4 c5 rfl (by decide) vT zT.length (zT.flatMap (·.1)) rfl (cf.o.alloc _) ⟨wt.heap.size,0,none⟩ 1 1 [Value.slice a9 (ji l k).2.length c9] rfl rfl (World.news_of_block (heap_alloc_new wt _)) (by intro u hu;simp at hu;subst hu;rfl) (by decide) bg.o.1 bg.o.2.1 bg.o.2.2 _ rfl ?_;intro gC cC w7 D A _ af;have I:∀q,vT.ownBlock=some q->Y+1<=q:=fun q e=>(cf.o.lt q e).1;have G:=(A.block Y (by simp;omega) (fun e=>by have:=I _ e.symm;omega)).trans ((Below.heap_alloc _ _ _ en).trans bl.o);have m9:=ba G 4 (x:=vT) rfl;have z9:=nu G 4;have a2:=bz G;have d5:=ag (av.o.addT (hYY.symm ▸ b7.o) (hYY.symm ▸ D) A);rw [hYY]at d5;clear D A G I)
    have ez:Hid ((b0.map (·.2)=(List.range (k+1)).map fun i=>bw l (b8 l i).bq)/\((zF++ [([Value.slice a7 (ki l k).length c7],ki l k)]).map (·.2)=(List.range (k+1)).map (ki l))/\((zN++ [([Value.slice a8 (ji l k).1.length c8],(ji l k).1)]).map (·.2)=(List.range (k+1)).map fun i=>(ji l i).1)/\((zT++ [([Value.slice a9 (ji l k).2.length c9],(ji l k).2)]).map (·.2)=(List.range (k+1)).map fun i=>(ji l i).2)/\∀j,j<k+1->fewI l j=true):=by
     obtain ⟨-,h2,h3,h4,h5⟩:=HZ.o;refine ⟨d6.o,?_,?_,?_,zow h5 df.o⟩
     ·rw [List.map_append,h2,zjk];rfl
     ·rw [List.map_append,h3,zjk];rfl
     rw [List.map_append,h4,zjk];rfl
    clear av bl cf bg b7 mT en HZ d6;go_wp2_with fail;go_roundw
    case rel=>exact ⟨k+1,_,_,_,_,_,_,_,_,by omega,by go_num,d5.o,ez.o⟩
    case measure=>simp [intOf];omega
  have fe:k=l.length:=by omega
  have aq:Hid (ic l=0):=ds.o.trans (if_pos (zou aw HZ.o.2.2.2.2));have ax:Hid (ma (fun q=>(q<B\/w1.heap.size<=q)/\q<wr.heap.size) wr (.slice ao l.length Z) vS vF vN vT (od l)):=by obtain ⟨h1,h2,h3,h4,-⟩:=HZ.o;obtain ⟨g1,g2,g3,g4⟩:=ap.o;have:=HW.o.rlk (B:=B) (lt3 hB ah.o.size) ay.o (by omega) (by omega) (by omega) (by omega);rw [h1,h2,h3,h4,fe]at this;exact this
  obtain ⟨J,ak⟩:=ai.o wr (hYY ▸ HW.o.below);obtain ⟨aS,cS,e1⟩:∃aS cS,vS=.slice aS l.length cS:=(by obtain ⟨a,c,e,-⟩:=ax.o.S;exact ⟨a,c,by simpa [od]using e⟩);obtain ⟨aF,cF,e2⟩:∃aF cF,vF=.slice aF l.length cF:=(by obtain ⟨a,c,e,-⟩:=ax.o.F;exact ⟨a,c,by simpa [od]using e⟩);obtain ⟨aN,cN,e3⟩:∃aN cN,vN=.slice aN l.length cN:=(by obtain ⟨a,c,e,-⟩:=ax.o.N;exact ⟨a,c,by simpa [od]using e⟩);obtain ⟨aT,cT,e4⟩:∃aT cT,vT=.slice aT l.length cT:=(by obtain ⟨a,c,e,-⟩:=ax.o.T;exact ⟨a,c,by simpa [od]using e⟩);subst e1 e2 e3 e4;have O:wr.heap[Y]? =some (.cells #[.slice ao l.length Z,.slice aS l.length cS,.slice aF l.length cF,.slice aN l.length cN,.slice aT l.length cT] 36 (0,0)):=hYY ▸ HW.o.blk;have d0:=ba O 0 (x:=.slice ao l.length Z) rfl;have d1:=ba O 1 (x:=.slice aS l.length cS) rfl;have d2:=ba O 2 (x:=.slice aF l.length cF) rfl;have d3:=ba O 3 (x:=.slice aN l.length cN) rfl;have d4:=ba O 4 (x:=.slice aT l.length cT) rfl;have r0:=ba J 0 (x:=.slice none 0 0) rfl;have r1:=ba J 1 (x:=.slice none 0 0) rfl;have r2:=ba J 2 (x:=.slice none 0 0) rfl;have r3:=ba J 3 (x:=.slice none 0 0) rfl;have r4:=ba J 4 (x:=.slice none 0 0) rfl;have f0:∀j,wr.frozen? ⟨w.heap.size,j,none⟩=false:=fun j=>nu J j;have e5:=bz J;obtain ⟨W9,ad,ac,aa⟩:=set5e _ w.heap.size _ _ _ _ _ _ (.slice ao l.length Z) (.slice aS l.length cS) (.slice aF l.length cF) (.slice aN l.length cN) (.slice aT l.length cT) J;have E:=ag ac;have V:=ag aa;have au:=ag ad;have a6:=ag ak;clear J ac aa ad ak O HW HZ ay ap;go_wp2_with fail;rw [au.o];have s0:=ba E.o 0 (x:=.slice ao l.length Z) rfl;have s1:=ba E.o 1 (x:=.slice aS l.length cS) rfl;have s2:=ba E.o 2 (x:=.slice aF l.length cF) rfl;have s3:=ba E.o 3 (x:=.slice aN l.length cN) rfl;have s4:=ba E.o 4 (x:=.slice aT l.length cT) rfl;refine bodyPost_ret (v:=.tuple #[.agg #[.slice ao l.length Z,.slice aS l.length cS,.slice aF l.length cF,.slice aN l.length cN,.slice aT l.length cT],.int .i64 0]) (by simp [results,Tryz.results117,go_sem,s0,s1,s2,s3,s4]) rfl ⟨nt a6.o V.o (nlq _),Or.inl ⟨aq.o,_,_,_,_,_,rfl,?_⟩⟩;exact (ax.o.kept (w':=W9) ⟨V.o.size,fun q hq hl=>V.o.block q hl (by intro e;injection e with e;rcases hq.1 with h | h<;>omega)⟩).mono fun q hq=>⟨hq.1.imp id (fun h=>by omega),ll3 hq.2 V.o.size⟩
end Go.Proofs.YtjdnmblggdobgaaGreat
