import Derived.Test.YtjdnmblggdobgaaGreatJLCkLCkP
import Derived.Test.YtjdnmblggdobgaaGreatJLLkLBas
set_option maxHeartbeats 16000000
set_option maxRecDepth 100000
namespace Go.Proofs.YtjdnmblggdobgaaGreat
open Go.RowKit Go.Sort Tryz
structure Lv (w0 W:World) (vC vS vF vN vT:Value) (zS:List (List Value×Int)) (zF:List (List Value×(List bq))) (zN:List (List Value×(List ByteArray))) (zT:List (List Value×(List cw))):Prop where
 below:Bl w0 W
 blk:W.heap[w0.heap.size]? =some (.cells #[vC,vS,vF,vN,vT] 36 (0,0))
 oS:W.ownsRow (w0.heap.size+1) 3 1 vS zS.length (zS.flatMap (·.1))
 aS:∀z∈zS,z.1= [Value.int .i64 z.2]
 oF:W.ownsRow (w0.heap.size+1) 126 1 vF zF.length (zF.flatMap (·.1))
 aF:∀z∈zF,z.1.length=1/\kr 3 RF (MT w0.heap.size [125] W) W z.1 z.2
 oN:W.ownsRow (w0.heap.size+1) 225 1 vN zN.length (zN.flatMap (·.1))
 aN:∀z∈zN,z.1.length=1/\kr 1 RS (MT w0.heap.size [9] W) W z.1 z.2
 oT:W.ownsRow (w0.heap.size+1) 226 1 vT zT.length (zT.flatMap (·.1))
 aT:∀z∈zT,z.1.length=1/\kr 2 RT (MT w0.heap.size [233] W) W z.1 z.2
theorem Lv.lt {A W:World} {D G E F I:Value} {N:List (List Value×Int)} {J:List (List Value×(List bq))} {L:List (List Value×(List ByteArray))} {O:List (List Value×(List cw))} (h:Lv A W D G E F I N J L O):A.heap.size<W.heap.size:=bz h.blk
theorem Lv.grow {N W:World} {F J G I L:Value} {X:List (List Value×Int)} {O:List (List Value×(List bq))} {V:List (List Value×(List ByteArray))} {Y:List (List Value×(List cw))} {E:World} (h:Lv N W F J G I L X O V Y) (A:Bl W E):Lv N E F J G I L X O V Y:=
 ⟨h.below.trans (A.mono h.below.size),(A.block _ h.lt).trans h.blk,mf h.oS A,h.aS,mf h.oF A,(fun z D=>⟨(h.aF z D).1,(h.aF z D).2.stp (Stp.below A) fun _ _ _ _ _ _ h=>h⟩),mf h.oN A,(fun z D=>⟨(h.aN z D).1,(h.aN z D).2.stp (Stp.below A) fun _ _ _ _ _ _ h=>h⟩),mf h.oT A,(fun z D=>⟨(h.aT z D).1,(h.aT z D).2.stp (Stp.below A) fun _ _ _ _ _ _ h=>h⟩)⟩
theorem Lv.addS {D W:World} {X L Y Z vT:Value} {N:List (List Value×Int)} {zF:List (List Value×(List bq))} {zN:List (List Value×(List ByteArray))} {zT:List (List Value×(List cw))} (h:Lv D W X L Y Z vT N zF zN zT) {u:Value} {x:Int} (hu:u=.i x) {G:World} {F:Value}
 (ho:G.ownsRow (D.heap.size+1) 3 1 F (N.length+1) (N.flatMap (·.1)++ [u])) (E:(W.alloc (.cells #[u] 3)).grownBy G L.ownBlock):
 Lv D (G.setCell ⟨D.heap.size,1,none⟩ F) X F Y Z vT (N++ [([u],x)]) zF zN zT:=by
 have V:=h.lt;have J:∀q,L.ownBlock=some q->D.heap.size+1<=q/\q<W.heap.size:=fun q e=>h.oS.lt q e;have I:G.heap[D.heap.size]? =some (.cells #[X,L,Y,Z,vT] 36 (0,0)):=by rw [E.block D.heap.size (by simp;omega) (fun e=>by have:=(J _ e.symm).1;omega),Below.heap_alloc _ _ _ V];exact h.blk
 have hst:∀t,t∉ [3,36]->Stp D.heap.size [t] W (G.setCell ⟨D.heap.size,1,none⟩ F):=fun t ht=>
  (((Stp.refl _ _ _).alloc _).trans (Stp.row E (h.oS.alloc _) (fun e=>ht (by simp at e;simp [e])))).trans (Stp.set I (fun e=>ht (by simp at e;simp [<-e])) 1 F)
 have O:Bl D G:=(h.below.alloc h.below.size _).grown E (by have:=h.below.size;simp;omega) (fun q e=>by have:=(J q e).1;omega);refine ⟨O.setCell (by simp) _,rr I F,?_,?_,?_,?_,?_,?_,?_,?_⟩
 ·rw [List.length_append,Ej];exact ownsRow_setCell_below ho (by simp) _
 ·intro z A;rcases List.mem_append.1 A with A | A
  ·exact h.aS z A
  rw [List.mem_singleton]at A;subst A;rw [hu]
 ·exact ownsRow_setCell_below ((h.oF.alloc _).kept E (sn h.oF h.oS (by decide))) (by simp) _
 ·exact fun z A=>⟨(h.aF z A).1,(h.aF z A).2.stp (hst _ (by decide)) fun _ _ _ _ _ _ h=>h⟩
 ·exact ownsRow_setCell_below ((h.oN.alloc _).kept E (sn h.oN h.oS (by decide))) (by simp) _
 ·exact fun z A=>⟨(h.aN z A).1,(h.aN z A).2.stp (hst _ (by decide)) fun _ _ _ _ _ _ h=>h⟩
 ·exact ownsRow_setCell_below ((h.oT.alloc _).kept E (sn h.oT h.oS (by decide))) (by simp) _
 exact fun z A=>⟨(h.aT z A).1,(h.aT z A).2.stp (hst _ (by decide)) fun _ _ _ _ _ _ h=>h⟩
theorem Lv.addF {D W:World} {X Z L Y vT:Value} {zS:List (List Value×Int)} {N:List (List Value×(List bq))} {zN:List (List Value×(List ByteArray))} {zT:List (List Value×(List cw))} (h:Lv D W X Z L Y vT zS N zN zT) {u:Value} {x:List bq} (hu:SL 3 RF (MT D.heap.size [125] W) W u x) {G:World} {F:Value}
 (ho:G.ownsRow (D.heap.size+1) 126 1 F (N.length+1) (N.flatMap (·.1)++ [u])) (E:(W.alloc (.cells #[u] 126)).grownBy G L.ownBlock):
 Lv D (G.setCell ⟨D.heap.size,2,none⟩ F) X Z F Y vT zS (N++ [([u],x)]) zN zT:=by
 have V:=h.lt;have J:∀q,L.ownBlock=some q->D.heap.size+1<=q/\q<W.heap.size:=fun q e=>h.oF.lt q e;have I:G.heap[D.heap.size]? =some (.cells #[X,Z,L,Y,vT] 36 (0,0)):=by rw [E.block D.heap.size (by simp;omega) (fun e=>by have:=(J _ e.symm).1;omega),Below.heap_alloc _ _ _ V];exact h.blk
 have hst:∀t,t∉ [126,36]->Stp D.heap.size [t] W (G.setCell ⟨D.heap.size,2,none⟩ F):=fun t ht=>
  (((Stp.refl _ _ _).alloc _).trans (Stp.row E (h.oF.alloc _) (fun e=>ht (by simp at e;simp [e])))).trans (Stp.set I (fun e=>ht (by simp at e;simp [<-e])) 2 F)
 have O:Bl D G:=(h.below.alloc h.below.size _).grown E (by have:=h.below.size;simp;omega) (fun q e=>by have:=(J q e).1;omega);refine ⟨O.setCell (by simp) _,rr I F,?_,?_,?_,?_,?_,?_,?_,?_⟩
 ·exact ownsRow_setCell_below ((h.oS.alloc _).kept E (sn h.oS h.oF (by decide))) (by simp) _
 ·exact h.aS
 ·rw [List.length_append,Ej];exact ownsRow_setCell_below ho (by simp) _
 ·intro z A;rcases List.mem_append.1 A with A | A
  ·exact ⟨(h.aF z A).1,(h.aF z A).2.stp (hst _ (by decide)) fun _ _ _ _ _ _ h=>h⟩
  rw [List.mem_singleton]at A;subst A;exact ⟨rfl,kr.stp ⟨u,rfl,hu⟩ (hst _ (by decide)) fun _ _ _ _ _ _ h=>h⟩
 ·exact ownsRow_setCell_below ((h.oN.alloc _).kept E (sn h.oN h.oF (by decide))) (by simp) _
 ·exact fun z A=>⟨(h.aN z A).1,(h.aN z A).2.stp (hst _ (by decide)) fun _ _ _ _ _ _ h=>h⟩
 ·exact ownsRow_setCell_below ((h.oT.alloc _).kept E (sn h.oT h.oF (by decide))) (by simp) _
 exact fun z A=>⟨(h.aT z A).1,(h.aT z A).2.stp (hst _ (by decide)) fun _ _ _ _ _ _ h=>h⟩
theorem Lv.addN {D W:World} {X Z Y L vT:Value} {zS:List (List Value×Int)} {zF:List (List Value×(List bq))} {N:List (List Value×(List ByteArray))} {zT:List (List Value×(List cw))} (h:Lv D W X Z Y L vT zS zF N zT) {u:Value} {x:List ByteArray} (hu:SL 1 RS (MT D.heap.size [9] W) W u x) {G:World} {F:Value}
 (ho:G.ownsRow (D.heap.size+1) 225 1 F (N.length+1) (N.flatMap (·.1)++ [u])) (E:(W.alloc (.cells #[u] 225)).grownBy G L.ownBlock):
 Lv D (G.setCell ⟨D.heap.size,3,none⟩ F) X Z Y F vT zS zF (N++ [([u],x)]) zT:=by
 have V:=h.lt;have J:∀q,L.ownBlock=some q->D.heap.size+1<=q/\q<W.heap.size:=fun q e=>h.oN.lt q e;have I:G.heap[D.heap.size]? =some (.cells #[X,Z,Y,L,vT] 36 (0,0)):=by rw [E.block D.heap.size (by simp;omega) (fun e=>by have:=(J _ e.symm).1;omega),Below.heap_alloc _ _ _ V];exact h.blk
 have hst:∀t,t∉ [225,36]->Stp D.heap.size [t] W (G.setCell ⟨D.heap.size,3,none⟩ F):=fun t ht=>
  (((Stp.refl _ _ _).alloc _).trans (Stp.row E (h.oN.alloc _) (fun e=>ht (by simp at e;simp [e])))).trans (Stp.set I (fun e=>ht (by simp at e;simp [<-e])) 3 F)
 have O:Bl D G:=(h.below.alloc h.below.size _).grown E (by have:=h.below.size;simp;omega) (fun q e=>by have:=(J q e).1;omega);refine ⟨O.setCell (by simp) _,rr I F,?_,?_,?_,?_,?_,?_,?_,?_⟩
 ·exact ownsRow_setCell_below ((h.oS.alloc _).kept E (sn h.oS h.oN (by decide))) (by simp) _
 ·exact h.aS
 ·exact ownsRow_setCell_below ((h.oF.alloc _).kept E (sn h.oF h.oN (by decide))) (by simp) _
 ·exact fun z A=>⟨(h.aF z A).1,(h.aF z A).2.stp (hst _ (by decide)) fun _ _ _ _ _ _ h=>h⟩
 ·rw [List.length_append,Ej];exact ownsRow_setCell_below ho (by simp) _
 ·intro z A;rcases List.mem_append.1 A with A | A
  ·exact ⟨(h.aN z A).1,(h.aN z A).2.stp (hst _ (by decide)) fun _ _ _ _ _ _ h=>h⟩
  rw [List.mem_singleton]at A;subst A;exact ⟨rfl,kr.stp ⟨u,rfl,hu⟩ (hst _ (by decide)) fun _ _ _ _ _ _ h=>h⟩
 ·exact ownsRow_setCell_below ((h.oT.alloc _).kept E (sn h.oT h.oN (by decide))) (by simp) _
 exact fun z A=>⟨(h.aT z A).1,(h.aT z A).2.stp (hst _ (by decide)) fun _ _ _ _ _ _ h=>h⟩
theorem Lv.addT {D W:World} {X vS Y Z L:Value} {zS:List (List Value×Int)} {zF:List (List Value×(List bq))} {zN:List (List Value×(List ByteArray))} {N:List (List Value×(List cw))} (h:Lv D W X vS Y Z L zS zF zN N) {u:Value} {x:List cw} (hu:SL 2 RT (MT D.heap.size [233] W) W u x) {G:World} {F:Value}
 (ho:G.ownsRow (D.heap.size+1) 226 1 F (N.length+1) (N.flatMap (·.1)++ [u])) (E:(W.alloc (.cells #[u] 226)).grownBy G L.ownBlock):
 Lv D (G.setCell ⟨D.heap.size,4,none⟩ F) X vS Y Z F zS zF zN (N++ [([u],x)]):=by
 have V:=h.lt;have J:∀q,L.ownBlock=some q->D.heap.size+1<=q/\q<W.heap.size:=fun q e=>h.oT.lt q e;have I:G.heap[D.heap.size]? =some (.cells #[X,vS,Y,Z,L] 36 (0,0)):=by rw [E.block D.heap.size (by simp;omega) (fun e=>by have:=(J _ e.symm).1;omega),Below.heap_alloc _ _ _ V];exact h.blk
 have hst:∀t,t∉ [226,36]->Stp D.heap.size [t] W (G.setCell ⟨D.heap.size,4,none⟩ F):=fun t ht=>
  (((Stp.refl _ _ _).alloc _).trans (Stp.row E (h.oT.alloc _) (fun e=>ht (by simp at e;simp [e])))).trans (Stp.set I (fun e=>ht (by simp at e;simp [<-e])) 4 F)
 have O:Bl D G:=(h.below.alloc h.below.size _).grown E (by have:=h.below.size;simp;omega) (fun q e=>by have:=(J q e).1;omega);refine ⟨O.setCell (by simp) _,rr I F,?_,?_,?_,?_,?_,?_,?_,?_⟩
 ·exact ownsRow_setCell_below ((h.oS.alloc _).kept E (sn h.oS h.oT (by decide))) (by simp) _
 ·exact h.aS
 ·exact ownsRow_setCell_below ((h.oF.alloc _).kept E (sn h.oF h.oT (by decide))) (by simp) _
 ·exact fun z A=>⟨(h.aF z A).1,(h.aF z A).2.stp (hst _ (by decide)) fun _ _ _ _ _ _ h=>h⟩
 ·exact ownsRow_setCell_below ((h.oN.alloc _).kept E (sn h.oN h.oT (by decide))) (by simp) _
 ·exact fun z A=>⟨(h.aN z A).1,(h.aN z A).2.stp (hst _ (by decide)) fun _ _ _ _ _ _ h=>h⟩
 ·rw [List.length_append,Ej];exact ownsRow_setCell_below ho (by simp) _
 intro z A;rcases List.mem_append.1 A with A | A
 ·exact ⟨(h.aT z A).1,(h.aT z A).2.stp (hst _ (by decide)) fun _ _ _ _ _ _ h=>h⟩
 rw [List.mem_singleton]at A;subst A;exact ⟨rfl,kr.stp ⟨u,rfl,hu⟩ (hst _ (by decide)) fun _ _ _ _ _ _ h=>h⟩
theorem Lv.stpS {A W:World} {O D V X Y:Value} {zS:List (List Value×Int)} {Z:List (List Value×(List bq))} {zN:List (List Value×(List ByteArray))} {zT:List (List Value×(List cw))} (h:Lv A W O D V X Y zS Z zN zT) {u:Value} {E:World} {J:Value} {n:Nat} {xs:List Value}
 (_:E.ownsRow (A.heap.size+1) 3 1 J n xs) (L:(W.alloc (.cells #[u] 3)).grownBy E D.ownBlock) (t:Nat) (N:t∉ [3,36]):
 Stp A.heap.size [t] W (E.setCell ⟨A.heap.size,1,none⟩ J):=by
 have G:=h.lt;have I:∀q,D.ownBlock=some q->A.heap.size+1<=q/\q<W.heap.size:=fun q e=>h.oS.lt q e;have F:E.heap[A.heap.size]? =some (.cells #[O,D,V,X,Y] 36 (0,0)):=by rw [L.block A.heap.size (by simp;omega) (fun e=>by have:=(I _ e.symm).1;omega),Below.heap_alloc _ _ _ G];exact h.blk
 exact (((Stp.refl _ _ _).alloc _).trans (Stp.row L (h.oS.alloc _) (fun e=>N (by simp at e;simp [e])))).trans (Stp.set F (fun e=>N (by simp at e;simp [<-e])) 1 J)
theorem Lv.stpF {A W:World} {O X D V Y:Value} {zS:List (List Value×Int)} {Z:List (List Value×(List bq))} {zN:List (List Value×(List ByteArray))} {zT:List (List Value×(List cw))} (h:Lv A W O X D V Y zS Z zN zT) {u:Value} {E:World} {J:Value} {n:Nat} {xs:List Value}
 (_:E.ownsRow (A.heap.size+1) 126 1 J n xs) (L:(W.alloc (.cells #[u] 126)).grownBy E D.ownBlock) (t:Nat) (N:t∉ [126,36]):
 Stp A.heap.size [t] W (E.setCell ⟨A.heap.size,2,none⟩ J):=by
 have G:=h.lt;have I:∀q,D.ownBlock=some q->A.heap.size+1<=q/\q<W.heap.size:=fun q e=>h.oF.lt q e;have F:E.heap[A.heap.size]? =some (.cells #[O,X,D,V,Y] 36 (0,0)):=by rw [L.block A.heap.size (by simp;omega) (fun e=>by have:=(I _ e.symm).1;omega),Below.heap_alloc _ _ _ G];exact h.blk
 exact (((Stp.refl _ _ _).alloc _).trans (Stp.row L (h.oF.alloc _) (fun e=>N (by simp at e;simp [e])))).trans (Stp.set F (fun e=>N (by simp at e;simp [<-e])) 2 J)
theorem Lv.stpN {A W:World} {O X V D Y:Value} {zS:List (List Value×Int)} {Z:List (List Value×(List bq))} {zN:List (List Value×(List ByteArray))} {zT:List (List Value×(List cw))} (h:Lv A W O X V D Y zS Z zN zT) {u:Value} {E:World} {J:Value} {n:Nat} {xs:List Value}
 (_:E.ownsRow (A.heap.size+1) 225 1 J n xs) (L:(W.alloc (.cells #[u] 225)).grownBy E D.ownBlock) (t:Nat) (N:t∉ [225,36]):
 Stp A.heap.size [t] W (E.setCell ⟨A.heap.size,3,none⟩ J):=by
 have G:=h.lt;have I:∀q,D.ownBlock=some q->A.heap.size+1<=q/\q<W.heap.size:=fun q e=>h.oN.lt q e;have F:E.heap[A.heap.size]? =some (.cells #[O,X,V,D,Y] 36 (0,0)):=by rw [L.block A.heap.size (by simp;omega) (fun e=>by have:=(I _ e.symm).1;omega),Below.heap_alloc _ _ _ G];exact h.blk
 exact (((Stp.refl _ _ _).alloc _).trans (Stp.row L (h.oN.alloc _) (fun e=>N (by simp at e;simp [e])))).trans (Stp.set F (fun e=>N (by simp at e;simp [<-e])) 3 J)
theorem Lv.rlk {E W:World} {J Z X Y vT:Value} {O:List (List Value×Int)} {L:List (List Value×(List bq))} {N:List (List Value×(List ByteArray))} {V:List (List Value×(List cw))} {l:List aq} {B:Nat} (h:Lv E W J Z X Y vT O L N V) (hB:B<=E.heap.size) (hC:SL 4 RC (· <B) W J l) (h1:O.length<=1000) (h2:L.length<=1000) (h3:N.length<=1000) (h4:V.length<=1000):
 mt (fun k=>(k<B\/E.heap.size<=k)/\k<W.heap.size) W J Z X Y vT ⟨l,O.map (·.2),L.map (·.2),N.map (·.2),V.map (·.2)⟩:=by
 have I:∀ {T:List Nat} (k:Nat),MT E.heap.size T W k->(k<B\/E.heap.size<=k)/\k<W.heap.size:=fun k D=>⟨Or.inr D.1,D.lt⟩;have sS:=vz (n:=1) (R:=RI) (T:=[3]) (Ah h.oS (B':=E.heap.size) (by omega)) (fun z A=>⟨by rw [h.aS z A];rfl,h.aS z A⟩) (by simp) (by unfold maxLen;omega);have sF:=vz (n:=1) (R:=kr 3 RF) (T:=[125,126]) (Ah h.oF (B':=E.heap.size) (by omega)) (fun z A=>⟨(h.aF z A).1,by
  obtain ⟨v,e,G⟩:=(h.aF z A).2;exact ⟨v,e,G.mono (fun _ D=>D.more (nlq _) (fun _ F=>by simp at F;simp [F])) fun _ _ h=>h⟩⟩) (by simp) (by unfold maxLen;omega)
 have sN:=vz (n:=1) (R:=kr 1 RS) (T:=[9,225]) (Ah h.oN (B':=E.heap.size) (by omega)) (fun z A=>⟨(h.aN z A).1,by
  obtain ⟨v,e,G⟩:=(h.aN z A).2;exact ⟨v,e,G.mono (fun _ D=>D.more (nlq _) (fun _ F=>by simp at F;simp [F])) fun _ _ h=>h⟩⟩) (by simp) (by unfold maxLen;omega)
 have sT:=vz (n:=1) (R:=kr 2 RT) (T:=[233,226]) (Ah h.oT (B':=E.heap.size) (by omega)) (fun z A=>⟨(h.aT z A).1,by
  obtain ⟨v,e,G⟩:=(h.aT z A).2;exact ⟨v,e,G.mono (fun _ D=>D.more (nlq _) (fun _ F=>by simp at F;simp [F])) fun _ _ h=>h⟩⟩) (by simp) (by unfold maxLen;omega)
 exact ⟨hC.monoC (fun k (D:k<B)=>⟨Or.inl D,by have:=h.below.size;omega⟩),sS.monoI I,sF.monoSl I (fun _ _ h=>h),sN.monoSl I (fun _ _ h=>h),sT.monoSl I (fun _ _ h=>h)⟩
end Go.Proofs.YtjdnmblggdobgaaGreat
namespace Go.Proofs.YtjdnmblggdobgaaGreat
open Go.RowKit Tryz
def vp (l:List aq) (i:Nat):Bool:=decide ((mq l i).length<=12)&&decide ((kg l i).1.length<=16)
def jq (l:List aq):Int:=if cq l≠0 then cq l else if fg l (vp l)=true then 0 else 2
def qn (l:List aq):bd:=⟨l,(List.range l.length).map fun i=>cb l (cd l i).bv,(List.range l.length).map (mq l),(List.range l.length).map fun i=>(kg l i).1,(List.range l.length).map fun i=>(kg l i).2⟩
theorem zqq {l:List aq} (h:cq l=0):dy l=0:=by
 by_cases hc:dy l=0
 ·exact hc
 have:cq l=dy l:=by simp [cq,hc]
 rw [<-this];exact h
theorem set5e (W:World) (R t:Nat) (I J L N O A D E F G:Value) (h:W.heap[R]? =some (.cells #[I,J,L,N,O] t (0,0))):
 ∃W9,(((((W.setCell ⟨R,0,none⟩ A).setCell ⟨R,1,none⟩ D).setCell ⟨R,2,none⟩ E).setCell ⟨R,3,none⟩ F).setCell ⟨R,4,none⟩ G)=W9/\W9.heap[R]? =some (.cells #[A,D,E,F,G] t (0,0))/\W.grownBy W9 (some R):=⟨_,rfl,Ff W R t I J L N O A D E F G h⟩
theorem z1x (w:World) (B:Nat) (l:List aq) (v:Value) (hv:SL 4 RC (· <B) w v l) (hB:B<=w.heap.size) (h0:jq l=0):
 Calls prog 117 #[v] w fun r w'=>Below w.heap.size w w'/\∃kC kS kF kN kT,r=.returned (.tuple #[.agg #[kC,kS,kF,kN,kT],.i 0])/\mt (fun k=>(k<B\/w.heap.size<=k)/\k<w'.heap.size) w' kC kS kF kN kT (qn l):=by
 have Z:cq l=0:=by
  by_cases h:cq l=0
  ·exact h
  have e:jq l=cq l:=by rw [jq,if_pos h]
  rw [h0]at e;exact e.symm
 have H0:=ag h0;have bh:=ag Z;clear h0 Z;obtain ⟨iI,es,ci,cj,ck⟩:=info_parts jy;obtain ⟨iF,er,ce,cf,ch⟩:=info_parts Bp;obtain ⟨iN,et,cm,cn,co⟩:=info_parts Bq;obtain ⟨iT,eu,cp,cr,cs⟩:=info_parts Br;have HV:=ag hv;obtain ⟨ao,X,rfl,-⟩:=hv;have av:=ag (fun o=>(br w.heap.size w).alloc (nlq _) o);go_enter func117,ntmps117;go_wp2_with fail;refine (z1w _ B l _ (HV.o.keptC (Kp.below ((av.o _).mono hB))) (lt3 hB (av.o _).size) bh.o).mono ?_;rintro r w1 ⟨rfl,b7⟩;have b6:w1.heap[w.heap.size]? =some (.cells #[.nl,.nl,.nl,.nl,.nl] 36 (0,0)):=(b7.block w.heap.size (by simp)).trans (heap_alloc_new w _);have ds:Below w.heap.size w w1:=(av.o _).trans (b7.mono (av.o _).size);have O:=ag ds;have c1:=ag b6;have e6:w.heap.size<w1.heap.size:=bz b6;have bs:Hid (∀W,Below w1.heap.size w1 W->W.heap[w.heap.size]? =some (.cells #[.nl,.nl,.nl,.nl,.nl] 36 (0,0))/\Below w.heap.size w W):=fun W hW=>⟨(hW.block _ (bz c1.o)).trans c1.o,O.o.trans (hW.mono O.o.size)⟩;clear b7 ds b6;have Z:=bh.o;obtain ⟨hN,al⟩:=zgm (zqq Z);have cv:=ag al;have c5:Hid (jq l=if fg l (vp l)=true then 0 else 2):=by show jq l=_;rw [jq,if_neg (by simpa using Z)]
 rw [Z];clear Z al;have de:Hid (Lv w1 (w1.alloc (.cells #[.slice ao l.length X,.nl,.nl,.nl,.nl] 36)) (.slice ao l.length X) (.nl) (.nl) (.nl) (.nl) [] [] [] []):=
  ⟨(br _ _).alloc (nlq _) _,heap_alloc_new w1 _,World.ownsRow_nil _ _ _ _,(fun z hz=>by cases hz),World.ownsRow_nil _ _ _ _,(fun z hz=>by cases hz),World.ownsRow_nil _ _ _ _,(fun z hz=>by cases hz),World.ownsRow_nil _ _ _ _,(fun z hz=>by cases hz)⟩
 go_wp2_with fail;generalize hYY:w1.heap.size=Y at*;go_loopw [6] (fun i wr=>∃(k:Nat) (vS vF vN vT:Value) (zS:List (List Value×Int)) (zF:List (List Value×List bq)) (zN:List (List Value×List ByteArray)) (zT:List (List Value×List cw)),k<=l.length/\i=.i k/\Hid (Lv w1 wr (.slice ao l.length X) vS vF vN vT zS zF zN zT)/\
  Hid ((zS.map (·.2)=(List.range k).map fun i=>cb l (cd l i).bv)/\zF.map (·.2)=(List.range k).map (mq l)/\(zN.map (·.2)=(List.range k).map fun i=>(kg l i).1)/\(zT.map (·.2)=(List.range k).map fun i=>(kg l i).2)/\∀j,j<k->vp l j=true)) (fun i _=>l.length - (intOf i).toNat)
 case atStart=>exact ⟨0,_,_,_,_,[],[],[],[],n0q _,rfl,de.o,rfl,rfl,rfl,rfl,fun j h=>by omega⟩
 case round=>as_aux_lemma=>
  clear de;obtain ⟨k,vS,vF,vN,vT,zS,zF,zN,zT,J,rfl,HW,HZ⟩:=hrel;have eq:Y<wr.heap.size:=by have:=HW.o.lt;omega
  have d8:zS.length=k/\zF.length=k/\zN.length=k/\zT.length=k:=by obtain ⟨h1,h2,h3,h4,-⟩:=HZ.o;have g1:=congrArg List.length h1;have g2:=congrArg List.length h2;have g3:=congrArg List.length h3;have g4:=congrArg List.length h4;simp at g1 g2 g3 g4;exact ⟨g1,g2,g3,g4⟩
  have ac:=ag d8;clear d8;have ai:Hid (SL 4 RC (· <B) wr (.slice ao l.length X) l):=HV.o.keptC (Kp.below ((O.o.trans (HW.o.below.mono O.o.size)).mono hB));have bf:B<=wr.heap.size:=lt3 hB (O.o.trans (HW.o.below.mono O.o.size)).size;by_cases af:k<l.length
  ·have ez:(0:Int)<=k:=by omega
   have e0:(k:Int)<l.length:=by omega
   have ct:=ag (zon wr B _ l k af ai.o bf hN (fun c hc=>(cv.o c hc).2.2.1));have dd:Hid (∀W,Below wr.heap.size wr W->Calls prog 183 #[.slice ao l.length X,.i k] W fun r w'=>Below W.heap.size W w'/\∃v u,r=.returned (.tuple #[v,u])/\SL 1 RS (MT W.heap.size [9] w') w' v (kg l k).1/\SL 2 RT (MT W.heap.size [233] w') w' u (kg l k).2):=fun W hW=>zor W B _ l k af (ai.o.keptC (Kp.below (hW.mono bf))) (lt3 bf hW.size) hN (fun c hc=>(cv.o c hc).2.2.2.2.1);have ey:Hid (vp l k=(decide ((mq l k).length<=12)&&decide ((kg l k).1.length<=16))):=rfl
   go_upto_region 10 with (first
    | (go_at_call 182;refine ct.o.mono ?_;rintro r w2 ⟨d5,u7,rfl,eg⟩;have aa:=ag d5;have c2:=ag eg;obtain ⟨a7,c7,rfl,-⟩:=eg;clear d5)
    | (go_at_call 183;refine (dd.o _ aa.o).mono ?_;rintro r I ⟨d6,u8,u9,rfl,eh,ei⟩;have aw:=ag d6;have c3:=ag eh;have c4:=ag ei;obtain ⟨a8,c8,rfl,-⟩:=eh;obtain ⟨a9,c9,rfl,-⟩:=ei;clear d6))
   have cc:Hid (Below wr.heap.size wr I):=aa.o.trans (aw.o.mono aa.o.size);have aj:=ag (HW.o.grow cc.o);by_cases ca:vp l k=false
   ·have c6:Hid (jq l=2):=c5.o.trans (by rw [Eo af ca];rfl);exact absurd c6.o (by rw [H0.o];decide)
   have an:vp l k=true:=by simpa using ca
   have cx:=ag an;have d4:(mq l k).length<=12/\(kg l k).1.length<=16:=by simpa [vp]using an
   have e7:¬((12:Int)<(mq l k).length):=by omega
   have e8:¬((16:Int)<(kg l k).1.length):=by omega
   clear ca an d4;have b5:Hid (SL 4 RC (· <B) I (.slice ao l.length X) l):=ai.o.keptC (Kp.below (cc.o.mono bf));obtain ⟨b,off,vf,vm,rfl,hb,-,e1,-,-,-,-,-,dl⟩:=b5.o.atC k af;have cu:=ag (Ck I.drew (· <B) _ l l[k].bv b5.o);have em:Hid (cb l l[k].bv=cb l (cd l k).bv):=by show _=_;rw [sm af]
   have a1:Hid (I.heap[Y]? =some (.cells #[.slice (some ⟨b,off,none⟩) l.length X,vS,vF,vN,vT] 36 (0,0))):=hYY ▸ aj.o.blk;have m3:=bp a1.o 1 (x:=vS) rfl;have d2:=bz a1.o;have b1:Hid (I.ownsRow (Y+1) 3 1 vS zS.length (zS.flatMap (·.1))):=hYY ▸ aj.o.oS;have c0:Hid (∀c,((I.alloc c).drew).ownsRow (Y+1) 3 1 vS zS.length (zS.flatMap (·.1))):=fun c=>b1.o.alloc c;have cy:Hid (∀c,((I.alloc c).drew).heap[I.heap.size]? =some c):=fun c=>heap_alloc_new I c;have az:Hid (zS.length+1<=maxLen/\(zS.length+1)*8<=140737488355328/\Y+1<=((I.alloc (.cells #[.i (cb l l[k].bv)] 3)).drew).heap.size):=(by have hz:=ac.o.1;exact ⟨by unfold maxLen;omega,by omega,by show Y+1<=(I.alloc _).heap.size;simp;omega⟩);have bl:Hid (SL 3 RF (MT Y [125] I) I (Value.slice a7 (mq l k).length c7) (mq l k)):=(c2.o.keptF (Stp.below aw.o).kp).monoF fun _ J=>(J.step (Stp.below aw.o)).more (by omega) (fun _ ht=>ht);have bm:Hid (SL 1 RS (MT Y [9] I) I (Value.slice a8 (kg l k).1.length c8) (kg l k).1):=c3.o.monoS fun _ J=>J.more (by have:=aa.o.size;omega) (fun _ ht=>ht);have bn:Hid (SL 2 RT (MT Y [233] I) I (Value.slice a9 (kg l k).2.length c9) (kg l k).2):=c4.o.monoT fun _ J=>J.more (by have:=aa.o.size;omega) (fun _ ht=>ht);have ek:=ag dl;clear dl c2 c3 c4 aa aw cc ct dd
   go_upto_region 12 with fail
   go_cut [] (fun W=>∃au bg,Lv w1 W (.slice (some ⟨b,off,none⟩) l.length X) au vF vN vT bg zF zN zT/\(bg.map (·.2)=(List.range (k+1)).map fun i=>cb l (cd l i).bv)/\SL 3 RF (MT Y [125] W) W (Value.slice a7 (mq l k).length c7) (mq l k)/\SL 1 RS (MT Y [9] W) W (Value.slice a8 (kg l k).1.length c8) (kg l k).1/\SL 2 RT (MT Y [233] W) W (Value.slice a9 (kg l k).2.length c9) (kg l k).2)
   case first=>
    go_region_law (first
     | (refine step_append_lies _ (by rfl) (.tmp 43) (.tmp 51) 22 (by rfl) (Y+1) 3 iI (.i 0) 1 8 underlying22 es ci cj ck rfl (by decide) vS zS.length (zS.flatMap (·.1)) (by rfl) (c0.o _) ⟨I.heap.size,0,none⟩ 1 1 [.i (cb l l[k].bv)] (by rfl) rfl (World.news_of_block (cy.o _)) (by intro u hu;simp at hu;subst hu;rfl) (by decide) az.o.1 az.o.2.1 az.o.2.2 _ rfl ?_;intro gA cA w9 D A _ L;have G:∀q,vS.ownBlock=some q->Y+1<=q:=fun q e=>(b1.o.lt q e).1;have E:=(A.block Y (by show Y<(I.alloc _).heap.size;simp;omega) (fun e=>by have:=G _ e.symm;omega)).trans ((Below.heap_alloc I _ _ d2).trans a1.o);have m9:=bp E 1 (x:=vS) rfl;have z9:=pj E 1;have ap:=bz E;have a5:Hid (_/\World.grownBy (I.alloc (.cells #[.i (cb l l[k].bv)] 3)) w9 vS.ownBlock):=(And.intro D ⟨A.os,A.tape,A.output,A.size,A.block⟩);clear D A E G)
     | (go_simp;go_wp2_with (go_at_call 184;refine cu.o.mono ?_;rintro r w7 ⟨rfl,rfl⟩)))
    all_goals
     have bi:=ag (aj.o.addS (x:=cb l l[k].bv) rfl (hYY.symm ▸ a5.o.1) a5.o.2);have hst:=aj.o.stpS (hYY.symm ▸ a5.o.1) a5.o.2;rw [hYY]at bi hst;have bb:=ag ((bl.o.keptF (hst 125 (by decide)).kp).monoF fun _ J=>J.step (hst 125 (by decide)));have bc:=ag ((bm.o.keptS (hst 9 (by decide)).kp).monoS fun _ J=>J.step (hst 9 (by decide)));have be:=ag ((bn.o.keptT (hst 233 (by decide)).kp).monoT fun _ J=>J.step (hst 233 (by decide)));clear hst;go_wp2_with fail
     go_meet
     exact ⟨_,_,bi.o,by rw [List.map_append,HZ.o.1,Em,<-em.o];rfl,bb.o,bc.o,be.o⟩
   case rest=>as_aux_lemma=>
    clear m3 HW a1 c0 b1 cy az bl bm bn cu b5 d2 eq e1 hb aj ek
    rename World=>W
    obtain ⟨au,bg,hW,d3,k7,k8,k9⟩:=hcut;have ak:=ag hW;have dg:=ag d3;have bb:=ag k7;have bc:=ag k8;have be:=ag k9;clear hW d3 k7 k8 k9;have a2:Hid (W.heap[Y]? =some (.cells #[.slice (some ⟨b,off,none⟩) l.length X,au,vF,vN,vT] 36 (0,0))):=hYY ▸ ak.o.blk;have mF:=bp a2.o 2 (x:=vF) rfl;have ec:=bz a2.o;have b2:Hid (W.ownsRow (Y+1) 126 1 vF zF.length (zF.flatMap (·.1))):=hYY ▸ ak.o.oF;have ax:Hid (zF.length+1<=maxLen/\(zF.length+1)*24<=140737488355328/\Y+1<=(W.alloc (.cells #[Value.slice a7 (mq l k).length c7] 126)).heap.size):=(by have hz:=ac.o.2.1;exact ⟨by unfold maxLen;omega,by omega,by simp;omega⟩)
    go_upto_region 14 with (at_builtin;refine wpList_append_lies _ rfl _ _ 32 rfl (Y+1) 126 iF (.nl) 1 24 underlying32 er ce cf ch rfl (by decide) vF zF.length (zF.flatMap (·.1)) rfl (b2.o.alloc _) ⟨W.heap.size,0,none⟩ 1 1 [Value.slice a7 (mq l k).length c7] rfl rfl (World.news_of_block (heap_alloc_new W _)) (by intro u hu;simp at hu;subst hu;rfl) (by decide) ax.o.1 ax.o.2.1 ax.o.2.2 _ rfl ?_;intro gA cA w9 D A _ L;have G:∀q,vF.ownBlock=some q->Y+1<=q:=fun q e=>(b2.o.lt q e).1;have E:=(A.block Y (by simp;omega) (fun e=>by have:=G _ e.symm;omega)).trans ((Below.heap_alloc _ _ _ ec).trans a2.o);have m9:=bp E 2 (x:=vF) rfl;have z9:=pj E 2;have ap:=bz E;have V:=ag (ak.o.addF (hYY.symm ▸ bb.o) (hYY.symm ▸ D) A);have hst:=ak.o.stpF (hYY.symm ▸ D) A;rw [hYY]at V hst;have bu:=ag ((bc.o.keptS (hst 9 (by decide)).kp).monoS fun _ J=>J.step (hst 9 (by decide)));have bx:=ag ((be.o.keptT (hst 233 (by decide)).kp).monoT fun _ J=>J.step (hst 233 (by decide)));clear hst;clear D A E G)
    obtain ⟨wn,ea⟩:∃wn,w9.setCell ⟨Y,2,none⟩ (.slice (some ⟨gA,0,none⟩) (zF.length+1) cA)=wn:=⟨_,rfl⟩;rw [ea]at V bu bx ⊢;have a3:Hid (wn.heap[Y]? =some (.cells #[.slice (some ⟨b,off,none⟩) l.length X,au,.slice (some ⟨gA,0,none⟩) (zF.length+1) cA,vN,vT] 36 (0,0))):=hYY ▸ V.o.blk;have mN:=bp a3.o 3 (x:=vN) rfl;have ee:=bz a3.o;have b3:Hid (wn.ownsRow (Y+1) 225 1 vN zN.length (zN.flatMap (·.1))):=hYY ▸ V.o.oN;have ay:Hid (zN.length+1<=maxLen/\(zN.length+1)*24<=140737488355328/\Y+1<=(wn.alloc (.cells #[Value.slice a8 (kg l k).1.length c8] 225)).heap.size):=(by have hz:=ac.o.2.2.1;exact ⟨by unfold maxLen;omega,by omega,by simp;omega⟩);clear ea m9 z9 ap L mF ec ak a2 b2 ax bb bc be
    go_upto_region 15 with (at_builtin;refine wpList_append_lies _ rfl _ _ 33 rfl (Y+1) 225 iN (.nl) 1 24 underlying33 et cm cn co rfl (by decide) vN zN.length (zN.flatMap (·.1)) rfl (b3.o.alloc _) ⟨wn.heap.size,0,none⟩ 1 1 [Value.slice a8 (kg l k).1.length c8] rfl rfl (World.news_of_block (heap_alloc_new wn _)) (by intro u hu;simp at hu;subst hu;rfl) (by decide) ay.o.1 ay.o.2.1 ay.o.2.2 _ rfl ?_;intro gB cB w8 D A _ L;have G:∀q,vN.ownBlock=some q->Y+1<=q:=fun q e=>(b3.o.lt q e).1;have E:=(A.block Y (by simp;omega) (fun e=>by have:=G _ e.symm;omega)).trans ((Below.heap_alloc _ _ _ ee).trans a3.o);have m9:=bp E 3 (x:=vN) rfl;have z9:=pj E 3;have ap:=bz E;have ad:=ag (V.o.addN (hYY.symm ▸ bu.o) (hYY.symm ▸ D) A);have hst:=V.o.stpN (hYY.symm ▸ D) A;rw [hYY]at ad hst;have b0:=ag ((bx.o.keptT (hst 233 (by decide)).kp).monoT fun _ J=>J.step (hst 233 (by decide)));clear hst;clear D A E G)
    obtain ⟨wt,eb⟩:∃wt,w8.setCell ⟨Y,3,none⟩ (.slice (some ⟨gB,0,none⟩) (zN.length+1) cB)=wt:=⟨_,rfl⟩;rw [eb]at ad b0 ⊢;have a4:Hid (wt.heap[Y]? =some (.cells #[.slice (some ⟨b,off,none⟩) l.length X,au,.slice (some ⟨gA,0,none⟩) (zF.length+1) cA,.slice (some ⟨gB,0,none⟩) (zN.length+1) cB,vT] 36 (0,0))):=hYY ▸ ad.o.blk;have mT:=bp a4.o 4 (x:=vT) rfl;have ef:=bz a4.o;have b4:Hid (wt.ownsRow (Y+1) 226 1 vT zT.length (zT.flatMap (·.1))):=hYY ▸ ad.o.oT;have a0:Hid (zT.length+1<=maxLen/\(zT.length+1)*24<=140737488355328/\Y+1<=(wt.alloc (.cells #[Value.slice a9 (kg l k).2.length c9] 226)).heap.size):=(by have hz:=ac.o.2.2.2;exact ⟨by unfold maxLen;omega,by omega,by simp;omega⟩);clear eb m9 z9 ap L mN ee V a3 b3 ay bu bx
    go_upto_region 7 with (at_builtin;refine wpList_append_lies _ rfl _ _ 34 rfl (Y+1) 226 iT (.nl) 1 24 underlying34 eu cp cr cs rfl (by decide) vT zT.length (zT.flatMap (·.1)) rfl (b4.o.alloc _) ⟨wt.heap.size,0,none⟩ 1 1 [Value.slice a9 (kg l k).2.length c9] rfl rfl (World.news_of_block (heap_alloc_new wt _)) (by intro u hu;simp at hu;subst hu;rfl) (by decide) a0.o.1 a0.o.2.1 a0.o.2.2 _ rfl ?_;intro gC cC w7 D A _ L;have G:∀q,vT.ownBlock=some q->Y+1<=q:=fun q e=>(b4.o.lt q e).1;have E:=(A.block Y (by simp;omega) (fun e=>by have:=G _ e.symm;omega)).trans ((Below.heap_alloc _ _ _ ef).trans a4.o);have m9:=bp E 4 (x:=vT) rfl;have z9:=pj E 4;have ap:=bz E;have df:=ag (ad.o.addT (hYY.symm ▸ b0.o) (hYY.symm ▸ D) A);rw [hYY]at df;clear D A E G)
    have eo:Hid ((bg.map (·.2)=(List.range (k+1)).map fun i=>cb l (cd l i).bv)/\((zF++ [([Value.slice a7 (mq l k).length c7],mq l k)]).map (·.2)=(List.range (k+1)).map (mq l))/\((zN++ [([Value.slice a8 (kg l k).1.length c8],(kg l k).1)]).map (·.2)=(List.range (k+1)).map fun i=>(kg l i).1)/\((zT++ [([Value.slice a9 (kg l k).2.length c9],(kg l k).2)]).map (·.2)=(List.range (k+1)).map fun i=>(kg l i).2)/\∀j,j<k+1->vp l j=true):=by
     obtain ⟨-,h2,h3,h4,h5⟩:=HZ.o;refine ⟨dg.o,?_,?_,?_,Ep h5 cx.o⟩
     ·rw [List.map_append,h2,Em];rfl
     ·rw [List.map_append,h3,Em];rfl
     rw [List.map_append,h4,Em];rfl
    clear ad a4 b4 a0 b0 mT ef HZ dg;go_wp2_with fail;go_roundw
    case rel=>exact ⟨k+1,_,_,_,_,_,_,_,_,by omega,by go_num,df.o,eo.o⟩
    case measure=>simp [intOf];omega
  have ex:k=l.length:=by omega
  have c6:Hid (jq l=0):=c5.o.trans (if_pos (En af HZ.o.2.2.2.2));have ah:Hid (mt (fun q=>(q<B\/w1.heap.size<=q)/\q<wr.heap.size) wr (.slice ao l.length X) vS vF vN vT (qn l)):=by obtain ⟨h1,h2,h3,h4,-⟩:=HZ.o;obtain ⟨g1,g2,g3,g4⟩:=ac.o;have:=HW.o.rlk (B:=B) (lt3 hB O.o.size) ai.o (by omega) (by omega) (by omega) (by omega);rw [h1,h2,h3,h4,ex]at this;exact this
  obtain ⟨hR,du⟩:=bs.o wr (hYY ▸ HW.o.below);obtain ⟨aS,cS,e1⟩:∃aS cS,vS=.slice aS l.length cS:=(by obtain ⟨a,c,e,-⟩:=ah.o.S;exact ⟨a,c,by simpa [qn]using e⟩);obtain ⟨aF,cF,e2⟩:∃aF cF,vF=.slice aF l.length cF:=(by obtain ⟨a,c,e,-⟩:=ah.o.F;exact ⟨a,c,by simpa [qn]using e⟩);obtain ⟨aN,cN,e3⟩:∃aN cN,vN=.slice aN l.length cN:=(by obtain ⟨a,c,e,-⟩:=ah.o.N;exact ⟨a,c,by simpa [qn]using e⟩);obtain ⟨aT,cT,e4⟩:∃aT cT,vT=.slice aT l.length cT:=(by obtain ⟨a,c,e,-⟩:=ah.o.T;exact ⟨a,c,by simpa [qn]using e⟩);subst e1 e2 e3 e4;have bo:wr.heap[Y]? =some (.cells #[.slice ao l.length X,.slice aS l.length cS,.slice aF l.length cF,.slice aN l.length cN,.slice aT l.length cT] 36 (0,0)):=hYY ▸ HW.o.blk;have dk:=cells5 bo;have rk:=cells5 hR;have f0:∀j,wr.frozen? ⟨w.heap.size,j,none⟩=false:=fun j=>pj hR j;have e5:=bz hR;obtain ⟨W9,d1,d0,dz⟩:=set5e _ w.heap.size _ _ _ _ _ _ (.slice ao l.length X) (.slice aS l.length cS) (.slice aF l.length cF) (.slice aN l.length cN) (.slice aT l.length cT) hR;have el:=ag d0;have a6:=ag dz;have en:=ag d1;have ej:=ag du;clear hR d0 dz d1 du bo HW HZ ai ac;go_wp2_with fail;rw [en.o];have sk:=cells5 el.o;refine bodyPost_ret (v:=.tuple #[.agg #[.slice ao l.length X,.slice aS l.length cS,.slice aF l.length cF,.slice aN l.length cN,.slice aT l.length cT],.i 0]) (by simp [results,results117,go_sem,sk]) rfl ⟨rn ej.o a6.o (nlq _),_,_,_,_,_,rfl,?_⟩;exact (ah.o.kept (w':=W9) ⟨a6.o.size,fun q hq hl=>a6.o.block q hl (by intro e;injection e with e;rcases hq.1 with h | h<;>omega)⟩).mono fun q hq=>⟨hq.1.imp id (fun h=>by omega),ll3 hq.2 a6.o.size⟩
end Go.Proofs.YtjdnmblggdobgaaGreat
