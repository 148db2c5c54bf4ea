import Derived.Test.YtjdnmblggdobgaaGreatJLNoneLSaD
import Derived.Test.YtjdnmblggdobgaaGreatJLErrLRf4
set_option maxHeartbeats 1000000
namespace Go.Proofs.YtjdnmblggdobgaaGreat
open Go.RowKit Go.Sort
structure Lv (w0 W:World) (vC vS vF vN vT:Value) (zS:List (List Value×Int)) (zF:List (List Value×(List FieldD))) (zN:List (List Value×(List ByteArray))) (zT:List (List Value×(List TargD))):Prop where
 below:Below w0.heap.size w0 W
 blk:W.heap[w0.heap.size]? =some (.cells #[vC,vS,vF,vN,vT] 36 (0,0))
 oS:W.ownsRow (w0.heap.size+1) 3 1 vS zS.length (zS.flatMap (·.1))
 aS:∀z∈zS,z.1= [Value.int .i64 z.2]
 oF:W.ownsRow (w0.heap.size+1) 126 1 vF zF.length (zF.flatMap (·.1))
 aF:∀z∈zF,z.1.length=1/\RSl 3 RF (MT w0.heap.size [125] W) W z.1 z.2
 oN:W.ownsRow (w0.heap.size+1) 225 1 vN zN.length (zN.flatMap (·.1))
 aN:∀z∈zN,z.1.length=1/\RSl 1 RS (MT w0.heap.size [9] W) W z.1 z.2
 oT:W.ownsRow (w0.heap.size+1) 226 1 vT zT.length (zT.flatMap (·.1))
 aT:∀z∈zT,z.1.length=1/\RSl 2 RT (MT w0.heap.size [233] W) W z.1 z.2
theorem Lv.lt {w0 W:World} {vC vS vF vN vT:Value} {zS:List (List Value×Int)} {zF:List (List Value×(List FieldD))} {zN:List (List Value×(List ByteArray))} {zT:List (List Value×(List TargD))} (h:Lv w0 W vC vS vF vN vT zS zF zN zT):w0.heap.size<W.heap.size:=lt0 h.blk
theorem Lv.grow {w0 W:World} {vC vS vF vN vT:Value} {zS:List (List Value×Int)} {zF:List (List Value×(List FieldD))} {zN:List (List Value×(List ByteArray))} {zT:List (List Value×(List TargD))} {W':World} (h:Lv w0 W vC vS vF vN vT zS zF zN zT) (hb:Below W.heap.size W W'):Lv w0 W' vC vS vF vN vT zS zF zN zT:=
 ⟨h.below.trans (hb.mono h.below.size),(hb.block _ h.lt).trans h.blk,zhj h.oS hb,h.aS,zhj h.oF hb,(fun z hz=>⟨(h.aF z hz).1,(h.aF z hz).2.stp (Stp.below hb) fun _ _ _ _ _ _ h=>h⟩),zhj h.oN hb,(fun z hz=>⟨(h.aN z hz).1,(h.aN z hz).2.stp (Stp.below hb) fun _ _ _ _ _ _ h=>h⟩),zhj h.oT hb,(fun z hz=>⟨(h.aT z hz).1,(h.aT z hz).2.stp (Stp.below hb) fun _ _ _ _ _ _ h=>h⟩)⟩
theorem Lv.addS {w0 W:World} {vC vS vF vN vT:Value} {zS:List (List Value×Int)} {zF:List (List Value×(List FieldD))} {zN:List (List Value×(List ByteArray))} {zT:List (List Value×(List TargD))} (h:Lv w0 W vC vS vF vN vT zS zF zN zT) {u:Value} {x:Int} (hu:u=.int .i64 x) {w1:World} {v':Value}
 (ho:w1.ownsRow (w0.heap.size+1) 3 1 v' (zS.length+1) (zS.flatMap (·.1)++ [u])) (hg:(W.alloc (.cells #[u] 3)).grownBy w1 vS.ownBlock):
 Lv w0 (w1.setCell ⟨w0.heap.size,1,none⟩ v') vC v' vF vN vT (zS++ [([u],x)]) zF zN zT:=by
 have hlt:=h.lt
 have hrb:∀q,vS.ownBlock=some q->w0.heap.size+1<=q/\q<W.heap.size:=fun q e=>h.oS.lt q e
 have hb1:w1.heap[w0.heap.size]? =some (.cells #[vC,vS,vF,vN,vT] 36 (0,0)):=by
  rw [hg.block w0.heap.size (by simp;omega) (fun e=>by have:=(hrb _ e.symm).1;omega),Below.heap_alloc _ _ _ hlt]
  exact h.blk
 have hst:∀t,t∉ [3,36]->Stp w0.heap.size [t] W (w1.setCell ⟨w0.heap.size,1,none⟩ v'):=fun t ht=>
  (((Stp.refl _ _ _).alloc _).trans (Stp.row hg (h.oS.alloc _) (fun e=>ht (by simp at e;simp [e])))).trans (Stp.set hb1 (fun e=>ht (by simp at e;simp [<-e])) 1 v')
 have hB1:Below w0.heap.size w0 w1:=(h.below.alloc h.below.size _).grown hg (by have:=h.below.size;simp;omega) (fun q e=>by have:=(hrb q e).1;omega)
 refine ⟨hB1.setCell (by simp) _,zg6 hb1 v',?_,?_,?_,?_,?_,?_,?_,?_⟩
 ·
  rw [List.length_append,ze7]
  exact ownsRow_setCell_below ho (by simp) _
 ·
  intro z hz
  rcases List.mem_append.1 hz with hz | hz
  ·
   exact h.aS z hz
  rw [List.mem_singleton]at hz
  subst hz
  rw [hu]
 ·
  exact ownsRow_setCell_below ((h.oF.alloc _).kept hg (zg8 h.oF h.oS (by decide))) (by simp) _
 ·
  exact fun z hz=>⟨(h.aF z hz).1,(h.aF z hz).2.stp (hst _ (by decide)) fun _ _ _ _ _ _ h=>h⟩
 ·
  exact ownsRow_setCell_below ((h.oN.alloc _).kept hg (zg8 h.oN h.oS (by decide))) (by simp) _
 ·
  exact fun z hz=>⟨(h.aN z hz).1,(h.aN z hz).2.stp (hst _ (by decide)) fun _ _ _ _ _ _ h=>h⟩
 ·
  exact ownsRow_setCell_below ((h.oT.alloc _).kept hg (zg8 h.oT h.oS (by decide))) (by simp) _
 exact fun z hz=>⟨(h.aT z hz).1,(h.aT z hz).2.stp (hst _ (by decide)) fun _ _ _ _ _ _ h=>h⟩
theorem Lv.addF {w0 W:World} {vC vS vF vN vT:Value} {zS:List (List Value×Int)} {zF:List (List Value×(List FieldD))} {zN:List (List Value×(List ByteArray))} {zT:List (List Value×(List TargD))} (h:Lv w0 W vC vS vF vN vT zS zF zN zT) {u:Value} {x:List FieldD} (hu:SL 3 RF (MT w0.heap.size [125] W) W u x) {w1:World} {v':Value}
 (ho:w1.ownsRow (w0.heap.size+1) 126 1 v' (zF.length+1) (zF.flatMap (·.1)++ [u])) (hg:(W.alloc (.cells #[u] 126)).grownBy w1 vF.ownBlock):
 Lv w0 (w1.setCell ⟨w0.heap.size,2,none⟩ v') vC vS v' vN vT zS (zF++ [([u],x)]) zN zT:=by
 have hlt:=h.lt
 have hrb:∀q,vF.ownBlock=some q->w0.heap.size+1<=q/\q<W.heap.size:=fun q e=>h.oF.lt q e
 have hb1:w1.heap[w0.heap.size]? =some (.cells #[vC,vS,vF,vN,vT] 36 (0,0)):=by
  rw [hg.block w0.heap.size (by simp;omega) (fun e=>by have:=(hrb _ e.symm).1;omega),Below.heap_alloc _ _ _ hlt]
  exact h.blk
 have hst:∀t,t∉ [126,36]->Stp w0.heap.size [t] W (w1.setCell ⟨w0.heap.size,2,none⟩ v'):=fun t ht=>
  (((Stp.refl _ _ _).alloc _).trans (Stp.row hg (h.oF.alloc _) (fun e=>ht (by simp at e;simp [e])))).trans (Stp.set hb1 (fun e=>ht (by simp at e;simp [<-e])) 2 v')
 have hB1:Below w0.heap.size w0 w1:=(h.below.alloc h.below.size _).grown hg (by have:=h.below.size;simp;omega) (fun q e=>by have:=(hrb q e).1;omega)
 refine ⟨hB1.setCell (by simp) _,zg6 hb1 v',?_,?_,?_,?_,?_,?_,?_,?_⟩
 ·
  exact ownsRow_setCell_below ((h.oS.alloc _).kept hg (zg8 h.oS h.oF (by decide))) (by simp) _
 ·
  exact h.aS
 ·
  rw [List.length_append,ze7]
  exact ownsRow_setCell_below ho (by simp) _
 ·
  intro z hz
  rcases List.mem_append.1 hz with hz | hz
  ·
   exact ⟨(h.aF z hz).1,(h.aF z hz).2.stp (hst _ (by decide)) fun _ _ _ _ _ _ h=>h⟩
  rw [List.mem_singleton]at hz
  subst hz
  exact ⟨rfl,RSl.stp ⟨u,rfl,hu⟩ (hst _ (by decide)) fun _ _ _ _ _ _ h=>h⟩
 ·
  exact ownsRow_setCell_below ((h.oN.alloc _).kept hg (zg8 h.oN h.oF (by decide))) (by simp) _
 ·
  exact fun z hz=>⟨(h.aN z hz).1,(h.aN z hz).2.stp (hst _ (by decide)) fun _ _ _ _ _ _ h=>h⟩
 ·
  exact ownsRow_setCell_below ((h.oT.alloc _).kept hg (zg8 h.oT h.oF (by decide))) (by simp) _
 exact fun z hz=>⟨(h.aT z hz).1,(h.aT z hz).2.stp (hst _ (by decide)) fun _ _ _ _ _ _ h=>h⟩
theorem Lv.addN {w0 W:World} {vC vS vF vN vT:Value} {zS:List (List Value×Int)} {zF:List (List Value×(List FieldD))} {zN:List (List Value×(List ByteArray))} {zT:List (List Value×(List TargD))} (h:Lv w0 W vC vS vF vN vT zS zF zN zT) {u:Value} {x:List ByteArray} (hu:SL 1 RS (MT w0.heap.size [9] W) W u x) {w1:World} {v':Value}
 (ho:w1.ownsRow (w0.heap.size+1) 225 1 v' (zN.length+1) (zN.flatMap (·.1)++ [u])) (hg:(W.alloc (.cells #[u] 225)).grownBy w1 vN.ownBlock):
 Lv w0 (w1.setCell ⟨w0.heap.size,3,none⟩ v') vC vS vF v' vT zS zF (zN++ [([u],x)]) zT:=by
 have hlt:=h.lt
 have hrb:∀q,vN.ownBlock=some q->w0.heap.size+1<=q/\q<W.heap.size:=fun q e=>h.oN.lt q e
 have hb1:w1.heap[w0.heap.size]? =some (.cells #[vC,vS,vF,vN,vT] 36 (0,0)):=by
  rw [hg.block w0.heap.size (by simp;omega) (fun e=>by have:=(hrb _ e.symm).1;omega),Below.heap_alloc _ _ _ hlt]
  exact h.blk
 have hst:∀t,t∉ [225,36]->Stp w0.heap.size [t] W (w1.setCell ⟨w0.heap.size,3,none⟩ v'):=fun t ht=>
  (((Stp.refl _ _ _).alloc _).trans (Stp.row hg (h.oN.alloc _) (fun e=>ht (by simp at e;simp [e])))).trans (Stp.set hb1 (fun e=>ht (by simp at e;simp [<-e])) 3 v')
 have hB1:Below w0.heap.size w0 w1:=(h.below.alloc h.below.size _).grown hg (by have:=h.below.size;simp;omega) (fun q e=>by have:=(hrb q e).1;omega)
 refine ⟨hB1.setCell (by simp) _,zg6 hb1 v',?_,?_,?_,?_,?_,?_,?_,?_⟩
 ·
  exact ownsRow_setCell_below ((h.oS.alloc _).kept hg (zg8 h.oS h.oN (by decide))) (by simp) _
 ·
  exact h.aS
 ·
  exact ownsRow_setCell_below ((h.oF.alloc _).kept hg (zg8 h.oF h.oN (by decide))) (by simp) _
 ·
  exact fun z hz=>⟨(h.aF z hz).1,(h.aF z hz).2.stp (hst _ (by decide)) fun _ _ _ _ _ _ h=>h⟩
 ·
  rw [List.length_append,ze7]
  exact ownsRow_setCell_below ho (by simp) _
 ·
  intro z hz
  rcases List.mem_append.1 hz with hz | hz
  ·
   exact ⟨(h.aN z hz).1,(h.aN z hz).2.stp (hst _ (by decide)) fun _ _ _ _ _ _ h=>h⟩
  rw [List.mem_singleton]at hz
  subst hz
  exact ⟨rfl,RSl.stp ⟨u,rfl,hu⟩ (hst _ (by decide)) fun _ _ _ _ _ _ h=>h⟩
 ·
  exact ownsRow_setCell_below ((h.oT.alloc _).kept hg (zg8 h.oT h.oN (by decide))) (by simp) _
 exact fun z hz=>⟨(h.aT z hz).1,(h.aT z hz).2.stp (hst _ (by decide)) fun _ _ _ _ _ _ h=>h⟩
theorem Lv.addT {w0 W:World} {vC vS vF vN vT:Value} {zS:List (List Value×Int)} {zF:List (List Value×(List FieldD))} {zN:List (List Value×(List ByteArray))} {zT:List (List Value×(List TargD))} (h:Lv w0 W vC vS vF vN vT zS zF zN zT) {u:Value} {x:List TargD} (hu:SL 2 RT (MT w0.heap.size [233] W) W u x) {w1:World} {v':Value}
 (ho:w1.ownsRow (w0.heap.size+1) 226 1 v' (zT.length+1) (zT.flatMap (·.1)++ [u])) (hg:(W.alloc (.cells #[u] 226)).grownBy w1 vT.ownBlock):
 Lv w0 (w1.setCell ⟨w0.heap.size,4,none⟩ v') vC vS vF vN v' zS zF zN (zT++ [([u],x)]):=by
 have hlt:=h.lt
 have hrb:∀q,vT.ownBlock=some q->w0.heap.size+1<=q/\q<W.heap.size:=fun q e=>h.oT.lt q e
 have hb1:w1.heap[w0.heap.size]? =some (.cells #[vC,vS,vF,vN,vT] 36 (0,0)):=by
  rw [hg.block w0.heap.size (by simp;omega) (fun e=>by have:=(hrb _ e.symm).1;omega),Below.heap_alloc _ _ _ hlt]
  exact h.blk
 have hst:∀t,t∉ [226,36]->Stp w0.heap.size [t] W (w1.setCell ⟨w0.heap.size,4,none⟩ v'):=fun t ht=>
  (((Stp.refl _ _ _).alloc _).trans (Stp.row hg (h.oT.alloc _) (fun e=>ht (by simp at e;simp [e])))).trans (Stp.set hb1 (fun e=>ht (by simp at e;simp [<-e])) 4 v')
 have hB1:Below w0.heap.size w0 w1:=(h.below.alloc h.below.size _).grown hg (by have:=h.below.size;simp;omega) (fun q e=>by have:=(hrb q e).1;omega)
 refine ⟨hB1.setCell (by simp) _,zg6 hb1 v',?_,?_,?_,?_,?_,?_,?_,?_⟩
 ·
  exact ownsRow_setCell_below ((h.oS.alloc _).kept hg (zg8 h.oS h.oT (by decide))) (by simp) _
 ·
  exact h.aS
 ·
  exact ownsRow_setCell_below ((h.oF.alloc _).kept hg (zg8 h.oF h.oT (by decide))) (by simp) _
 ·
  exact fun z hz=>⟨(h.aF z hz).1,(h.aF z hz).2.stp (hst _ (by decide)) fun _ _ _ _ _ _ h=>h⟩
 ·
  exact ownsRow_setCell_below ((h.oN.alloc _).kept hg (zg8 h.oN h.oT (by decide))) (by simp) _
 ·
  exact fun z hz=>⟨(h.aN z hz).1,(h.aN z hz).2.stp (hst _ (by decide)) fun _ _ _ _ _ _ h=>h⟩
 ·
  rw [List.length_append,ze7]
  exact ownsRow_setCell_below ho (by simp) _
 intro z hz
 rcases List.mem_append.1 hz with hz | hz
 ·
  exact ⟨(h.aT z hz).1,(h.aT z hz).2.stp (hst _ (by decide)) fun _ _ _ _ _ _ h=>h⟩
 rw [List.mem_singleton]at hz
 subst hz
 exact ⟨rfl,RSl.stp ⟨u,rfl,hu⟩ (hst _ (by decide)) fun _ _ _ _ _ _ h=>h⟩
theorem Lv.stpS {w0 W:World} {vC vS vF vN vT:Value} {zS:List (List Value×Int)} {zF:List (List Value×(List FieldD))} {zN:List (List Value×(List ByteArray))} {zT:List (List Value×(List TargD))} (h:Lv w0 W vC vS vF vN vT zS zF zN zT) {u:Value} {w1:World} {v':Value} {n:Nat} {xs:List Value}
 (_:w1.ownsRow (w0.heap.size+1) 3 1 v' n xs) (hg:(W.alloc (.cells #[u] 3)).grownBy w1 vS.ownBlock) (t:Nat) (ht:t∉ [3,36]):
 Stp w0.heap.size [t] W (w1.setCell ⟨w0.heap.size,1,none⟩ v'):=by
 have hlt:=h.lt
 have hrb:∀q,vS.ownBlock=some q->w0.heap.size+1<=q/\q<W.heap.size:=fun q e=>h.oS.lt q e
 have hb1:w1.heap[w0.heap.size]? =some (.cells #[vC,vS,vF,vN,vT] 36 (0,0)):=by
  rw [hg.block w0.heap.size (by simp;omega) (fun e=>by have:=(hrb _ e.symm).1;omega),Below.heap_alloc _ _ _ hlt]
  exact h.blk
 exact (((Stp.refl _ _ _).alloc _).trans (Stp.row hg (h.oS.alloc _) (fun e=>ht (by simp at e;simp [e])))).trans (Stp.set hb1 (fun e=>ht (by simp at e;simp [<-e])) 1 v')
theorem Lv.stpF {w0 W:World} {vC vS vF vN vT:Value} {zS:List (List Value×Int)} {zF:List (List Value×(List FieldD))} {zN:List (List Value×(List ByteArray))} {zT:List (List Value×(List TargD))} (h:Lv w0 W vC vS vF vN vT zS zF zN zT) {u:Value} {w1:World} {v':Value} {n:Nat} {xs:List Value}
 (_:w1.ownsRow (w0.heap.size+1) 126 1 v' n xs) (hg:(W.alloc (.cells #[u] 126)).grownBy w1 vF.ownBlock) (t:Nat) (ht:t∉ [126,36]):
 Stp w0.heap.size [t] W (w1.setCell ⟨w0.heap.size,2,none⟩ v'):=by
 have hlt:=h.lt
 have hrb:∀q,vF.ownBlock=some q->w0.heap.size+1<=q/\q<W.heap.size:=fun q e=>h.oF.lt q e
 have hb1:w1.heap[w0.heap.size]? =some (.cells #[vC,vS,vF,vN,vT] 36 (0,0)):=by
  rw [hg.block w0.heap.size (by simp;omega) (fun e=>by have:=(hrb _ e.symm).1;omega),Below.heap_alloc _ _ _ hlt]
  exact h.blk
 exact (((Stp.refl _ _ _).alloc _).trans (Stp.row hg (h.oF.alloc _) (fun e=>ht (by simp at e;simp [e])))).trans (Stp.set hb1 (fun e=>ht (by simp at e;simp [<-e])) 2 v')
theorem Lv.stpN {w0 W:World} {vC vS vF vN vT:Value} {zS:List (List Value×Int)} {zF:List (List Value×(List FieldD))} {zN:List (List Value×(List ByteArray))} {zT:List (List Value×(List TargD))} (h:Lv w0 W vC vS vF vN vT zS zF zN zT) {u:Value} {w1:World} {v':Value} {n:Nat} {xs:List Value}
 (_:w1.ownsRow (w0.heap.size+1) 225 1 v' n xs) (hg:(W.alloc (.cells #[u] 225)).grownBy w1 vN.ownBlock) (t:Nat) (ht:t∉ [225,36]):
 Stp w0.heap.size [t] W (w1.setCell ⟨w0.heap.size,3,none⟩ v'):=by
 have hlt:=h.lt
 have hrb:∀q,vN.ownBlock=some q->w0.heap.size+1<=q/\q<W.heap.size:=fun q e=>h.oN.lt q e
 have hb1:w1.heap[w0.heap.size]? =some (.cells #[vC,vS,vF,vN,vT] 36 (0,0)):=by
  rw [hg.block w0.heap.size (by simp;omega) (fun e=>by have:=(hrb _ e.symm).1;omega),Below.heap_alloc _ _ _ hlt]
  exact h.blk
 exact (((Stp.refl _ _ _).alloc _).trans (Stp.row hg (h.oN.alloc _) (fun e=>ht (by simp at e;simp [e])))).trans (Stp.set hb1 (fun e=>ht (by simp at e;simp [<-e])) 3 v')
theorem Lv.rlk {w0 W:World} {vC vS vF vN vT:Value} {zS:List (List Value×Int)} {zF:List (List Value×(List FieldD))} {zN:List (List Value×(List ByteArray))} {zT:List (List Value×(List TargD))} {l:List ClassD} {B:Nat} (h:Lv w0 W vC vS vF vN vT zS zF zN zT) (hB:B<=w0.heap.size) (hC:SL 4 RC (· <B) W vC l) (h1:zS.length<=1000) (h2:zF.length<=1000) (h3:zN.length<=1000) (h4:zT.length<=1000):
 RLk (fun k=>(k<B\/w0.heap.size<=k)/\k<W.heap.size) W vC vS vF vN vT ⟨l,zS.map (·.2),zF.map (·.2),zN.map (·.2),zT.map (·.2)⟩:=by
 have hm:∀ {T:List Nat} (k:Nat),MT w0.heap.size T W k->(k<B\/w0.heap.size<=k)/\k<W.heap.size:=fun k hk=>⟨Or.inr hk.1,hk.lt⟩
 have sS:=ze4 (n:=1) (R:=RI) (T:=[3]) (zbi h.oS (B':=w0.heap.size) (by omega)) (fun z hz=>⟨by rw [h.aS z hz];rfl,h.aS z hz⟩) (by simp) (by unfold maxLen;omega)
 have sF:=ze4 (n:=1) (R:=RSl 3 RF) (T:=[125,126]) (zbi h.oF (B':=w0.heap.size) (by omega)) (fun z hz=>⟨(h.aF z hz).1,by
  obtain ⟨v,e,hs⟩:=(h.aF z hz).2
  exact ⟨v,e,hs.mono (fun _ hk=>hk.more (Nat.le_refl _) (fun _ ht=>by simp at ht;simp [ht])) fun _ _ h=>h⟩⟩) (by simp) (by unfold maxLen;omega)
 have sN:=ze4 (n:=1) (R:=RSl 1 RS) (T:=[9,225]) (zbi h.oN (B':=w0.heap.size) (by omega)) (fun z hz=>⟨(h.aN z hz).1,by
  obtain ⟨v,e,hs⟩:=(h.aN z hz).2
  exact ⟨v,e,hs.mono (fun _ hk=>hk.more (Nat.le_refl _) (fun _ ht=>by simp at ht;simp [ht])) fun _ _ h=>h⟩⟩) (by simp) (by unfold maxLen;omega)
 have sT:=ze4 (n:=1) (R:=RSl 2 RT) (T:=[233,226]) (zbi h.oT (B':=w0.heap.size) (by omega)) (fun z hz=>⟨(h.aT z hz).1,by
  obtain ⟨v,e,hs⟩:=(h.aT z hz).2
  exact ⟨v,e,hs.mono (fun _ hk=>hk.more (Nat.le_refl _) (fun _ ht=>by simp at ht;simp [ht])) fun _ _ h=>h⟩⟩) (by simp) (by unfold maxLen;omega)
 exact ⟨hC.monoC (fun k (hk:k<B)=>⟨Or.inl hk,by have:=h.below.size;omega⟩),sS.monoI hm,sF.monoSl hm (fun _ _ h=>h),sN.monoSl hm (fun _ _ h=>h),sT.monoSl hm (fun _ _ h=>h)⟩
end Go.Proofs.YtjdnmblggdobgaaGreat
