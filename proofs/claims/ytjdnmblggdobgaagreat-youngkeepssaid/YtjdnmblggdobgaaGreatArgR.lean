import Derived.Test.YtjdnmblggdobgaaGreatJArgCArgH
namespace Go.Proofs.YtjdnmblggdobgaaGreat
open Go.ChangeShapes Go.WideShapes Go.ChangeAt Go.RowKit Go.Deep
theorem ints_reads {H:Type} {enc:TypeId×Value->H} {w:World} {v:Value} {fuel:Nat} {x:DataW H×List MemPlace} (h:DataW.trod enc Tryz.prog w 0 (fun _=>true) true fuel 22 [v]=some x):∃l:List Int,SL 1 RI (· <w.heap.size) w v l/\∀x∈l,(Lit.int .i64 x).wf=true:=by obtain ⟨l,A⟩:=zys Tryz.underlying22 cInt (by omega) zy3 h;exact ⟨l,A.riw.1,A.riw.2⟩
end Go.Proofs.YtjdnmblggdobgaaGreat
