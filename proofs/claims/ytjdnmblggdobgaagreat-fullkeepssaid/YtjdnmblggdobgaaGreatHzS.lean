import Derived.Test.YtjdnmblggdobgaaGreatJTk2Dies
import Derived.Test.YtjdnmblggdobgaaGreatJHzTHxE
namespace Go.Proofs.YtjdnmblggdobgaaGreat
open Go.RowKit Go.Maps
theorem zzt (n:Nat):bv (List.replicate n 0)=(madeCells #[Value.int .i64 0] n).toList:=by
 have A:(madeCells #[Value.int .i64 0] n).toList=List.replicate n (Value.int .i64 0):=by rw [List.eq_replicate_iff];refine ⟨by simp [madeCells],fun b u=>?_⟩;simp [madeCells,Nat.mod_one]at u;exact u.2.symm
 rw [A,bv,List.map_replicate]
theorem zzv (d:be) (h:bd) (u:List bp) (order:List Int) (lo:Int):(rebD d h u order lo).ab.length=h.ab.length:=by unfold rebD;rw [zwm,zwl,List.length_replicate]
end Go.Proofs.YtjdnmblggdobgaaGreat
