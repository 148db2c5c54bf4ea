import Derived.Test.YtjdnmblggdobgaaGreatJHyBHzA
import Derived.Test.YtjdnmblggdobgaaGreatJHyGHyJ
set_option maxRecDepth 100000
namespace Go.Proofs.YtjdnmblggdobgaaGreat
open Go.RowKit Go.Maps


theorem z0m {d:bd} {h:ar} {rs:List Int} (h0:dv d h rs=0):∃ts,Right d h ts/\rs.length<=1000/\∀v∈rs,b8 ts v=true:=by
 unfold dv at h0;by_cases A:dt d h=0
 ·rw [if_pos A]at h0;obtain ⟨ts,D⟩:=ztn A;have e:sj d h=ts:=by unfold sj;rw [D.both];rfl
  rw [e]at h0;unfold jr at h0;by_cases h1:(rs.length:Int)<=1000
  ·rw [if_pos (decide_eq_true h1)]at h0;cases h2:rs.any fun x=>!b8 ts x with
   | true=>rw [h2]at h0;simp at h0
   | false=>
     refine ⟨ts,D,by omega,fun v E=>?_⟩;have:=List.any_eq_false.1 h2 v E;cases hc:b8 ts v with
     | true=>rfl
     | false=>rw [hc]at this;exact absurd rfl this
  rw [if_neg (by simpa using h1)]at h0;cases h0
 rw [if_neg A]at h0;exact absurd h0 A
section
end

end Go.Proofs.YtjdnmblggdobgaaGreat
