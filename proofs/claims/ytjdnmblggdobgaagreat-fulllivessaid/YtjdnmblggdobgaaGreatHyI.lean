import Derived.Test.YtjdnmblggdobgaaGreatJTk2Dies
import Derived.Test.YtjdnmblggdobgaaGreatJHyDHyF
namespace Go.Proofs.YtjdnmblggdobgaaGreat
open Go.RowKit Go.Maps
structure Tsk (b B:Nat) (w:World) (T:Nat) (nW nO nR kC kS kF kN kT:Value) (h:HeapD) (rs:List Int) (d:LinkD):Prop where
 blk:w.heap[T]? =some (.cells #[nW,.int .i64 h.young,.int .i64 h.old,.int .i64 h.ytop,.int .i64 h.otop,nO,.int .i64 h.next,kC,kS,kF,kN,kT,nR] 131 (0,0))
 rW:w.ownsRow b 3 1 nW h.words.length (intV h.words)
 rO:w.ownsRow b 3 1 nO h.noted.length (intV h.noted)
 rR:w.ownsRow b 3 1 nR rs.length (intV rs)
 lk:RLk (· <B) w kC kS kF kN kT d
 le:B<=b
 bT:b<=T
 sep:sepB [some T,nW.ownBlock,nO.ownBlock,nR.ownBlock]
theorem Tsk.below {b B T:Nat} {w:World} {nW nO nR kC kS kF kN kT:Value} {h:HeapD} {rs:List Int} {d:LinkD} (o:Tsk b B w T nW nO nR kC kS kF kN kT h rs d) {w':World} (hb:Below w.heap.size w w'):Tsk b B w' T nW nO nR kC kS kF kN kT h rs d:=
 have lT:=lt0 o.blk
 ⟨(hb.block _ lT).trans o.blk,zhj o.rW hb,zhj o.rO hb,zhj o.rR hb,o.lk.kept (Kp.below (hb.mono (by have:=o.le;have:=o.bT;omega))),o.le,o.bT,o.sep⟩
theorem Tsk.words {b B T:Nat} {w:World} {nW nO nR kC kS kF kN kT:Value} {h:HeapD} {rs:List Int} {d:LinkD} (o:Tsk b B w T nW nO nR kC kS kF kN kT h rs d) {w':World} {k:Nat} {ws:List Int} (hk:nW.ownBlock=some k) (hg:w.grownBy w' (some k)) (hr:w'.ownsRow b 3 1 nW ws.length (intV ws)):Tsk b B w' T nW nO nR kC kS kF kN kT ⟨ws,h.young,h.old,h.ytop,h.otop,h.noted,h.next⟩ rs d/\Below b w w':=
 have hb:b<=k:=(o.rW.lt k hk).1
 have hi: [some T,nW.ownBlock,nO.ownBlock,nR.ownBlock][1]? =some (some k):=congrArg some hk
 ⟨⟨(hg.block T (lt0 o.blk) (fun e=>zu7 o.sep (i:=0) (by decide) hi (congrArg some e))).trans o.blk,hr,o.rO.kept hg (Or.inr fun e=>zu6 o.sep (j:=2) (by decide) hi (congrArg some e)),o.rR.kept hg (Or.inr fun e=>zu6 o.sep (j:=3) (by decide) hi (congrArg some e)),o.lk.kept ⟨hg.size,fun j hj hl=>hg.block j hl (by have:=o.le;have:=hj;intro e;injection e;omega)⟩,o.le,o.bT,o.sep⟩,(Below.refl b w).grown hg (by have:=lt0 o.blk;have:=o.bT;omega) (fun j e=>by cases e;exact hb)⟩
theorem Tsk.task {b B T:Nat} {w:World} {nW nO nR kC kS kF kN kT:Value} {h:HeapD} {rs:List Int} {d:LinkD} (o:Tsk b B w T nW nO nR kC kS kF kN kT h rs d) {w':World} {h':HeapD} {nO':Value} (hg:w.grownBy w' (some T)) (hb:w'.heap[T]? =some (.cells #[nW,.int .i64 h'.young,.int .i64 h'.old,.int .i64 h'.ytop,.int .i64 h'.otop,nO',.int .i64 h'.next,kC,kS,kF,kN,kT,nR] 131 (0,0))) (hw:h'.words=h.words) (ho:w'.ownsRow b 3 1 nO' h'.noted.length (intV h'.noted)) (hn:nO'=nO\/nO'.ownBlock=none):Tsk b B w' T nW nO' nR kC kS kF kN kT h' rs d/\Below b w w':=
 have hi: [some T,nW.ownBlock,nO.ownBlock,nR.ownBlock][0]? =some (some T):=rfl
 have hs:sepB [some T,nW.ownBlock,nO'.ownBlock,nR.ownBlock]:=by
  rcases hn with rfl | hn
  ·
   exact o.sep
  have:=o.sep
  unfold sepB at this ⊢
  rw [hn]
  simp only [List.pairwise_cons,List.mem_cons,List.not_mem_nil,or_false,forall_eq_or_imp,forall_eq,List.Pairwise.nil,and_true,false_implies,implies_true]at this ⊢
  exact ⟨⟨this.1.1,fun _ _ e=>(by cases e),this.1.2.2⟩,⟨fun _ _ e=>(by cases e),this.2.1.2⟩,fun _ e=>(by cases e)⟩
 ⟨⟨hb,hw ▸ o.rW.kept hg (Or.inr fun e=>zu6 o.sep (j:=1) (by decide) hi (congrArg some e)),ho,o.rR.kept hg (Or.inr fun e=>zu6 o.sep (j:=3) (by decide) hi (congrArg some e)),o.lk.kept ⟨hg.size,fun j hj hl=>hg.block j hl (by have:=o.le;have:=o.bT;have:=hj;intro e;injection e;omega)⟩,o.le,o.bT,hs⟩,(Below.refl b w).grown hg (by have:=lt0 o.blk;have:=o.bT;omega) (fun j e=>by cases e;exact o.bT)⟩
end Go.Proofs.YtjdnmblggdobgaaGreat
