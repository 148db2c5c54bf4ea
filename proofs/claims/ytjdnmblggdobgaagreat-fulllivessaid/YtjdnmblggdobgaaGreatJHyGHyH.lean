import Derived.Test.YtjdnmblggdobgaaGreatJTk2Dies
import Derived.Test.YtjdnmblggdobgaaGreatJHyDHyF
namespace Go.Proofs.YtjdnmblggdobgaaGreat
open Go.RowKit Go.Maps
theorem Mo.other {b B T M X:Nat} {w w':World} {nW nO nR gv kC kS kF kN kT:Value} {h:HeapD} {m g:List (Int×ThD)} {rs:List Int} {d:LinkD} (o:Mo b B w T M X nW nO nR gv kC kS kF kN kT h m g rs d) {k:Nat} (hg:w.grownBy w' (some k)) (hk:b<=k) (hn:T<k/\M<k/\X<k/\(∀j,nW.ownBlock=some j->j<k)/\(∀j,nO.ownBlock=some j->j<k)/\(∀j,nR.ownBlock=some j->j<k)/\(∀j,gv.ownBlock=some j->j<k)):Mo b B w' T M X nW nO nR gv kC kS kF kN kT h m g rs d/\Below b w w':=by
 obtain ⟨n1,n2,n3,n4,n5,n6,n7⟩:=hn
 refine ⟨⟨(hg.block T (lt0 o.blk) (fun e=>by have:=Option.some.inj e;omega)).trans o.blk,(hg.block M (lt0 o.mvr) (fun e=>by have:=Option.some.inj e;omega)).trans o.mvr,o.rW.kept hg (Or.inr fun e=>by have:=n4 _ e;omega),o.rO.kept hg (Or.inr fun e=>by have:=n5 _ e;omega),o.rR.kept hg (Or.inr fun e=>by have:=n6 _ e;omega),o.rG.kept hg (Or.inr fun e=>by have:=n7 _ e;omega),o.mp.kept hg (fun e=>by have:=Option.some.inj e;omega),o.lkUp hg hk,o.le,o.bT,o.bM,o.bX,o.sep⟩,(Below.refl b w).grown hg (by have:=lt0 o.blk;have:=o.bT;omega) (fun j e=>by cases e;exact hk)⟩
theorem zvf {L T M X B e n len:Nat} {nW gv gv' v:Value} {w w':World} {xs:List Value} (h:w.ownsRow B e n v len xs) (k:Mvd L T M X nW gv w gv' w') (hj:∀j,v.ownBlock=some j->j<w.heap.size->j<L/\j≠T/\j≠M/\j≠X/\nW.ownBlock≠some j/\gv.ownBlock≠some j):w'.ownsRow B e n v len xs:=by
 refine ⟨h.1,h.2.imp id ?_⟩
 rintro ⟨g,cap,cur,e1,e2,e3,e4⟩
 have q:=hj g (by rw [e1];rfl) (lt0 e3)
 exact ⟨g,cap,cur,e1,e2,(k.block g q.1 (lt0 e3) q.2.1 q.2.2.1 q.2.2.2.1 q.2.2.2.2.1 q.2.2.2.2.2).trans e3,e4⟩
end Go.Proofs.YtjdnmblggdobgaaGreat
