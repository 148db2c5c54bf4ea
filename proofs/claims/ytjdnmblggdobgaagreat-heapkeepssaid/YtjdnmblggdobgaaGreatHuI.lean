import Derived.Test.YtjdnmblggdobgaaGreatJTilHuH
import Derived.Test.YtjdnmblggdobgaaGreatJHtHHtJ
import Derived.Test.YtjdnmblggdobgaaGreatJTk2Dies
namespace Go.Proofs.YtjdnmblggdobgaaGreat
open Go.RowKit Go.Maps
theorem zr0 {w:World} {B e g cap n:Nat} {xs:List Value} (h:w.ownsRow B e 1 (.slice (some ⟨g,0,none⟩) n cap) n xs):(∀j,j<n->∃x,w.cell? ⟨g,j,none⟩=some x)/\(∀j,w.frozen? ⟨g,j,none⟩=false)/\g<w.heap.size:=by
 rcases h.2 with ⟨e,-⟩ | ⟨g',cap',cur,e,-,hb,hc,-,hs,-⟩
 ·cases e
 cases e
 exact ⟨fun j hj=>⟨cur[j]'(by omega),cl0 hb j (Array.getElem?_eq_getElem (by omega))⟩,fun j=>zcf hb j,lt0 hb⟩
end Go.Proofs.YtjdnmblggdobgaaGreat
