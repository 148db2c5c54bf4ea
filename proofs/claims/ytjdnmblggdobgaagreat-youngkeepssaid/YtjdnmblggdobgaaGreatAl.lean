import Derived.Deep.RegionHeld
import Derived.Below
namespace Go.Proofs.YtjdnmblggdobgaaGreat
open Go.RowKit
end Go.Proofs.YtjdnmblggdobgaaGreat
namespace Go.RowKit
theorem Hid.o {p:Prop} (h:Hid p):p:=h
end Go.RowKit
namespace Go
theorem Shut.o {p:Prop} (h:Shut p):p:=h
end Go
namespace Go.Proofs.YtjdnmblggdobgaaGreat
open Go.RowKit
theorem br (B:Nat) (w:World):Below B w w:=Below.refl B w
theorem nlq (n:Nat):n<=n:=Nat.le_refl n
theorem n0q (n:Nat):0<=n:=Nat.zero_le n
theorem ojq {α:Type} {a b:α} (h:some a=some b):a=b:=Option.some.inj h
theorem gm {α:Type} {l:List α} {n:Nat} (h:n<l.length):l[n]∈l:=List.getElem_mem h
theorem lt3 {a b c:Nat} (h:a<=b) (g:b<=c):a<=c:=Nat.le_trans h g
theorem ll3 {a b c:Nat} (h:a<b) (g:b<=c):a<c:=Nat.lt_of_lt_of_le h g
theorem p1q {α:Type} (l:List α) (i:Nat) (a:α):l.toArray.setIfInBounds i a=(l.set i a).toArray:=List.setIfInBounds_toArray ..
theorem p2q {α:Type} {l:List α} {i:Nat} (h:i<l.toArray.size):l.toArray[i]=l[i]'(by simpa using h):=List.getElem_toArray h
theorem p3q {α:Type} {l:List α} {n:Nat} {a b:α}:(a::l).set (n+1) b=a::l.set n b:=rfl
theorem p4q {α:Type} {l:List α} {a b:α}:(a::l).set 0 b=b::l:=rfl
theorem p5q {α:Type} {a:α} {l:List α} {h:0<(a::l).length}:(a::l)[0]=a:=rfl
theorem p6q {α:Type} {a:α} {l:List α} {i:Nat} {h:i+1<(a::l).length}:(a::l)[i+1]=l[i]'(Nat.lt_of_succ_lt_succ h):=rfl
end Go.Proofs.YtjdnmblggdobgaaGreat
