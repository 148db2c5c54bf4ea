import Derived.WalkKit
import Derived.Laws.BitsAllLaws
import Derived.Laws.DeepBits32
namespace Go.Proofs.YtcddpmappmjilaaGreatDoor.Cd
open Go.RowKit
theorem byte_w (x:UInt8):wrap64 (x.toNat:Int)=(x.toNat:Int):=by
 have:=x.toNat_lt
 unfold wrap64
 omega
theorem byte_w8 (x:UInt8):wrap64 ((x.toNat:Int)*256)=(x.toNat:Int)*256:=by
 have:=x.toNat_lt
 unfold wrap64
 omega
theorem or256 (a b:Nat) (hb:b<256):(a*256)|||b=a*256+b:=by
 have:=Nat.two_pow_add_eq_or_of_lt (i:=8) (b:=b) (by simpa using hb) a
 rw [Nat.mul_comm]at this
 simpa using this.symm
theorem wrap_i64_small (n:Int) (h0:0<=n) (h1:n<9223372036854775808):IntKind.i64.wrap n=n:=by
 rw [IntKind.wrap_i64]
 omega
theorem or_i64 (a b:Nat) (ha:a<256) (hb:b<256):bits .or .i64 ((a:Int)*256) (b:Int)=256*(a:Int)+b:=by
 have e:((a:Int)*256)=((a*256:Nat):Int):=by omega
 rw [e]
 show IntKind.i64.wrap ((BitVec.ofInt 64 ((a*256:Nat):Int)|||BitVec.ofInt 64 (b:Int)).toNat:Int)=_
 rw [BitVec.toNat_or,ofInt_u64 (a*256) (by omega),ofInt_u64 b (by omega),or256 a b hb,wrap_i64_small _ (by omega) (by omega)]
 omega
theorem ext_get (s:ByteArray) (p n i:Nat) (h:i<(s.extract p (p+n)).size) (h':p+i<s.size):(s.extract p (p+n))[i]=s[p+i]:=by
 exact ByteArray.getElem_extract h
def bt (s:ByteArray) (i:Nat):Nat:=if h:i<s.size then s[i].toNat else 0
theorem bt_eq (s:ByteArray) (i:Nat) (h:i<s.size):bt s i=s[i].toNat:=by simp [bt,h]
theorem bt_lt (s:ByteArray) (i:Nat):bt s i<256:=by
 unfold bt
 split
 ·
  exact UInt8.toNat_lt _
 omega
def sg (n:Int):Int:=if n<32768 then n else n - 65536
theorem sg_eq (a b:Nat) (ha:a<256) (hb:b<256):wrap64 (IntKind.i16.wrap (256*(a:Int)+b))=sg (256*(a:Int)+b):=by
 have e:IntKind.i16.wrap (256*(a:Int)+b)=sg (256*(a:Int)+b):=by
  simp [IntKind.wrap,IntKind.bits,IntKind.signed,sg]
  split<;>split<;>omega
 rw [e]
 unfold sg wrap64
 split<;>omega
def mOf:Nat->Nat | 1=>2 | 2=>2 | 3=>1 | 4=>2 | _=>0
def argA (k:Nat) (s:ByteArray) (p:Nat):Int:=
 if k=1 then sg (256*bt s (p+1)+bt s (p+2)) else if k=2 then 256*bt s (p+1)+bt s (p+2) else if k=3 then bt s (p+1) else if k=4 then bt s (p+1) else 0
def argB (k:Nat) (s:ByteArray) (p:Nat):Int:=if k=4 then bt s (p+2) else 0
end Go.Proofs.YtcddpmappmjilaaGreatDoor.Cd
