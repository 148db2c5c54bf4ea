import Derived.Test.YtjdnmblggdobgaaGreatChecked
import Derived.Ground.Names2Prog
import Derived.Shelf.Lays2
namespace Go.Proofs.YtjdnmblggdobgaaGreat
open Go.Shelf
def Tryz.laysSearch_ren:Go.Shelf.Ren:=⟨fun | 25=>180 | 31=>222 | 32=>223 | 37=>195 | n=>n,fun | 22=>22 | 3=>3 | 4=>4 | 40=>254 | 0=>0 | n=>n,fun | n=>n⟩
theorem Tryz.laysSearch:Go.Proofs.Lays2.n25 Tryz.prog Tryz.laysSearch_ren:={
 mixed:=by kernel_rfl
 f25:=Tryz.func180.trans (congrArg some (by kernel_rfl))
 f31:=Tryz.func222.trans (congrArg some (by kernel_rfl))
 f32:=Tryz.func223.trans (congrArg some (by kernel_rfl))
 f37:=Tryz.func195.trans (congrArg some (by kernel_rfl))
 t0:=Tryz.underlying0
 a0:=Tryz.isAgg0
 z0:=Tryz.sizeOf0
 v0:=Tryz.zeroValue0
 t3:=Tryz.underlying3
 a3:=Tryz.isAgg3
 z3:=Tryz.sizeOf3
 v3:=Tryz.zeroValue3
 t4:=Tryz.underlying4
 a4:=Tryz.isAgg4
 z4:=Tryz.sizeOf4
 v4:=Tryz.zeroValue4
 t22:=Tryz.underlying22
 a22:=Tryz.isAgg22
 z22:=Tryz.sizeOf22
 v22:=Tryz.zeroValue22
 t40:=Tryz.underlying254
 a40:=Tryz.isAgg254
 z40:=Tryz.sizeOf254
 v40:=Tryz.zeroValue254 }
end Go.Proofs.YtjdnmblggdobgaaGreat
