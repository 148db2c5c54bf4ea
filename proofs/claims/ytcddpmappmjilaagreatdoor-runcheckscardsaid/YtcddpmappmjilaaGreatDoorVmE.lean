import Derived.Test.YtcddpmappmjilaaGreatDoorJVmPVmC
namespace Go.Proofs.YtcddpmappmjilaaGreatDoor
open Go.RowKit Go.Maps
theorem tells_rest {c:Lkr} {F P Q:Nat} {x:Cd.Op4} (w:World) {vL vS:Value} {lo st:List KindD} (h:Sp c F P Q x w vL vS lo st) (n3:¬x.op=3) (n4:¬x.op=4) (n18:¬x.op=18) (n22:¬x.op=22) (n29:¬x.op=29) (n30:¬x.op=30) (n19:¬x.op=19) (n20:¬x.op=20) (n26:¬x.op=26) (n34:¬x.op=34):Calls Tryz.prog 308 #[.pointer (some ⟨Q,0,none⟩)] w fun r w'=>r=.returned (.bool (tellsD c x lo.length))/\Below w.heap.size w w':=by
 have q2:=cell_of h.blk 2 (x:=.int .i64 x.op) rfl
 have HR:Hid (tellsD c x lo.length=true):=by show _=_;simp [tellsD,n3,n4,n18,n22,n29,n30,n19,n20,n26,n34]
 have b3:(x.op==3)=false:=beq_eq_false_iff_ne.2 n3
 have b4:(x.op==4)=false:=beq_eq_false_iff_ne.2 n4
 have b18:(x.op==18)=false:=beq_eq_false_iff_ne.2 n18
 have b22:(x.op==22)=false:=beq_eq_false_iff_ne.2 n22
 have b29:(x.op==29)=false:=beq_eq_false_iff_ne.2 n29
 have b30:(x.op==30)=false:=beq_eq_false_iff_ne.2 n30
 have b19:(x.op==19)=false:=beq_eq_false_iff_ne.2 n19
 have b20:(x.op==20)=false:=beq_eq_false_iff_ne.2 n20
 have b26:(x.op==26)=false:=beq_eq_false_iff_ne.2 n26
 have b34:(x.op==34)=false:=beq_eq_false_iff_ne.2 n34
 clear h n3 n4 n18 n22 n29 n30 n19 n20 n26 n34
 go_enter Tryz.func308,Tryz.ntmps308
 go_wp2_with fail
 go_ret
 exact ⟨by rw [HR.out];rfl,Below.refl _ _⟩
end Go.Proofs.YtcddpmappmjilaaGreatDoor
