import Derived.Test.YtcddpmappmjilaaGreatDoorJVkMVoA
import Derived.Test.YtcddpmappmjilaaGreatDoorVkB
namespace Go.Proofs.YtcddpmappmjilaaGreatDoor
open Go.RowKit Go.Maps
def nmC (s:ByteArray):ClassD:=⟨s,⟨#[]⟩,[],[]⟩
def nameB (s:ByteArray):Bool:=checkL [nmC s]==0
theorem nmC_SL {w:World} {X:Nat} {s:ByteArray} (h:w.heap[X]? =some (.cells #[.string s,.string ⟨#[]⟩,.slice none 0 0,.slice none 0 0] 63 (0,0))) (hs:s.size<=maxLen):SL 4 RC (· <w.heap.size) w (.slice (some ⟨X,0,none⟩) 1 1) [nmC s]:=by
 refine ⟨some ⟨X,0,none⟩,1,rfl,Nat.le_refl _,by unfold maxLen;simp,fun k hk=>?_⟩
 obtain rfl:k=0:=by simp at hk;exact hk
 refine ⟨X,0,[.string s,.string ⟨#[]⟩,.slice none 0 0,.slice none 0 0],rfl,lt_of h,lt_of h,rfl,fun j hj=>?_,.slice none 0 0,.slice none 0 0,rfl,⟨none,0,rfl,Nat.le_refl _,Nat.zero_le _,fun k hk=>by cases hk⟩,⟨none,0,rfl,Nat.le_refl _,Nat.zero_le _,fun k hk=>by cases hk⟩,hs,Nat.zero_le _⟩
 match j,hj with
 | 0,_=>exact cell_of h 0 rfl
 | 1,_=>exact cell_of h 1 rfl
 | 2,_=>exact cell_of h 2 rfl
 | 3,_=>exact cell_of h 3 rfl
set_option maxHeartbeats 1000000 in
theorem kName_any (w:World) (s:ByteArray) (hs:s.size<=maxLen):Calls Tryz.prog 239 #[.string s] w fun r w'=>r=.returned (.bool (nameB s))/\Below w.heap.size w w':=by
 have HB:=mkHid ((Below.refl w.heap.size w).alloc (Nat.le_refl _) (.cells #[.string s,.string ⟨#[]⟩,.slice none 0 0,.slice none 0 0] 63))
 have HS:=mkHid (nmC_SL (heap_alloc_new w (.cells #[.string s,.string ⟨#[]⟩,.slice none 0 0,.slice none 0 0] 63)) hs)
 go_enter Tryz.func239,Tryz.ntmps239
 go_wp2_with fail
 refine (Check_any _ _ [nmC s] _ HS.out (Nat.le_refl _)).mono ?_
 rintro r w2 ⟨rfl,hb2⟩
 have HR:Hid (nameB s=(checkL [nmC s]==0)):=rfl
 generalize checkL [nmC s]=e at*
 go_wp2_with fail
 go_ret
 exact ⟨by rw [HR.out];rfl,HB.out.trans (hb2.mono HB.out.size)⟩
def kindB (x:KindD):Bool:=if decide (x.kind=3)||decide (x.kind=4) then nameB x.cls else (sameK x numK||sameK x rowK||sameK x nulK||sameK x anyK)
set_option maxRecDepth 100000 in
set_option maxHeartbeats 4000000 in
theorem isKind_any (w:World) (x:KindD) (hs:x.cls.size<=maxLen) (hg:GlK w):Calls Tryz.prog 168 #[kv x] w fun r w'=>r=.returned (.bool (kindB x))/\Below w.heap.size w w':=by
 have HB:=mkHid ((Below.refl w.heap.size w).alloc (Nat.le_refl _) (.cells #[.int .i64 x.kind,.string x.cls] 80))
 obtain ⟨-,-,a0,a1,u0,u1,n0,n1,r0,r1,-⟩:=hg.below HB.out
 have e1:∀W,(binOp BinOp.eql 80 (kv x) (.agg #[.int .i64 1,.string noNm])).run Tryz.prog W=.ok (.bool (sameK x numK)) W:=kindEq x numK
 have e2:∀W,(binOp BinOp.eql 80 (kv x) (.agg #[.int .i64 2,.string noNm])).run Tryz.prog W=.ok (.bool (sameK x rowK)) W:=kindEq x rowK
 have e3:∀W,(binOp BinOp.eql 80 (kv x) (.agg #[.int .i64 5,.string noNm])).run Tryz.prog W=.ok (.bool (sameK x nulK)) W:=kindEq x nulK
 have e4:∀W,(binOp BinOp.eql 80 (kv x) (.agg #[.int .i64 6,.string noNm])).run Tryz.prog W=.ok (.bool (sameK x anyK)) W:=kindEq x anyK
 have eg:=kindNeqG
 have HR:Hid (kindB x=if (x.kind==3)||(x.kind==4) then nameB x.cls else (sameK x numK||sameK x rowK||sameK x nulK||sameK x anyK)):=by
  show _=_
  unfold kindB
  rw [show decide (x.kind=3)=(x.kind==3) by rw [Bool.eq_iff_iff];simp,show decide (x.kind=4)=(x.kind==4) by rw [Bool.eq_iff_iff];simp]
 have HN:=mkHid (fun W=>kName_any W x.cls hs)
 cases h3:(x.kind==3)with
 | true=>
   rw [h3]at HR
   go_enter Tryz.func168,Tryz.ntmps168
   go_wp2_with (go_at_call 239;refine (HN.out _).mono ?_;rintro r w2 ⟨rfl,hb2⟩)
   go_ret
   exact ⟨by rw [HR.out];rfl,HB.out.trans (hb2.mono HB.out.size)⟩
 | false=>
   rw [h3]at HR
   cases h4:(x.kind==4)with
   | true=>
     rw [h4]at HR
     go_enter Tryz.func168,Tryz.ntmps168
     go_wp2_with (go_at_call 239;refine (HN.out _).mono ?_;rintro r w2 ⟨rfl,hb2⟩)
     go_ret
     exact ⟨by rw [HR.out];rfl,HB.out.trans (hb2.mono HB.out.size)⟩
   | false=>
     rw [h4]at HR
     cases h5:sameK x numK<;>cases h6:sameK x rowK<;>cases h7:sameK x nulK<;>cases h8:sameK x anyK
     all_goals
      rw [h5]at e1 HR
      rw [h6]at e2 HR
      rw [h7]at e3 HR
      rw [h8]at e4 HR
      clear h5 h6 h7 h8
      go_enter Tryz.func168,Tryz.ntmps168
      go_wp2_with fail
      go_ret
      exact ⟨by rw [HR.out];rfl,HB.out⟩
end Go.Proofs.YtcddpmappmjilaaGreatDoor
