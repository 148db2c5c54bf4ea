import Derived.Test.YtcddpmappmjilaaGreatDoorJPlainMem
namespace Go.Proofs.YtcddpmappmjilaaGreatDoor
open Go.RowKit
theorem dem_zero {b:Bool} {e r:Int} (h:dem b e r=0) (he:e≠0):b=true/\r=0:=by
 cases b
 ·
  exact absurd h he
 exact ⟨rfl,h⟩
theorem thenE_zero {e r:Int} (h:thenE e r=0):e=0/\r=0:=by
 unfold thenE at h
 by_cases he:e=0
 ·
  rw [if_pos he]at h
  exact ⟨he,h⟩
 rw [if_neg he]at h
 exact absurd h he
theorem allE_zero {α:Type} {f:α->Int} :∀ {l:List α},allE f l=0->∀x∈l,f x=0
 | [],_,x,hx=>by cases hx
 | y::l,h,x,hx=>by
   obtain ⟨h1,h2⟩:=thenE_zero h
   rcases List.mem_cons.1 hx with rfl | hx
   ·
    exact h1
   exact allE_zero h2 x hx
theorem name_small {s:ByteArray} (h:isNameB s=true):s.size<=20:=by
 simp [isNameB]at h
 omega
def FineK (k:KindD):Prop:=0<=k.kind/\k.kind<=4/\k.cls.size<=20/\(hasCls k.kind=false->k.cls.size=0)
def FineF (f:FieldD):Prop:=f.name.size<=20/\FineK f.kind
def FineH (h:HandD):Prop:=h.cls.size<=20/\(0<=h.frm/\h.frm<=200)/\(0<=h.upto/\h.upto<=200)/\(0<=h.loc/\h.loc<=200)
def FineM (m:MethD):Prop:=m.name.size<=20/\m.args.length<=4/\(∀k∈m.args,FineK k)/\FineK m.ret/\(0<=m.stack/\m.stack<=10)/\(0<=m.locals/\m.locals<=10)/\m.code.size<=200/\m.hands.length<=4/\∀h∈m.hands,FineH h
def FineC (c:ClassD):Prop:=c.name.size<=20/\c.super.size<=20/\c.fields.length<=6/\(∀f∈c.fields,FineF f)/\c.meths.length<=8/\∀m∈c.meths,FineM m
theorem win_fine {n m:Int} (h:win n m=true):0<=n/\n<=m:=by
 simpa [win]using h
theorem right_fine {k:KindD} (h:rightB k=true):FineK k:=by
 unfold rightB at h
 split at h
 ·
  rename_i hc
  have h2:=name_small h
  refine ⟨?_,?_,h2,fun hn=>by rw [hc]at hn;cases hn⟩<;>simp [hasCls]at hc<;>omega
 rename_i hc
 simp only [Bool.and_eq_true,Bool.or_eq_true,decide_eq_true_eq]at h
 exact ⟨by omega,by omega,by omega,fun _=>h.2⟩
theorem returned_fine {k:KindD} (h:returnedB k=true):FineK k:=by
 rw [returnedB,Bool.or_eq_true]at h
 rcases h with h | h
 ·
  exact right_fine h
 simp only [Bool.and_eq_true,decide_eq_true_eq]at h
 exact ⟨by omega,by omega,by omega,fun _=>h.2⟩
theorem field_fine {f:FieldD} (h:checkField f=0):FineF f:=by
 obtain ⟨h1,h⟩:=dem_zero h (by decide)
 obtain ⟨h2,h⟩:=dem_zero h (by decide)
 exact ⟨name_small h1,right_fine h2⟩
theorem hand_fine {x:HandD} (h:checkHand x=0):FineH x:=by
 obtain ⟨h1,h⟩:=dem_zero h (by decide)
 obtain ⟨h2,h⟩:=dem_zero h (by decide)
 obtain ⟨h3,h⟩:=dem_zero h (by decide)
 obtain ⟨h4,h⟩:=dem_zero h (by decide)
 exact ⟨name_small h1,win_fine h2,win_fine h3,win_fine h4⟩
theorem meth_fine {m:MethD} (h:checkMeth m=0):FineM m:=by
 obtain ⟨h1,h⟩:=dem_zero h (by decide)
 obtain ⟨h2,h⟩:=dem_zero h (by decide)
 obtain ⟨h3,h⟩:=dem_zero h (by decide)
 obtain ⟨h4,h⟩:=dem_zero h (by decide)
 obtain ⟨h5,h⟩:=dem_zero h (by decide)
 obtain ⟨h6,h⟩:=dem_zero h (by decide)
 obtain ⟨h7,h⟩:=thenE_zero h
 obtain ⟨h8,h⟩:=dem_zero h (by decide)
 exact ⟨name_small h1,of_decide_eq_true h2,fun k hk=>right_fine (dem_zero (allE_zero h7 k hk) (by decide)).1,returned_fine h8,win_fine h5,win_fine h6,of_decide_eq_true h3,of_decide_eq_true h4,fun x hx=>hand_fine (allE_zero h x hx)⟩
theorem class_fine {c:ClassD} (h:checkClass c=0):FineC c:=by
 obtain ⟨h1,h⟩:=dem_zero h (by decide)
 obtain ⟨h2,h⟩:=dem_zero h (by decide)
 obtain ⟨h3,h⟩:=dem_zero h (by decide)
 obtain ⟨h4,h⟩:=dem_zero h (by decide)
 obtain ⟨h5,h⟩:=thenE_zero h
 refine ⟨name_small h1,?_,of_decide_eq_true h3,fun f hf=>field_fine (allE_zero h5 f hf),of_decide_eq_true h4,fun m hm=>meth_fine (allE_zero h m hm)⟩
 rw [Bool.or_eq_true]at h2
 rcases h2 with h2 | h2
 ·
  have:=of_decide_eq_true h2
  omega
 exact name_small h2
theorem list_fine {l:List ClassD} (h:checkL l=0):l.length<=10/\∀c∈l,FineC c:=by
 obtain ⟨h1,h⟩:=dem_zero h (by decide)
 exact ⟨of_decide_eq_true h1,fun c hc=>class_fine (allE_zero h c hc)⟩
end Go.Proofs.YtcddpmappmjilaaGreatDoor
