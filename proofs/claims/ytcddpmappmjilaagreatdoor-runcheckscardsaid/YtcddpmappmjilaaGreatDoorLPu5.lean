import Derived.Test.YtcddpmappmjilaaGreatDoorJLPu1LPu4
import Derived.Test.YtcddpmappmjilaaGreatDoorLLo
import Derived.Test.YtcddpmappmjilaaGreatDoorLRf6
import Derived.Test.YtcddpmappmjilaaGreatDoorJLTieLBas
namespace Go.Proofs.YtcddpmappmjilaaGreatDoor
open Go.RowKit
theorem eqL_refl {α:Type} {p:α->α->Bool} (h:∀x,p x x=true):∀l:List α,eqL p l l=true
 | []=>rfl
 | x::l=>by rw [eqL,h,eqL_refl h l];rfl
theorem sameRest_refl (d:LinkD):sameRest d d=true:=by
 rw [sameRest,eqL_refl (fun x=>by simp [sameI]),eqL_refl (eqL_refl fun x=>by simp [sameF,sameK]),eqL_refl (eqL_refl fun x=>by simp [sameS]),eqL_refl (eqL_refl fun x=>by simp [sameT])]
 rfl
theorem makes_linkD (l:List ClassD):makesB l (linkD l)=true:=sameRest_refl (linkD l)
theorem name_ne {s:ByteArray} (h:isNameB s=true):s≠⟨#[]⟩:=by
 rintro rfl
 revert h
 decide
theorem class_name {c:ClassD} (h:checkClass c=0):c.name≠⟨#[]⟩:=by
 unfold checkClass at h
 exact name_ne (dem_zero h (by decide)).1
theorem no_nil {l:List ClassD} (h:checkL l=0):num l ⟨#[]⟩<0:=by
 have h1:hasC l ⟨#[]⟩=false:=by
  rw [hasC,hasC_mem,List.any_eq_false]
  intro c hc
  have hcc:checkClass c=0:=by
   unfold checkL at h
   exact allE_zero (dem_zero h (by decide)).2 c hc
  have:=class_name hcc
  simpa using fun e=>this e.symm
 simpa [hasC]using h1
theorem few_q {l:List ClassD} (hn:askNames l=true) (h5:askNone l=true):askFew l=allI l (fewI l):=by
 rw [askFew,allI,Bool.eq_iff_iff,Bool.and_eq_true]
 simp only [List.all_eq_true,fewI,Bool.and_eq_true]
 constructor
 ·
  rintro ⟨h1,h2⟩ i hi
  have hi':=List.mem_range.1 hi
  rw [allF_fields hn h5 hi',tabF_table hn h5 hi']
  exact ⟨h1 i hi,h2 i hi⟩
 intro h
 refine ⟨fun i hi=>?_,fun i hi=>?_⟩
 ·
  have:=(h i hi).1
  rwa [allF_fields hn h5 (List.mem_range.1 hi)]at this
 have:=(h i hi).2
 rwa [tabF_table hn h5 (List.mem_range.1 hi)]at this
theorem linkErr_ne {l:List ClassD} {e:Int} (h:checkLk l=e) (he:e≠0):linkErr l=e:=by
 rw [linkErr,h,if_pos he]
theorem tie_link (l:List ClassD):tieRes l=linkErr l:=by
 by_cases hc:checkL l=0
 rotate_left
 ·
  rw [tieRes,if_neg hc]
  exact (linkErr_ne (by simp [checkLk,hc]) hc).symm
 have hfine:=(list_fine hc).2
 rw [tieRes,if_pos hc]
 cases h1:askNames l with
 | false=>rw [linkErr_ne (lk1 hc (names_q1 l ▸ h1)) (by decide)];simp [qsOf,askRes,h1]
 | true=>
 have g1:=names_q1 l ▸ h1
 cases h2:askTop l with
 | false=>rw [linkErr_ne (lk2 hc g1 (top_q2 l h1 ▸ h2)) (by decide)];simp [qsOf,askRes,h1,h2]
 | true=>
 have g2:=top_q2 l h1 ▸ h2
 cases h3:askUpper l with
 | false=>rw [linkErr_ne (lk3 hc g1 g2 (upper_q3 l ▸ h3)) (by decide)];simp [qsOf,askRes,h1,h2,h3]
 | true=>
 have g3:=upper_q3 l ▸ h3
 cases h4:askSupers l with
 | false=>rw [linkErr_ne (lk4 hc g1 g2 g3 (supers_q4 l h1 ▸ h4)) (by decide)];simp [qsOf,askRes,h1,h2,h3,h4]
 | true=>
 have g4:=supers_q4 l h1 ▸ h4
 cases h5:askNone l with
 | false=>rw [linkErr_ne (lk5 hc g1 g2 g3 g4 (none_q5 l h1 ▸ h5)) (by decide)];simp [qsOf,askRes,h1,h2,h3,h4,h5]
 | true=>
 have g5:=none_q5 l h1 ▸ h5
 cases h6:askError l with
 | false=>rw [linkErr_ne (lk6 hc g1 g2 g3 g4 g5 (error_q6 h1 h5 h2 hfine ▸ h6)) (by decide)];simp [qsOf,askRes,h1,h2,h3,h4,h5,h6]
 | true=>
 have g6:=error_q6 h1 h5 h2 hfine ▸ h6
 cases h7:askTold l with
 | false=>rw [linkErr_ne (lk7 hc g1 g2 g3 g4 g5 g6 (told_q7 l h1 ▸ h7)) (by decide)];simp [qsOf,askRes,h1,h2,h3,h4,h5,h6,h7]
 | true=>
 have g7:=told_q7 l h1 ▸ h7
 cases h8:askParts l with
 | false=>rw [linkErr_ne (lk8 hc g1 g2 g3 g4 g5 g6 g7 (parts_q8 h1 h5 ▸ h8)) (by decide)];simp [qsOf,askRes,h1,h2,h3,h4,h5,h6,h7,h8]
 | true=>
 have g8:=parts_q8 h1 h5 ▸ h8
 cases h9:askSame l with
 | false=>rw [linkErr_ne (lk9 hc g1 g2 g3 g4 g5 g6 g7 g8 (same_q9 h1 h4 h5 h8 (no_nil hc) ▸ h9)) (by decide)];simp [qsOf,askRes,h1,h2,h3,h4,h5,h6,h7,h8,h9]
 | true=>
 have g9:=same_q9 h1 h4 h5 h8 (no_nil hc) ▸ h9
 rw [linkErr,lk10 hc g1 g2 g3 g4 g5 g6 g7 g8 g9,<-few_q h1 h5]
 cases h10:askFew l<;>simp [qsOf,askRes,h1,h2,h3,h4,h5,h6,h7,h8,h9,h10]
theorem askRes_zero {g:Nat} {e:Int} {a:Bool} {l:List QD} (h:askRes (⟨g,e,a⟩::l)=0) (he:e≠0):a=true/\askRes l=0:=by
 rw [askRes]at h
 cases a with
 | true=>exact ⟨rfl,by simpa using h⟩
 | false=>exact absurd (by simpa using h) he
theorem tie_asks {l:List ClassD} (h:tieRes l=0):askNames l=true/\askTop l=true/\askUpper l=true/\askSupers l=true/\askNone l=true/\askError l=true/\askTold l=true/\askParts l=true/\askSame l=true/\askFew l=true:=by
 have hc:=tie_chk h
 rw [tieRes,if_pos hc]at h
 obtain ⟨h1,h⟩:=askRes_zero h (by decide)
 obtain ⟨h2,h⟩:=askRes_zero h (by decide)
 obtain ⟨h3,h⟩:=askRes_zero h (by decide)
 obtain ⟨h4,h⟩:=askRes_zero h (by decide)
 obtain ⟨h5,h⟩:=askRes_zero h (by decide)
 obtain ⟨h6,h⟩:=askRes_zero h (by decide)
 obtain ⟨h7,h⟩:=askRes_zero h (by decide)
 obtain ⟨h8,h⟩:=askRes_zero h (by decide)
 obtain ⟨h9,h⟩:=askRes_zero h (by decide)
 obtain ⟨h10,-⟩:=askRes_zero h (by decide)
 exact ⟨h1,h2,h3,h4,h5,h6,h7,h8,h9,h10⟩
theorem linkD_refD {l:List ClassD} (h:tieRes l=0):linkD l=refD l:=by
 obtain ⟨h1,-,-,-,h5,-⟩:=tie_asks h
 have e1:(List.range l.length).map (supAt l)=(List.range l.length).map fun i=>firstAt l (clsAt l i).super:=List.map_congr_left fun i _=>num_firstAt l _ h1
 have e2:(List.range l.length).map (fieldsOf l)=(List.range l.length).map (allF l):=List.map_congr_left fun i hi=>(allF_fields h1 h5 (List.mem_range.1 hi)).symm
 have e3:(List.range l.length).map (namesOf l)=(List.range l.length).map fun i=>(tabF l i).1:=List.map_congr_left fun i hi=>by rw [tabF_table h1 h5 (List.mem_range.1 hi)];rfl
 have e4:(List.range l.length).map (targetsOf l)=(List.range l.length).map fun i=>(tabF l i).2:=List.map_congr_left fun i hi=>by rw [tabF_table h1 h5 (List.mem_range.1 hi)];rfl
 rw [linkD,refD,e1,e2,e3,e4]
end Go.Proofs.YtcddpmappmjilaaGreatDoor
