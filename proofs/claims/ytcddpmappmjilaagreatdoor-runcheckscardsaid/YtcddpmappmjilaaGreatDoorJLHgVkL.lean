import Derived.Test.YtcddpmappmjilaaGreatDoorLPu5
import Derived.Test.YtcddpmappmjilaaGreatDoorJLClVmM
namespace Go.Proofs.YtcddpmappmjilaaGreatDoor
open Go.RowKit
theorem num_own_get (l:List ClassD):askNames l=true->∀(i:Nat) (hi:i<l.length),num l l[i].name=i:=by
 induction l using snoc_ind with
 | h0=>intro _ i hi;cases hi
 | h1 l c ih=>
   intro h i hi
   have h':differB ((l++ [c]).map (·.name))=true:=h
   rw [differ_names_snoc,Bool.and_eq_true]at h'
   obtain ⟨h1,h2⟩:=h'
   rw [num_snoc]
   by_cases hl:i<l.length
   ·
    have e:(l++ [c])[i]=l[i]:=List.getElem_append_left hl
    have h3:=ih h1 i hl
    rw [e,if_neg,h3]
    intro hc
    rw [hc,h3]at h2
    simp at h2
   have hi':i=l.length:=by simp at hi;omega
   subst hi'
   have e:(l++ [c])[l.length]=c:=by simp
   rw [e,if_pos rfl]
structure Hang (l:List ClassD):Prop where
 names:askNames l=true
 top:askTop l=true
 upper:askUpper l=true
 supers:askSupers l=true
 none:askNone l=true
 nil:num l ⟨#[]⟩<0
theorem Hang.of {l:List ClassD} (h:tieRes l=0):Hang l:=by
 obtain ⟨h1,h2,h3,h4,h5,-⟩:=tie_asks h
 exact ⟨h1,h2,h3,h4,h5,no_nil (tie_chk h)⟩
theorem Hang.lk {d:LinkD} (h:okLk d=true):Hang d.classes:=by
 rw [okLk,Bool.and_eq_true,decide_eq_true_iff]at h
 exact Hang.of h.1
theorem num_own {l:List ClassD} (hn:askNames l=true) {i:Nat} (hi:i<l.length):num l (clsAt l i).name=i:=by
 rw [clsAt_eq hi]
 exact num_own_get l hn i hi
theorem Hang.sup {l:List ClassD} (h:Hang l) {i:Nat} (hi:i<l.length):(supAt l i<0/\(i:Int)=num l topName)\/∃n:Nat,supAt l i=n/\n<l.length:=by
 by_cases hs:(clsAt l i).super=⟨#[]⟩
 ·
  refine Or.inl ⟨by rw [supAt,hs];exact h.nil,?_⟩
  have h1:=List.all_eq_true.1 h.upper l[i] (List.getElem_mem hi)
  rw [clsAt_eq hi]at hs
  simp [hs]at h1
  rw [<-h1,<-clsAt_eq hi,num_own h.names hi]
 refine Or.inr ?_
 have h1:=List.all_eq_true.1 h.supers l[i] (List.getElem_mem hi)
 rw [clsAt_eq hi]at hs
 have h2:hasC l l[i].super=true:=by simpa [hs]using h1
 have h3:0<=supAt l i:=by rw [supAt,clsAt_eq hi];simpa [hasC]using h2
 have h4:supAt l i<l.length:=(num_le l (clsAt l i).super).2
 exact ⟨(supAt l i).toNat,by omega,by omega⟩
theorem Hang.ind {l:List ClassD} (h:Hang l) {P:Nat->Prop} (h0:∀i,i<l.length->lineOf l i= [i]->(i:Int)=num l topName->P i)
 (h1:∀i n:Nat,i<l.length->n<l.length->supAt l i=n->lineOf l i=lineOf l n++ [i]->P n->P i):∀i,i<l.length->P i:=by
 have key:∀d i,i<l.length->(lineOf l i).length<=d->P i:=by
  intro d
  induction d with
  | zero=>intro i _ hl;exact absurd (List.eq_nil_of_length_eq_zero (by omega)) (line_ne l i)
  | succ d ih=>
    intro i hi hl
    rcases h.sup hi with ⟨h2,h3⟩ | ⟨n,hs,hn⟩
    ·
     exact h0 i hi (line_top h2) h3
    obtain ⟨e,hnl⟩:=line_step h.none hi hs
    exact h1 i n hi hnl hs e (ih n hnl (by rw [e]at hl;simp at hl;omega))
 exact fun i hi=>key _ i hi (Nat.le_refl _)
theorem Hang.root {l:List ClassD} (h:Hang l):∀i,i<l.length->(num l topName).toNat∈lineOf l i:=
 h.ind (fun _ _ e ht=>by rw [e,<-ht];simp) (fun _ _ _ _ _ e ih=>by rw [e];exact List.mem_append_left _ ih)
theorem Hang.last {l:List ClassD} (h:Hang l):∀i,i<l.length->∃X,lineOf l i=X++ [i]:=
 h.ind (fun _ _ e _=>⟨[],e⟩) (fun _ _ _ _ _ e _=>⟨_,e⟩)
theorem Hang.self {l:List ClassD} (h:Hang l) {i:Nat} (hi:i<l.length):i∈lineOf l i:=by
 obtain ⟨X,e⟩:=h.last i hi
 rw [e]
 simp
theorem Hang.pre {l:List ClassD} (h:Hang l):∀i,i<l.length->∀u∈lineOf l i,u<l.length/\∃R,lineOf l i=lineOf l u++R:=
 h.ind (fun i hi e _ u hu=>by
  rw [e]at hu
  obtain rfl:=List.mem_singleton.1 hu
  exact ⟨hi,[],by simp⟩) (fun i n hi _ _ e ih u hu=>by
  rw [e]at hu
  rcases List.mem_append.1 hu with h1 | h1
  ·
   obtain ⟨h2,R,h3⟩:=ih u h1
   exact ⟨h2,R++ [i],by rw [e,h3,List.append_assoc]⟩
  obtain rfl:=List.mem_singleton.1 h1
  exact ⟨hi,[],by simp⟩)
theorem Hang.trans {l:List ClassD} (h:Hang l) {a b c:Nat} (ha:a<l.length) (hab:b∈lineOf l a) (hbc:c∈lineOf l b):c∈lineOf l a:=by
 obtain ⟨_,R,e⟩:=h.pre a ha b hab
 rw [e]
 exact List.mem_append_left _ hbc
structure Abv (l:List ClassD) (x y n:Nat):Prop where
 lt:n<l.length
 ex:∃R,lineOf l x=lineOf l n++R/\∀u∈R,u∉lineOf l y
 mem:n∈lineOf l y
theorem Abv.exists {l:List ClassD} (h:Hang l) {y:Nat} (hy:y<l.length):∀x,x<l.length->∃n,Abv l x y n:=
 h.ind (fun i hi e ht=>⟨i,hi,⟨[],by simp,fun u hu=>by cases hu⟩,by have:=h.root y hy;rwa [<-ht]at this⟩) (fun i n hi hn _ e ⟨m,hm,⟨R,e1,h1⟩,h2⟩=>by
  by_cases hiy:i∈lineOf l y
  ·
   exact ⟨i,hi,⟨[],by simp,fun u hu=>by cases hu⟩,hiy⟩
  exact ⟨m,hm,⟨R++ [i],by rw [e,e1,List.append_assoc],fun u hu=>by
   rcases List.mem_append.1 hu with h3 | h3
   ·
    exact h1 u h3
   rw [List.mem_singleton.1 h3];exact hiy⟩,h2⟩)
def aboveG (l:List ClassD) (x y:Nat):Nat:=((lineOf l x).reverse.find? fun u=>decide (u∈lineOf l y)).getD 0
theorem Abv.eq {l:List ClassD} (h:Hang l) {x y n:Nat} (ha:Abv l x y n):aboveG l x y=n:=by
 obtain ⟨hn,⟨R,e,hR⟩,hm⟩:=ha
 obtain ⟨X,eX⟩:=h.last n hn
 have h1:(R.reverse.find? fun u=>decide (u∈lineOf l y))=none:=by
  rw [List.find?_eq_none]
  intro u hu
  have:=hR u (List.mem_reverse.1 hu)
  simpa using this
 rw [aboveG,e,List.reverse_append,List.find?_append,h1,eX,List.reverse_append]
 simp [hm]
theorem Abv.of {l:List ClassD} (h:Hang l) {x y:Nat} (hx:x<l.length) (hy:y<l.length):Abv l x y (aboveG l x y):=by
 obtain ⟨n,hn⟩:=Abv.exists h hy x hx
 rw [hn.eq h]
 exact hn
theorem Abv.left {l:List ClassD} {x y n:Nat} (h:Hang l) (ha:Abv l x y n):n∈lineOf l x:=by
 obtain ⟨hn,⟨R,e,_⟩,_⟩:=ha
 rw [e]
 exact List.mem_append_left _ (h.self hn)
end Go.Proofs.YtcddpmappmjilaaGreatDoor
namespace Go.Proofs.YtcddpmappmjilaaGreatDoor
open Go.RowKit
def lnN (l:List ClassD) (s:ByteArray):List ByteArray:=((lineOf l (num l s).toNat).reverse).map fun n=>(clsAt l n).name
theorem num_get {l:List ClassD} (hn:askNames l=true) {s:ByteArray} (hs:0<=num l s):∃n,∃h:n<l.length,num l s=n/\l[n].name=s:=by
 have h1:=hasC_mem l s
 rw [decide_eq_true hs]at h1
 obtain ⟨c,hc,e⟩:=List.any_eq_true.1 h1.symm
 obtain ⟨n,h,rfl⟩:=List.getElem_of_mem hc
 have e':s=l[n].name:=by simpa using e
 exact ⟨n,h,by rw [e',num_own_get l hn n h],e'.symm⟩
theorem cls_link {l:List ClassD} (h:tieRes l=0):Cls (linkD l) (lnN l):=by
 obtain ⟨hn,ht,-,-,h5,-⟩:=tie_asks h
 have hg:=Hang.of h
 have hkt:0<=num l topName:=by
  have:=(Bool.and_eq_true _ _ ▸ ht:hasC l topName=true/\hasC l errName=true).1
  simpa [hasC]using this
 have hsup:∀n (h:n<l.length),((List.range l.length).map (supAt l))[n]'(by simpa using h)=supAt l n:=fun n h=>by simp
 have hnL:∀n (h:n<l.length),lnN l l[n].name=((lineOf l n).reverse).map fun k=>(clsAt l k).name:=fun n h=>by rw [lnN,num_own_get l hn n h];rfl
 refine ⟨by simp [linkD],fun s hs=>num_get hn hs,fun n hl=>?_,fun n hl=>num_own_get l hn n hl,fun n hl e=>?_,hkt⟩
 ·
  replace hl:n<l.length:=hl
  rcases hg.sup hl with ⟨hneg,-⟩ | ⟨m,e,hm⟩
  ·
   refine Or.inl ⟨?_,?_⟩
   ·
    refine (hsup n hl).trans ?_
    have:=(num_le l (clsAt l n).super).1
    have e:supAt l n=num l (clsAt l n).super:=rfl
    omega
   show lnN l l[n].name= [l[n].name]
   rw [hnL n hl,line_top hneg]
   simp [clsAt_eq hl]
  refine Or.inr ⟨m,hm,?_,?_,?_⟩
  ·
   exact (hsup n hl).trans e
  ·
   show l[n].super=l[m].name
   have e2:num l l[n].super=m:=by rw [<-e,supAt,clsAt_eq hl]
   obtain ⟨m',hm',e3,e4⟩:=num_get hn (s:=l[n].super) (by omega)
   obtain rfl:m'=m:=by omega
   exact e4.symm
  show lnN l l[n].name=l[n].name::lnN l l[m].name
  rw [hnL n hl,hnL m hm,(line_step h5 hl e).1]
  simp [clsAt_eq hl]
 have e':supAt l n= -1:=(hsup n hl).symm.trans e
 rcases hg.sup hl with ⟨-,e2⟩ | ⟨m,e2,-⟩
 ·
  obtain ⟨m,hm,e3,e4⟩:=num_get hn hkt
  obtain rfl:m=n:=by omega
  exact e4
 omega
theorem chk_link {l:List ClassD} (h:tieRes l=0):chkRes (linkD l) []=0:=by
 have:okLk (linkD l)=true:=by
  rw [okLk,Bool.and_eq_true,decide_eq_true_iff]
  exact ⟨h,makes_linkD l⟩
 rw [chkRes,if_pos this]
 rfl
end Go.Proofs.YtcddpmappmjilaaGreatDoor
