import Derived.Test.YtjdnmblggdobgaaGreatJLLvLLoP
import Derived.Test.YtjdnmblggdobgaaGreatJSameLRf6
import Derived.Test.YtjdnmblggdobgaaGreatJHtGHuC
import Derived.Test.YtjdnmblggdobgaaGreatHrG
namespace Go.Proofs.YtjdnmblggdobgaaGreat
open Go.RowKit
theorem zq1 {s:ByteArray} (h:dc s=true):s≠⟨#[]⟩:=by rintro rfl;revert h;decide
theorem zq2 {c:aq} (h:ev c=0):c.name≠⟨#[]⟩:=by unfold ev at h;exact zq1 (wb h (by decide)).1
theorem zq3 {l:List aq} (h:dy l=0):num l ⟨#[]⟩<0:=by
 have h1:mm l ⟨#[]⟩=false:=by
  rw [mm,za6,List.any_eq_false];intro c hc;have A:ev c=0:=by unfold dy at h;exact Fj (wb h (by decide)).2 c hc
  have:=zq2 A;simpa using fun e=>this e.symm
 simpa [mm]using h1
theorem few_q {l:List aq} (E:dr l=true) (D:jc l=true):mu l=fg l (vp l):=by
 rw [mu,fg,Bool.eq_iff_iff,Bool.and_eq_true];simp only [List.all_eq_true,vp,Bool.and_eq_true];constructor
 ·rintro ⟨h1,F⟩ i hi;have A:=List.mem_range.1 hi;rw [zpo E D A,zpp E D A];exact ⟨h1 i hi,F i hi⟩
 intro h;refine ⟨fun i hi=>?_,fun i hi=>?_⟩
 ·have:=(h i hi).1;rwa [zpo E D (List.mem_range.1 hi)]at this
 have:=(h i hi).2;rwa [zpp E D (List.mem_range.1 hi)]at this
theorem Cl {l:List aq} {e:Int} (h:cq l=e) (A:e≠0):jq l=e:=by rw [jq,h,if_pos A]
theorem zq5 (l:List aq):gw l=jq l:=by
 by_cases hc:dy l=0
 rotate_left
 ·rw [gw,if_neg hc];exact (Cl (by simp [cq,hc]) hc).symm
 have A:=(zgm hc).2;rw [gw,if_pos hc];cases h1:dr l with
 | false=>rw [Cl (xn hc (zo3 l ▸ h1)) (by decide)];simp [kf,dx,h1]
 | true=>
 have D:=zo3 l ▸ h1;cases h2:qb l with
 | false=>rw [Cl (lk2 hc D (zo4 l h1 ▸ h2)) (by decide)];simp [kf,dx,h1,h2]
 | true=>
 have E:=zo4 l h1 ▸ h2;cases h3:ri l with
 | false=>rw [Cl (C8 hc D E (zo5 l ▸ h3)) (by decide)];simp [kf,dx,h1,h2,h3]
 | true=>
 have F:=zo5 l ▸ h3;cases h4:mw l with
 | false=>rw [Cl (Ea hc D E F (zo6 l h1 ▸ h4)) (by decide)];simp [kf,dx,h1,h2,h3,h4]
 | true=>
 have G:=zo6 l h1 ▸ h4;cases h5:jc l with
 | false=>rw [Cl (lk5 hc D E F G (zpm l h1 ▸ h5)) (by decide)];simp [kf,dx,h1,h2,h3,h4,h5]
 | true=>
 have I:=zpm l h1 ▸ h5;cases h6:lq l with
 | false=>rw [Cl (lk6 hc D E F G I (zpt h1 h5 h2 A ▸ h6)) (by decide)];simp [kf,dx,h1,h2,h3,h4,h5,h6]
 | true=>
 have J:=zpt h1 h5 h2 A ▸ h6;cases h7:sq l with
 | false=>rw [Cl (lk7 hc D E F G I J (zpa l h1 ▸ h7)) (by decide)];simp [kf,dx,h1,h2,h3,h4,h5,h6,h7]
 | true=>
 have L:=zpa l h1 ▸ h7;cases h8:ju l with
 | false=>rw [Cl (lk8 hc D E F G I J L (zpu h1 h5 ▸ h8)) (by decide)];simp [kf,dx,h1,h2,h3,h4,h5,h6,h7,h8]
 | true=>
 have N:=zpu h1 h5 ▸ h8;cases h9:nf l with
 | false=>rw [Cl (lk9 hc D E F G I J L N (zqe h1 h4 h5 h8 (zq3 hc) ▸ h9)) (by decide)];simp [kf,dx,h1,h2,h3,h4,h5,h6,h7,h8,h9]
 | true=>
 have O:=zqe h1 h4 h5 h8 (zq3 hc) ▸ h9;rw [jq,lk10 hc D E F G I J L N O,<-few_q h1 h5];cases h10:mu l<;>simp [kf,dx,h1,h2,h3,h4,h5,h6,h7,h8,h9,h10]
theorem Cm {g:Nat} {e:Int} {a:Bool} {l:List QD} (h:dx (⟨g,e,a⟩::l)=0) (A:e≠0):a=true/\dx l=0:=by
 rw [dx]at h;cases a with
 | true=>exact ⟨rfl,by simpa using h⟩
 | false=>exact absurd (by simpa using h) A
theorem zq7 {l:List aq} (h:gw l=0):dr l=true/\qb l=true/\ri l=true/\mw l=true/\jc l=true/\lq l=true/\sq l=true/\ju l=true/\nf l=true/\mu l=true:=by have hc:=zka h;rw [gw,if_pos hc]at h;obtain ⟨h1,h⟩:=Cm h (by decide);obtain ⟨D,h⟩:=Cm h (by decide);obtain ⟨E,h⟩:=Cm h (by decide);obtain ⟨F,h⟩:=Cm h (by decide);obtain ⟨G,h⟩:=Cm h (by decide);obtain ⟨I,h⟩:=Cm h (by decide);obtain ⟨J,h⟩:=Cm h (by decide);obtain ⟨L,h⟩:=Cm h (by decide);obtain ⟨N,h⟩:=Cm h (by decide);obtain ⟨A,-⟩:=Cm h (by decide);exact ⟨h1,D,E,F,G,I,J,L,N,A⟩
theorem zq8 {l:List aq} (h:gw l=0):qi l=qn l:=by
 obtain ⟨h1,-,-,-,A,-⟩:=zq7 h;have D:(List.range l.length).map (dj l)=(List.range l.length).map fun i=>cb l (cd l i).bv:=List.map_congr_left fun i _=>Cj l _ h1;have E:(List.range l.length).map (fieldsOf l)=(List.range l.length).map (mq l):=List.map_congr_left fun i hi=>(zpo h1 A (List.mem_range.1 hi)).symm;have F:(List.range l.length).map (fb l)=(List.range l.length).map fun i=>(kg l i).1:=List.map_congr_left fun i hi=>by rw [zpp h1 A (List.mem_range.1 hi)];rfl
 have G:(List.range l.length).map (ew l)=(List.range l.length).map fun i=>(kg l i).2:=List.map_congr_left fun i hi=>by rw [zpp h1 A (List.mem_range.1 hi)];rfl
 rw [qi,qn,D,E,F,G]
end Go.Proofs.YtjdnmblggdobgaaGreat
namespace Go.Proofs.YtjdnmblggdobgaaGreat
open Go.RowKit Go.Maps
theorem Er {α:Type} {p:α->α->Bool} (h:∀x y,p x y=p y x):∀l m:List α,db p l m=db p m l
 | [],[]=>rfl
 | [],_::_=>rfl
 | _::_,[]=>rfl
 | x::l,y::m=>by rw [db,db,h,Er h l m]
theorem zra (x y:fm):d7 x y=d7 y x:=by rw [Bool.eq_iff_iff,zpv,zpv];exact ⟨Eq.symm,Eq.symm⟩
theorem zrb (d e:bd):ge d e=ge e d:=by rw [ge,ge,Er (fun x y=>by rw [Bool.eq_iff_iff,f9,f9,beq_iff_eq,beq_iff_eq];exact eq_comm) d.bg,Er (Er fun x y=>by simp only [fp];rw [zra x.kind,decide_eq_decide.2 eq_comm]) d.fields,Er (Er fun x y=>by rw [Bool.eq_iff_iff,gh,gh,beq_iff_eq,beq_iff_eq];exact eq_comm) d.names,Er (Er fun x y=>by rw [Bool.eq_iff_iff,fx,fx,Bool.and_eq_true,Bool.and_eq_true,beq_iff_eq,beq_iff_eq,beq_iff_eq,beq_iff_eq,eq_comm (a:=x.de),eq_comm (a:=x.s9)]) d.ax]
def me (d:bd):Int:=if jq d.aj=0/\ge d (qn d.aj)=true then 0 else 4
theorem zrc (d:bd):me d=il d []:=by
 have e:ql d=true↔(jq d.aj=0/\ge d (qn d.aj)=true):=by
  rw [ql,Bool.and_eq_true,decide_eq_true_iff,zq5];constructor
  ·rintro ⟨h1,A⟩;refine ⟨h1,?_⟩;rw [<-zq8 ((zq5 _).trans h1),zrb];exact A
  rintro ⟨h1,A⟩;refine ⟨h1,?_⟩;rw [<-zq8 ((zq5 _).trans h1),zrb]at A;exact A
 unfold me il;by_cases h:ql d=true
 ·rw [if_pos (e.1 h),if_pos h];rfl
 rw [if_neg (fun D=>h (e.2 D)),if_neg h]

end Go.Proofs.YtjdnmblggdobgaaGreat
