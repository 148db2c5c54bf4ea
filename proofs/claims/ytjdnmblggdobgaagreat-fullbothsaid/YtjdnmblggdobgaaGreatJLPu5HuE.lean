import Derived.Test.YtjdnmblggdobgaaGreatJLLvLLoP
import Derived.Test.YtjdnmblggdobgaaGreatJSameLRf6
import Derived.Test.YtjdnmblggdobgaaGreatJHtGHuC
import Derived.Test.YtjdnmblggdobgaaGreatJHrGHrP
namespace Go.Proofs.YtjdnmblggdobgaaGreat
open Go.RowKit List
variable {l:List aq} {g:Nat} {e:Int}
theorem zqr {s:ByteArray} (h:dm s=true):s≠⟨#[]⟩:=by rintro rfl;revert h;decide
theorem zqs {c:aq} (h:fb c=0):c.name≠⟨#[]⟩:=by unfold fb at h;exact zqr (xt h (by decide)).1
theorem zqt (h:ed l=0):num l ⟨#[]⟩<0:=by
 have h1:ng l ⟨#[]⟩=false:=by
  rw [ng,za6,any_eq_false];intro c hc;have A:fb c=0:=by unfold ed at h;exact Fq (xt h (by decide)).2 c hc
  have:=zqs A;simpa using fun e=>this e.symm
 simpa [ng]using h1
theorem few_q (E:dy l=true) (D:jf l=true):nk l=fp l (xm l):=by
 rw [nk,fp,Bool.eq_iff_iff,Bool.and_eq_true];simp only [all_eq_true,xm,Bool.and_eq_true];constructor
 ·rintro ⟨h1,F⟩ i hi;have A:=mem_range.1 hi;rw [zpe E D A,zpf E D A];exact ⟨h1 i hi,F i hi⟩
 intro h;refine ⟨fun i hi=>?_,fun i hi=>?_⟩
 ·have:=(h i hi).1;rwa [zpe E D (mem_range.1 hi)]at this
 have:=(h i hi).2;rwa [zpf E D (mem_range.1 hi)]at this
theorem C3 (h:db l=e) (A:e≠0):jy l=e:=by rw [jy,h,if_pos A]
theorem zqv (l:List aq):ie l=jy l:=by
 by_cases hc:ed l=0
 rotate_left
 ·rw [ie,if_neg hc];exact (C3 (by simp [db,hc]) hc).symm
 have A:=(zgd hc).2;rw [ie,if_pos hc];cases h1:dy l with
 | false=>rw [C3 (Aq hc (zot l ▸ h1)) (by decide)];simp [kv,d9,h1]
 | true=>
 have D:=zot l ▸ h1;cases h2:qn l with
 | false=>rw [C3 (lk2 hc D (zou l h1 ▸ h2)) (by decide)];simp [kv,d9,h1,h2]
 | true=>
 have E:=zou l h1 ▸ h2;cases h3:sp l with
 | false=>rw [C3 (zv hc D E (zov l ▸ h3)) (by decide)];simp [kv,d9,h1,h2,h3]
 | true=>
 have F:=zov l ▸ h3;cases h4:np l with
 | false=>rw [C3 (Ef hc D E F (zow l h1 ▸ h4)) (by decide)];simp [kv,d9,h1,h2,h3,h4]
 | true=>
 have G:=zow l h1 ▸ h4;cases h5:jf l with
 | false=>rw [C3 (lk5 hc D E F G (zpc l h1 ▸ h5)) (by decide)];simp [kv,d9,h1,h2,h3,h4,h5]
 | true=>
 have I:=zpc l h1 ▸ h5;cases h6:mt l with
 | false=>rw [C3 (lk6 hc D E F G I (zpj h1 h5 h2 A ▸ h6)) (by decide)];simp [kv,d9,h1,h2,h3,h4,h5,h6]
 | true=>
 have J:=zpj h1 h5 h2 A ▸ h6;cases h7:ub l with
 | false=>rw [C3 (lk7 hc D E F G I J (zo0 l h1 ▸ h7)) (by decide)];simp [kv,d9,h1,h2,h3,h4,h5,h6,h7]
 | true=>
 have L:=zo0 l h1 ▸ h7;cases h8:kd l with
 | false=>rw [C3 (lk8 hc D E F G I J L (zpk h1 h5 ▸ h8)) (by decide)];simp [kv,d9,h1,h2,h3,h4,h5,h6,h7,h8]
 | true=>
 have N:=zpk h1 h5 ▸ h8;cases h9:ny l with
 | false=>rw [C3 (lk9 hc D E F G I J L N (zp4 h1 h4 h5 h8 (zqt hc) ▸ h9)) (by decide)];simp [kv,d9,h1,h2,h3,h4,h5,h6,h7,h8,h9]
 | true=>
 have O:=zp4 h1 h4 h5 h8 (zqt hc) ▸ h9;rw [jy,lk10 hc D E F G I J L N O,<-few_q h1 h5];cases h10:nk l<;>simp [kv,d9,h1,h2,h3,h4,h5,h6,h7,h8,h9,h10]
theorem C4 {a:Bool} {l:List QD} (h:d9 (⟨g,e,a⟩::l)=0) (A:e≠0):a=true/\d9 l=0:=by
 rw [d9]at h;cases a
 ·exact absurd (by simpa using h) A
 exact ⟨rfl,by simpa using h⟩
theorem zqx (h:ie l=0):dy l=true/\qn l=true/\sp l=true/\np l=true/\jf l=true/\mt l=true/\ub l=true/\kd l=true/\ny l=true/\nk l=true:=by have hc:=zj1 h;rw [ie,if_pos hc]at h;obtain ⟨h1,h⟩:=C4 h (by decide);obtain ⟨D,h⟩:=C4 h (by decide);obtain ⟨E,h⟩:=C4 h (by decide);obtain ⟨F,h⟩:=C4 h (by decide);obtain ⟨G,h⟩:=C4 h (by decide);obtain ⟨I,h⟩:=C4 h (by decide);obtain ⟨J,h⟩:=C4 h (by decide);obtain ⟨L,h⟩:=C4 h (by decide);obtain ⟨N,h⟩:=C4 h (by decide);obtain ⟨A,-⟩:=C4 h (by decide);exact ⟨h1,D,E,F,G,I,J,L,N,A⟩
theorem zqy (h:ie l=0):kg l=qz l:=by
 obtain ⟨h1,-,-,-,A,-⟩:=zqx h;have D:(range l.length).map (dv l)=(range l.length).map fun i=>cd l (cz l i).b9:=map_congr_left fun i _=>C2 l _ h1;have E:(range l.length).map (fieldsOf l)=(range l.length).map (ni l):=map_congr_left fun i hi=>(zpe h1 A (mem_range.1 hi)).symm;have F:(range l.length).map (fg l)=(range l.length).map fun i=>(kw l i).1:=map_congr_left fun i hi=>by rw [zpf h1 A (mem_range.1 hi)];rfl
 have G:(range l.length).map (fd l)=(range l.length).map fun i=>(kw l i).2:=map_congr_left fun i hi=>by rw [zpf h1 A (mem_range.1 hi)];rfl
 rw [kg,qz,D,E,F,G]
section
open Go.Maps
theorem E1 {α:Type} {p:α->α->Bool} (h:∀x y,p x y=p y x):∀l m:List α,di p l m=di p m l
 | [],[]=>rfl
 | [],_::_=>rfl
 | _::_,[]=>rfl
 | x::l,y::m=>by rw [di,di,h,E1 h l m]
theorem zq0 (x y:fw):ep x y=ep y x:=by rw [Bool.eq_iff_iff,zpl,zpl];exact ⟨Eq.symm,Eq.symm⟩
theorem zq1 (d e:ax):gj d e=gj e d:=by rw [gj,gj,E1 (fun x y=>by rw [Bool.eq_iff_iff,gc,gc,beq_iff_eq,beq_iff_eq];exact eq_comm) d.bj,E1 (E1 fun x y=>by simp only [fq];rw [zq0 x.kind,decide_eq_decide.2 eq_comm]) d.fields,E1 (E1 fun x y=>by rw [Bool.eq_iff_iff,gn,gn,beq_iff_eq,beq_iff_eq];exact eq_comm) d.names,E1 (E1 fun x y=>by rw [Bool.eq_iff_iff,ga,ga,Bool.and_eq_true,Bool.and_eq_true,beq_iff_eq,beq_iff_eq,beq_iff_eq,beq_iff_eq,eq_comm (a:=x.dj),eq_comm (a:=x.uf)]) d.ba]
def nb (d:ax):Int:=if jy d.am=0/\gj d (qz d.am)=true then 0 else 4
theorem zq2 (d:ax):nb d=iq d []:=by
 have e:qw d=true↔(jy d.am=0/\gj d (qz d.am)=true):=by
  rw [qw,Bool.and_eq_true,decide_eq_true_iff,zqv];constructor
  ·rintro ⟨h1,A⟩;refine ⟨h1,?_⟩;rw [<-zqy ((zqv _).trans h1),zq1];exact A
  rintro ⟨h1,A⟩;refine ⟨h1,?_⟩;rw [<-zqy ((zqv _).trans h1),zq1]at A;exact A
 unfold nb iq;by_cases h:qw d=true
 ·rw [if_pos (e.1 h),if_pos h];rfl
 rw [if_neg (fun D=>h (e.2 D)),if_neg h]
end
end Go.Proofs.YtjdnmblggdobgaaGreat
