import Derived.Test.YtjdnmblggdobgaaGreatJHsLHpT
import Derived.Test.YtjdnmblggdobgaaGreatJLLkLBas
namespace Go.Proofs.YtjdnmblggdobgaaGreat
open Go.RowKit Go.Maps
theorem Ci {g:Nat} {e:Int} {a:Bool} {l:List QD} (h:dx (⟨g,e,a⟩::l)=0) (A:e≠0):a=true/\dx l=0:=by
 rw [dx]at h;cases a with
 | true=>exact ⟨rfl,by simpa using h⟩
 | false=>exact absurd (by simpa using h) A
theorem zkf {α:Type} {p:α->α->Bool} {l m:List α} (h:db p l m=true):l.length=m.length:=by
 by_cases e:l.length=m.length
 ·exact e
 rw [xt p l m e]at h;cases h
theorem zkg {α:Type} {p:α->α->Bool} :∀ {l m:List α},db p l m=true->∀k (h1:k<l.length) (h2:k<m.length),p l[k] m[k]=true
 | [],_,_,k,h1,_=>absurd h1 (by simp)
 | x::l,[],h,k,_,h2=>absurd h2 (by simp)
 | x::l,y::m,h,0,_,_=>by rw [db,Bool.and_eq_true]at h;exact h.1
 | x::l,y::m,h,k+1,h1,h2=>by rw [db,Bool.and_eq_true]at h;have:=zkg h.2 k (by simpa using h1) (by simpa using h2);simpa using this
theorem zkh {l:List aq} (h:gw l=0):dy l=0/\mu l=true:=by have hc:=zka h;rw [gw,if_pos hc]at h;obtain ⟨-,h⟩:=Ci h (by decide);obtain ⟨-,h⟩:=Ci h (by decide);obtain ⟨-,h⟩:=Ci h (by decide);obtain ⟨-,h⟩:=Ci h (by decide);obtain ⟨-,h⟩:=Ci h (by decide);obtain ⟨-,h⟩:=Ci h (by decide);obtain ⟨-,h⟩:=Ci h (by decide);obtain ⟨-,h⟩:=Ci h (by decide);obtain ⟨-,h⟩:=Ci h (by decide);obtain ⟨h,-⟩:=Ci h (by decide);exact ⟨hc,h⟩
structure Cu (d:bd):Prop where
 fl:d.fields.length=d.aj.length
 fs:∀f∈d.fields,f.length<=12
 cn:d.aj.length<=10
theorem Ds {d:bd} (h:ql d=true):Cu d:=by rw [ql,Bool.and_eq_true,decide_eq_true_iff]at h;obtain ⟨h1,A⟩:=h;obtain ⟨hc,D⟩:=zkh h1;unfold rp at A;simp only [Bool.and_eq_true]at A;have F:=A.1.1.2;have G:=zkf F;rw [List.length_map,List.length_range]at G;refine ⟨G.symm,fun f E=>?_,(zgm hc).1⟩;obtain ⟨k,J,rfl⟩:=List.mem_iff_getElem.1 E;have I:=zkf (zkg F k (by simp;omega) J);rw [List.getElem_map,List.getElem_range]at I;unfold mu at D;rw [Bool.and_eq_true,List.all_eq_true]at D;have:=of_decide_eq_true (D.1 k (List.mem_range.2 (by omega)));omega
def pd (l:List Int):Bool:=(List.range l.length).all fun j=>decide (0<j->wd l ((j:Int) - 1)<wd l j)
theorem zkj (l:List Int):pd l=true↔na l l.length:=by
 unfold pd na;rw [List.all_eq_true];constructor
 ·intro h j h0 A;exact of_decide_eq_true (h j (List.mem_range.2 A)) h0
 intro h j A;exact decide_eq_true fun h0=>h j h0 (List.mem_range.1 A)
def kw (d:bd) (h:ar) (ts:List bk):Int:=
 if ts.any (jd h) then 3 else if !decide ((ts.map bk.hash).Nodup) then 6 else if ts.any (fun x=>ep d.fields h.ab x fun n=>!b8 ts n) then 5
 else if (km h).any (· != 0) then 1 else if !pd h.am then 4 else if h.am.any (fh d h ts) then 4 else if ts.any (ia d h) then 4 else 0
def ng (d:bd) (h:ar):Int:=
 if j6 h then (if jg h then (if jx h then (match io d h with | none=>1 | some ts=>kw d h ts) else 3) else 1) else 3
def dt (d:bd) (h:ar):Int:=if ql d then ng d h else 4
theorem zkk {d:bd} {h:ar} (D:Cu d) (h1:j6 h=true) (A:jg h=true) (E:jx h=true):nj d h:=by unfold j6 jb at h1;unfold jg at A;unfold jx at E;simp only [Bool.and_eq_true,decide_eq_true_eq]at h1 A E;exact ⟨⟨by omega,by omega⟩,⟨by omega,by omega⟩,A,⟨by omega,by omega⟩,⟨by omega,by omega⟩,D.fl,fun f F=>lt3 (D.fs f F) (by omega),lt3 D.cn (by omega)⟩
def xd (d:bd) (h:ar) (lo top:Int) (t:bk):Prop:=lo<=t.loc/\t.fin<=top/\t=bj h.ab t.loc/\dq d.aj.length t.tag=true/\cg d.fields t.tag t.len=true
theorem zkm (d:bd) (h:ar) (A:Int):∀(f:Nat) (loc:Int) (ts:List bk),jj d.aj.length d.fields h.ab A f loc=some ts->∀t∈ts,xd d h loc A t
 | 0,loc,ts,e,t,D=>by rw [jj]at e;cases e;cases D
 | f+1,loc,ts,e,t,D=>by
   rw [jj]at e;split at e
   ·split at e
    ·rename_i hr;have h1:=Ay hr;cases hx:jj d.aj.length d.fields h.ab A f (bj h.ab loc).fin with
     | none=>rw [hx]at e;cases e
     | some ts'=>
       rw [hx]at e;cases e;rcases List.mem_cons.1 D with rfl | D
       ·exact ⟨Int.le_refl _,h1.2.1,rfl,h1.2.2.1,h1.2.2.2⟩
       have:=zkm d h A f _ ts' hx t D;exact ⟨by have:=this.1;omega,this.2⟩
    cases e
   cases e;cases D
theorem sc {d:bd} {h:ar} {A D:Int} {ts:List bk} (e:b9 d.aj.length d.fields h.ab A D=some ts):∀t∈ts,xd d h A D t:=zkm d h D _ A ts e
theorem xu {d:bd} {h:ar} {ts:List bk} (e:io d h=some ts):∃ys os,b9 d.aj.length d.fields h.ab 1 h.bo=some ys/\b9 d.aj.length d.fields h.ab (h.ae+1) h.ba=some os/\ts=ys++os:=by
 unfold io at e;cases h1:b9 d.aj.length d.fields h.ab 1 h.bo with
 | none=>rw [h1]at e;cases e
 | some ys=>
   rw [h1]at e;cases h2:b9 d.aj.length d.fields h.ab (h.ae+1) h.ba with
   | none=>rw [h2]at e;cases e
   | some os=>
     rw [h2]at e;exact ⟨ys,os,rfl,rfl,(ojq e).symm⟩
theorem zkp {d:bd} {h:ar} {lo A:Int} {t:bk} (G:Cu d) (J:xd d h lo A t) (I:0<=lo) (L:A<=5000):pm d t:=by obtain ⟨h1,N,E,F,D⟩:=J;have h0:=vd D;have O:t.fin=t.loc+3+t.len:=rfl;unfold dq at F;simp only [Bool.and_eq_true,decide_eq_true_eq]at F;refine ⟨fun E=>?_,h0,by omega,by omega⟩;unfold cg at D;rw [if_pos E]at D;exact ⟨by rw [G.fl];omega,of_decide_eq_true D⟩
theorem zkq {d:bd} {h:ar} {ts:List bk} (I:Cu d) (E:nj d h) (J:∀x∈h.ab,(Lit.int .i64 x).wf=true) (e:io d h=some ts):ul d h ts:=by
 obtain ⟨V,O,F,G,rfl⟩:=xu e;have W:=E.ae;have X:=E.old;have Y:=E.len;have Z:=E.bo;have z5:=E.ba;have L:=Dq (by omega) F;have N:=Dq (by omega) G;refine ⟨by rw [List.length_append];omega,by omega,J,fun t D=>?_⟩;rcases List.mem_append.1 D with D | D
 ·have A:=sc F t D;exact ⟨zkp I A (by omega) (by omega),by have:=A.1;omega,by have:=A.2.1;omega⟩
 have A:=sc G t D;exact ⟨zkp I A (by omega) (by omega),by have:=A.1;omega,by have:=A.2.1;omega⟩
theorem zkr {l:List Int} (h:na l l.length) {a b:Int} (D:∀x∈l,a<=x/\x<=b):(l.length:Int)<=b - a+1\/l.length=0:=by
 by_cases h0:l.length=0
 ·exact Or.inr h0
 refine Or.inl ?_;have key:∀k:Nat,k<l.length->wd l 0+k<=wd l k:=by
  intro k;induction k with
  | zero=>intro _;simp
  | succ k ih=>
    intro F;have h1:=ih (by omega);have A:=h (k+1) (by omega) F;rw [show ((k+1:Nat):Int) - 1=(k:Int) by omega]at A;omega
 have h1:=key (l.length - 1) (by omega);have A:wd l 0=l[0]'(by omega):=pi (i:=0) (by omega);have E:=pi (ws:=l) (i:=l.length - 1) (by omega);rw [A,E]at h1;have G:=(D _ (gm (l:=l) (n:=0) (by omega))).1;have I:=(D _ (gm (l:=l) (n:=l.length - 1) (by omega))).2;omega
theorem zks {d:bd} {h:ar} {ts:List bk} (D:ul d h ts) (h1:pd h.am=true) (F:h.am.any (fh d h ts)=false):h.am.length<=1000000:=by
 have I:=(zkj _).1 h1;have:∀x∈h.am,(0:Int)<=x/\x<=100000:=by
  intro x N;have A:fh d h ts x=false:=by
   cases A:fh d h ts x with
   | false=>rfl
   | true=>rw [List.any_eq_true.2 ⟨x,N,A⟩]at F;cases F
  unfold fh at A;simp only [Bool.or_eq_false_iff]at A;have J:(j9 ts x).isSome=true:=by simpa using A.1.1
  obtain ⟨t,L⟩:=Option.isSome_iff_exists.1 J;obtain ⟨E,rfl⟩:=Dr ts L;have:=(D.fit t E).1.loc;have G:=(D.fit t E).2.2;have O:=(D.fit t E).1.lo;have V:=D.ab;have W:t.fin=t.loc+3+t.len:=rfl;omega
 rcases zkr I this with G | G<;>omega
end Go.Proofs.YtjdnmblggdobgaaGreat
