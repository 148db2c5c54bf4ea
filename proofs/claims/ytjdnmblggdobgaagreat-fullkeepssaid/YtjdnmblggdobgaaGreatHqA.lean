import Derived.Test.YtjdnmblggdobgaaGreatJHsLHpT
import Derived.Test.YtjdnmblggdobgaaGreatJLLkLBas
namespace Go.Proofs.YtjdnmblggdobgaaGreat
open Go.RowKit Go.Maps
theorem zke {g:Nat} {e:Int} {a:Bool} {l:List QD} (h:dv (⟨g,e,a⟩::l)=0) (u:e≠0):a=true/\dv l=0:=by
 rw [dv]at h;cases a with
 | true=>exact ⟨rfl,by simpa using h⟩
 | false=>exact absurd (by simpa using h) u
theorem zkf {α:Type} {p:α->α->Bool} {l m:List α} (h:cz p l m=true):l.length=m.length:=by
 by_cases e:l.length=m.length
 ·exact e
 rw [zd9 p l m e]at h;cases h
theorem zkg {α:Type} {p:α->α->Bool} :∀ {l m:List α},cz p l m=true->∀k (h1:k<l.length) (h2:k<m.length),p l[k] m[k]=true
 | [],_,_,k,h1,_=>absurd h1 (by simp)
 | x::l,[],h,k,_,h2=>absurd h2 (by simp)
 | x::l,y::m,h,0,_,_=>by rw [cz,Bool.and_eq_true]at h;exact h.1
 | x::l,y::m,h,k+1,h1,h2=>by rw [cz,Bool.and_eq_true]at h;have:=zkg h.2 k (by simpa using h1) (by simpa using h2);simpa using this
theorem zkh {l:List am} (h:gj l=0):dt l=0/\la l=true:=by have hc:=zka h;rw [gj,if_pos hc]at h;obtain ⟨-,h⟩:=zke h (by decide);obtain ⟨-,h⟩:=zke h (by decide);obtain ⟨-,h⟩:=zke h (by decide);obtain ⟨-,h⟩:=zke h (by decide);obtain ⟨-,h⟩:=zke h (by decide);obtain ⟨-,h⟩:=zke h (by decide);obtain ⟨-,h⟩:=zke h (by decide);obtain ⟨-,h⟩:=zke h (by decide);obtain ⟨-,h⟩:=zke h (by decide);obtain ⟨h,-⟩:=zke h (by decide);exact ⟨hc,h⟩
structure Few (d:be):Prop where
 fl:d.fields.length=d.aj.length
 fs:∀f∈d.fields,f.length<=12
 cn:d.aj.length<=10
theorem zki {d:be} (h:o7 d=true):Few d:=by rw [o7,Bool.and_eq_true,decide_eq_true_iff]at h;obtain ⟨h1,u⟩:=h;obtain ⟨hc,A⟩:=zkh h1;unfold makesB at u;simp only [Bool.and_eq_true]at u;have E:=u.1.1.2;have F:=zkf E;rw [List.length_map,List.length_range]at F;refine ⟨F.symm,fun f D=>?_,(zgm hc).1⟩;obtain ⟨k,I,rfl⟩:=List.mem_iff_getElem.1 D;have G:=zkf (zkg E k (by simp;omega) I);rw [List.getElem_map,List.getElem_range]at G;unfold la at A;rw [Bool.and_eq_true,List.all_eq_true]at A;have:=of_decide_eq_true (A.1 k (List.mem_range.2 (by omega)));omega
def nb (l:List Int):Bool:=(List.range l.length).all fun j=>decide (0<j->wd l ((j:Int) - 1)<wd l j)
theorem zkj (l:List Int):nb l=true↔me l l.length:=by
 unfold nb me;rw [List.all_eq_true];constructor
 ·intro h j h0 u;exact of_decide_eq_true (h j (List.mem_range.2 u)) h0
 intro h j u;exact decide_eq_true fun h0=>h j h0 (List.mem_range.1 u)
def jw (d:be) (h:bd) (ts:List bp):Int:=
 if ts.any (iy h) then 3 else if !decide ((ts.map bp.hash).Nodup) then 6 else if ts.any (fun x=>fq d.fields h.ab x fun n=>!cw ts n) then 5
 else if (kf h).any (· != 0) then 1 else if !nb h.ap then 4 else if h.ap.any (gi d h ts) then 4 else if ts.any (il d h) then 4 else 0
def lq (d:be) (h:bd):Int:=
 if jg h then (if iv h then (if ju h then (match im d h with | none=>1 | some ts=>jw d h ts) else 3) else 1) else 3
def dm (d:be) (h:bd):Int:=if o7 d then lq d h else 4
theorem zkk {d:be} {h:bd} (A:Few d) (h1:jg h=true) (u:iv h=true) (D:ju h=true):mf d h:=by unfold jg ij at h1;unfold iv at u;unfold ju at D;simp only [Bool.and_eq_true,decide_eq_true_eq]at h1 u D;exact ⟨⟨by omega,by omega⟩,⟨by omega,by omega⟩,u,⟨by omega,by omega⟩,⟨by omega,by omega⟩,A.fl,fun f E=>lt3 (A.fs f E) (by omega),lt3 A.cn (by omega)⟩
def ReadAt (d:be) (h:bd) (lo top:Int) (t:bp):Prop:=lo<=t.loc/\t.fin<=top/\t=bj h.ab t.loc/\eo d.aj.length t.tag=true/\dh d.fields t.tag t.len=true
theorem zkm (d:be) (h:bd) (u:Int):∀(f:Nat) (loc:Int) (ts:List bp),iq d.aj.length d.fields h.ab u f loc=some ts->∀t∈ts,ReadAt d h loc u t
 | 0,loc,ts,e,t,A=>by rw [iq]at e;cases e;cases A
 | f+1,loc,ts,e,t,A=>by
   rw [iq]at e;split at e
   ·split at e
    ·rename_i hr;have h1:=zep hr;cases hx:iq d.aj.length d.fields h.ab u f (bj h.ab loc).fin with
     | none=>rw [hx]at e;cases e
     | some ts'=>
       rw [hx]at e;cases e;rcases List.mem_cons.1 A with rfl | A
       ·exact ⟨Int.le_refl _,h1.2.1,rfl,h1.2.2.1,h1.2.2.2⟩
       have:=zkm d h u f _ ts' hx t A;exact ⟨by have:=this.1;omega,this.2⟩
    cases e
   cases e;cases A
theorem zkn {d:be} {h:bd} {u A:Int} {ts:List bp} (e:b9 d.aj.length d.fields h.ab u A=some ts):∀t∈ts,ReadAt d h u A t:=zkm d h A _ u ts e
theorem zko {d:be} {h:bd} {ts:List bp} (e:im d h=some ts):∃ys os,b9 d.aj.length d.fields h.ab 1 h.bg=some ys/\b9 d.aj.length d.fields h.ab (h.ae+1) h.bk=some os/\ts=ys++os:=by
 unfold im at e;cases h1:b9 d.aj.length d.fields h.ab 1 h.bg with
 | none=>rw [h1]at e;cases e
 | some ys=>
   rw [h1]at e;cases h2:b9 d.aj.length d.fields h.ab (h.ae+1) h.bk with
   | none=>rw [h2]at e;cases e
   | some os=>
     rw [h2]at e;exact ⟨ys,os,rfl,rfl,(ojq e).symm⟩
theorem zkp {d:be} {h:bd} {lo u:Int} {t:bp} (F:Few d) (I:ReadAt d h lo u t) (G:0<=lo) (J:u<=5000):FitT d t:=by obtain ⟨h1,L,D,E,A⟩:=I;have h0:=zeo A;have N:t.fin=t.loc+3+t.len:=rfl;unfold eo at E;simp only [Bool.and_eq_true,decide_eq_true_eq]at E;refine ⟨fun D=>?_,h0,by omega,by omega⟩;unfold dh at A;rw [if_pos D]at A;exact ⟨by rw [F.fl];omega,of_decide_eq_true A⟩
theorem zkq {d:be} {h:bd} {ts:List bp} (G:Few d) (D:mf d h) (I:∀x∈h.ab,(Lit.int .i64 x).wf=true) (e:im d h=some ts):Lain d h ts:=by
 obtain ⟨O,N,E,F,rfl⟩:=zko e;have V:=D.ae;have W:=D.old;have X:=D.len;have Y:=D.bg;have Z:=D.bk;have J:=zhn (by omega) E;have L:=zhn (by omega) F;refine ⟨by rw [List.length_append];omega,by omega,I,fun t A=>?_⟩;rcases List.mem_append.1 A with A | A
 ·have u:=zkn E t A;exact ⟨zkp G u (by omega) (by omega),by have:=u.1;omega,by have:=u.2.1;omega⟩
 have u:=zkn F t A;exact ⟨zkp G u (by omega) (by omega),by have:=u.1;omega,by have:=u.2.1;omega⟩
theorem zkr {l:List Int} (h:me l l.length) {a b:Int} (A:∀x∈l,a<=x/\x<=b):(l.length:Int)<=b - a+1\/l.length=0:=by
 by_cases h0:l.length=0
 ·exact Or.inr h0
 refine Or.inl ?_;have key:∀k:Nat,k<l.length->wd l 0+k<=wd l k:=by
  intro k;induction k with
  | zero=>intro _;simp
  | succ k ih=>
    intro E;have h1:=ih (by omega);have u:=h (k+1) (by omega) E;rw [show ((k+1:Nat):Int) - 1=(k:Int) by omega]at u;omega
 have h1:=key (l.length - 1) (by omega);have u:wd l 0=l[0]'(by omega):=zen (i:=0) (by omega);have D:=zen (ws:=l) (i:=l.length - 1) (by omega);rw [u,D]at h1;have F:=(A _ (gm (l:=l) (n:=0) (by omega))).1;have G:=(A _ (gm (l:=l) (n:=l.length - 1) (by omega))).2;omega
theorem zks {d:be} {h:bd} {ts:List bp} (A:Lain d h ts) (h1:nb h.ap=true) (E:h.ap.any (gi d h ts)=false):h.ap.length<=1000000:=by
 have G:=(zkj _).1 h1;have:∀x∈h.ap,(0:Int)<=x/\x<=100000:=by
  intro x L;have u:gi d h ts x=false:=by
   cases u:gi d h ts x with
   | false=>rfl
   | true=>rw [List.any_eq_true.2 ⟨x,L,u⟩]at E;cases E
  unfold gi at u;simp only [Bool.or_eq_false_iff]at u;have I:(km ts x).isSome=true:=by simpa using u.1.1
  obtain ⟨t,J⟩:=Option.isSome_iff_exists.1 I;obtain ⟨D,rfl⟩:=zie ts J;have:=(A.fit t D).1.loc;have F:=(A.fit t D).2.2;have N:=(A.fit t D).1.lo;have O:=A.ab;have V:t.fin=t.loc+3+t.len:=rfl;omega
 rcases zkr G this with F | F<;>omega
end Go.Proofs.YtjdnmblggdobgaaGreat
