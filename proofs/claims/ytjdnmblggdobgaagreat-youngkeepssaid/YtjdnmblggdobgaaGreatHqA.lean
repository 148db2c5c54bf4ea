import Derived.Test.YtjdnmblggdobgaaGreatJHsLHpT
import Derived.Test.YtjdnmblggdobgaaGreatJLLkLBas
namespace Go.Proofs.YtjdnmblggdobgaaGreat
open Go.RowKit Go.Maps
theorem zke {g:Nat} {e:Int} {a:Bool} {l:List QD} (h:dr (⟨g,e,a⟩::l)=0) (A:e≠0):a=true/\dr l=0:=by
 rw [dr]at h;cases a with
 | true=>exact ⟨rfl,by simpa using h⟩
 | false=>exact absurd (by simpa using h) A
theorem zkf {α:Type} {p:α->α->Bool} {l m:List α} (h:cz p l m=true):l.length=m.length:=by
 by_cases e:l.length=m.length
 ·exact e
 rw [zd9 p l m e]at h;cases h
theorem zkg {α:Type} {p:α->α->Bool} :∀ {l m:List α},cz p l m=true->∀k (h1:k<l.length) (h2:k<m.length),p l[k] m[k]=true
 | [],_,_,k,h1,_=>absurd h1 (by simp)
 | x::l,[],h,k,_,h2=>absurd h2 (by simp)
 | x::l,y::m,h,0,_,_=>by rw [cz,Bool.and_eq_true]at h;exact h.1
 | x::l,y::m,h,k+1,h1,h2=>by rw [cz,Bool.and_eq_true]at h;have:=zkg h.2 k (by simpa using h1) (by simpa using h2);simpa using this
theorem zkh {l:List ap} (h:gf l=0):dt l=0/\kc l=true:=by have hc:=zka h;rw [gf,if_pos hc]at h;obtain ⟨-,h⟩:=zke h (by decide);obtain ⟨-,h⟩:=zke h (by decide);obtain ⟨-,h⟩:=zke h (by decide);obtain ⟨-,h⟩:=zke h (by decide);obtain ⟨-,h⟩:=zke h (by decide);obtain ⟨-,h⟩:=zke h (by decide);obtain ⟨-,h⟩:=zke h (by decide);obtain ⟨-,h⟩:=zke h (by decide);obtain ⟨-,h⟩:=zke h (by decide);obtain ⟨h,-⟩:=zke h (by decide);exact ⟨hc,h⟩
structure Few (d:bd):Prop where
 fl:d.fields.length=d.aj.length
 fs:∀f∈d.fields,f.length<=12
 cn:d.aj.length<=10
theorem zki {d:bd} (h:nh d=true):Few d:=by rw [nh,Bool.and_eq_true,decide_eq_true_iff]at h;obtain ⟨h1,A⟩:=h;obtain ⟨hc,D⟩:=zkh h1;unfold makesB at A;simp only [Bool.and_eq_true]at A;have F:=A.1.1.2;have G:=zkf F;rw [List.length_map,List.length_range]at G;refine ⟨G.symm,fun f E=>?_,(zgm hc).1⟩;obtain ⟨k,J,rfl⟩:=List.mem_iff_getElem.1 E;have I:=zkf (zkg F k (by simp;omega) J);rw [List.getElem_map,List.getElem_range]at I;unfold kc at D;rw [Bool.and_eq_true,List.all_eq_true]at D;have:=of_decide_eq_true (D.1 k (List.mem_range.2 (by omega)));omega
def lu (l:List Int):Bool:=(List.range l.length).all fun j=>decide (0<j->wd l ((j:Int) - 1)<wd l j)
theorem zkj (l:List Int):lu l=true↔kg l l.length:=by
 unfold lu kg;rw [List.all_eq_true];constructor
 ·intro h j h0 A;exact of_decide_eq_true (h j (List.mem_range.2 A)) h0
 intro h j A;exact decide_eq_true fun h0=>h j h0 (List.mem_range.1 A)
def jo (d:bd) (h:bb) (ts:List bp):Int:=
 if ts.any (i4 h) then 3 else if !decide ((ts.map bp.hash).Nodup) then 6 else if ts.any (fun x=>gc d.fields h.ab x fun n=>!dh ts n) then 5
 else if (jq h).any (· != 0) then 1 else if !lu h.am then 4 else if h.am.any (ga d h ts) then 4 else if ts.any (iq d h) then 4 else 0
def kj (d:bd) (h:bb):Int:=
 if jd h then (if i2 h then (if ju h then (match im d h with | none=>1 | some ts=>jo d h ts) else 3) else 1) else 3
def bq (d:bd) (h:bb):Int:=if nh d then kj d h else 4
theorem zkk {d:bd} {h:bb} (D:Few d) (h1:jd h=true) (A:i2 h=true) (E:ju h=true):jy d h:=by unfold jd ie at h1;unfold i2 at A;unfold ju at E;simp only [Bool.and_eq_true,decide_eq_true_eq]at h1 A E;exact ⟨⟨by omega,by omega⟩,⟨by omega,by omega⟩,A,⟨by omega,by omega⟩,⟨by omega,by omega⟩,D.fl,fun f F=>lt3 (D.fs f F) (by omega),lt3 D.cn (by omega)⟩
def ReadAt (d:bd) (h:bb) (lo top:Int) (t:bp):Prop:=lo<=t.loc/\t.fin<=top/\t=bj h.ab t.loc/\dw d.aj.length t.tag=true/\cq d.fields t.tag t.len=true
theorem zkm (d:bd) (h:bb) (A:Int):∀(f:Nat) (loc:Int) (ts:List bp),ir d.aj.length d.fields h.ab A f loc=some ts->∀t∈ts,ReadAt d h loc A t
 | 0,loc,ts,e,t,D=>by rw [ir]at e;cases e;cases D
 | f+1,loc,ts,e,t,D=>by
   rw [ir]at e;split at e
   ·split at e
    ·rename_i hr;have h1:=zep hr;cases hx:ir d.aj.length d.fields h.ab A f (bj h.ab loc).fin with
     | none=>rw [hx]at e;cases e
     | some ts'=>
       rw [hx]at e;cases e;rcases List.mem_cons.1 D with rfl | D
       ·exact ⟨Int.le_refl _,h1.2.1,rfl,h1.2.2.1,h1.2.2.2⟩
       have:=zkm d h A f _ ts' hx t D;exact ⟨by have:=this.1;omega,this.2⟩
    cases e
   cases e;cases D
theorem zkn {d:bd} {h:bb} {A D:Int} {ts:List bp} (e:cb d.aj.length d.fields h.ab A D=some ts):∀t∈ts,ReadAt d h A D t:=zkm d h D _ A ts e
theorem zko {d:bd} {h:bb} {ts:List bp} (e:im d h=some ts):∃ys os,cb d.aj.length d.fields h.ab 1 h.be=some ys/\cb d.aj.length d.fields h.ab (h.ag+1) h.ar=some os/\ts=ys++os:=by
 unfold im at e;cases h1:cb d.aj.length d.fields h.ab 1 h.be with
 | none=>rw [h1]at e;cases e
 | some ys=>
   rw [h1]at e;cases h2:cb d.aj.length d.fields h.ab (h.ag+1) h.ar with
   | none=>rw [h2]at e;cases e
   | some os=>
     rw [h2]at e;exact ⟨ys,os,rfl,rfl,(ojq e).symm⟩
theorem zkp {d:bd} {h:bb} {lo A:Int} {t:bp} (G:Few d) (J:ReadAt d h lo A t) (I:0<=lo) (L:A<=5000):lg d t:=by obtain ⟨h1,N,E,F,D⟩:=J;have h0:=zeo D;have O:t.fin=t.loc+3+t.len:=rfl;unfold dw at F;simp only [Bool.and_eq_true,decide_eq_true_eq]at F;refine ⟨fun E=>?_,h0,by omega,by omega⟩;unfold cq at D;rw [if_pos E]at D;exact ⟨by rw [G.fl];omega,of_decide_eq_true D⟩
theorem zkq {d:bd} {h:bb} {ts:List bp} (I:Few d) (E:jy d h) (J:∀x∈h.ab,(Lit.int .i64 x).wf=true) (e:im d h=some ts):Lain d h ts:=by
 obtain ⟨V,O,F,G,rfl⟩:=zko e;have W:=E.ag;have X:=E.old;have Y:=E.len;have Z:=E.be;have z5:=E.ar;have L:=zhn (by omega) F;have N:=zhn (by omega) G;refine ⟨by rw [List.length_append];omega,by omega,J,fun t D=>?_⟩;rcases List.mem_append.1 D with D | D
 ·have A:=zkn F t D;exact ⟨zkp I A (by omega) (by omega),by have:=A.1;omega,by have:=A.2.1;omega⟩
 have A:=zkn G t D;exact ⟨zkp I A (by omega) (by omega),by have:=A.1;omega,by have:=A.2.1;omega⟩
theorem zkr {l:List Int} (h:kg l l.length) {a b:Int} (D:∀x∈l,a<=x/\x<=b):(l.length:Int)<=b - a+1\/l.length=0:=by
 by_cases h0:l.length=0
 ·exact Or.inr h0
 refine Or.inl ?_;have key:∀k:Nat,k<l.length->wd l 0+k<=wd l k:=by
  intro k;induction k with
  | zero=>intro _;simp
  | succ k ih=>
    intro F;have h1:=ih (by omega);have A:=h (k+1) (by omega) F;rw [show ((k+1:Nat):Int) - 1=(k:Int) by omega]at A;omega
 have h1:=key (l.length - 1) (by omega);have A:wd l 0=l[0]'(by omega):=mw (i:=0) (by omega);have E:=mw (ws:=l) (i:=l.length - 1) (by omega);rw [A,E]at h1;have G:=(D _ (gm (l:=l) (n:=0) (by omega))).1;have I:=(D _ (gm (l:=l) (n:=l.length - 1) (by omega))).2;omega
theorem zks {d:bd} {h:bb} {ts:List bp} (D:Lain d h ts) (h1:lu h.am=true) (F:h.am.any (ga d h ts)=false):h.am.length<=1000000:=by
 have I:=(zkj _).1 h1;have:∀x∈h.am,(0:Int)<=x/\x<=100000:=by
  intro x N;have A:ga d h ts x=false:=by
   cases A:ga d h ts x with
   | false=>rfl
   | true=>rw [List.any_eq_true.2 ⟨x,N,A⟩]at F;cases F
  unfold ga at A;simp only [Bool.or_eq_false_iff]at A;have J:(km ts x).isSome=true:=by simpa using A.1.1
  obtain ⟨t,L⟩:=Option.isSome_iff_exists.1 J;obtain ⟨E,rfl⟩:=zie ts L;have:=(D.fit t E).1.loc;have G:=(D.fit t E).2.2;have O:=(D.fit t E).1.lo;have V:=D.ab;have W:t.fin=t.loc+3+t.len:=rfl;omega
 rcases zkr I this with G | G<;>omega
end Go.Proofs.YtjdnmblggdobgaaGreat
