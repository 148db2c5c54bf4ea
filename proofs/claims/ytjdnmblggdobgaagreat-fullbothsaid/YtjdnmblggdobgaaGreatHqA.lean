import Derived.Test.YtjdnmblggdobgaaGreatJHsLHpT
import Derived.Test.YtjdnmblggdobgaaGreatJLLkLBas
namespace Go.Proofs.YtjdnmblggdobgaaGreat
open Go.Maps Go.RowKit List Or
variable {d:ax} {h:ar} {lo A D:Int} {ts:List bq}
theorem C0 {g:Nat} {e:Int} {a:Bool} {l:List QD} (h:d9 (⟨g,e,a⟩::l)=0) (A:e≠0):a=true/\d9 l=0:=by
 rw [d9]at h;cases a
 ·exact absurd (by simpa using h) A
 exact ⟨rfl,by simpa using h⟩
theorem zj6 {α:Type} {p:α->α->Bool} {l m:List α} (h:di p l m=true):l.length=m.length:=by
 by_cases e:l.length=m.length
 ·exact e
 rw [y9 p l m e]at h;cases h
theorem zj7 {α:Type} {p:α->α->Bool} :∀ {l m:List α},di p l m=true->∀k (h1:k<l.length) (h2:k<m.length),p l[k] m[k]=true
 | [],_,_,k,h1,_=>absurd h1 (by simp)
 | x::l,[],h,k,_,h2=>absurd h2 (by simp)
 | x::l,y::m,h,0,_,_=>by rw [di,Bool.and_eq_true]at h;exact h.1
 | x::l,y::m,h,k+1,h1,h2=>by rw [di,Bool.and_eq_true]at h;have:=zj7 h.2 k (by simpa using h1) (by simpa using h2);simpa using this
theorem zj8 {l:List aq} (h:ie l=0):ed l=0/\nk l=true:=by have hc:=zj1 h;rw [ie,if_pos hc]at h;obtain ⟨-,h⟩:=C0 h (by decide);obtain ⟨-,h⟩:=C0 h (by decide);obtain ⟨-,h⟩:=C0 h (by decide);obtain ⟨-,h⟩:=C0 h (by decide);obtain ⟨-,h⟩:=C0 h (by decide);obtain ⟨-,h⟩:=C0 h (by decide);obtain ⟨-,h⟩:=C0 h (by decide);obtain ⟨-,h⟩:=C0 h (by decide);obtain ⟨-,h⟩:=C0 h (by decide);obtain ⟨h,-⟩:=C0 h (by decide);exact ⟨hc,h⟩
structure B9 (d:ax):Prop where
 fl:d.fields.length=d.am.length
 fs:∀f∈d.fields,f.length<=12
 cn:d.am.length<=10
theorem Fu (h:qw d=true):B9 d:=by rw [qw,Bool.and_eq_true,decide_eq_true_iff]at h;obtain ⟨h1,A⟩:=h;obtain ⟨hc,D⟩:=zj8 h1;unfold sq at A;simp only [Bool.and_eq_true]at A;have F:=A.1.1.2;have G:=zj6 F;rw [length_map,length_range]at G;refine ⟨G.symm,fun f E=>?_,(zgd hc).1⟩;obtain ⟨k,J,rfl⟩:=mem_iff_getElem.1 E;have I:=zj6 (zj7 F k (by simp;omega) J);rw [getElem_map,getElem_range]at I;unfold nk at D;rw [Bool.and_eq_true,all_eq_true]at D;have:=of_decide_eq_true (D.1 k (mem_range.2 (by omega)));omega
def pv (l:List Int):Bool:=(range l.length).all fun j=>decide (0<j->wd l ((j:Int) - 1)<wd l j)
theorem zka (l:List Int):pv l=true↔nu l l.length:=by
 unfold pv nu;rw [all_eq_true];constructor
 ·intro h j h0 A;exact of_decide_eq_true (h j (mem_range.2 A)) h0
 intro h j A;exact decide_eq_true fun h0=>h j h0 (mem_range.1 A)
def mc (d:ax) (h:ar) (ts:List bq):Int:=
 if ts.any (jx h) then 3 else if !decide ((ts.map bq.hash).Nodup) then 6 else if ts.any (fun x=>fx d.fields h.ab x fun n=>!cq ts n) then 5
 else if (lj h).any (· != 0) then 1 else if !pv h.ap then 4 else if h.ap.any (ib d h ts) then 4 else if ts.any (iv d h) then 4 else 0
def oa (d:ax) (h:ar):Int:=
 if kj h then (if ju h then (if lq h then (match jh d h with | none=>1 | some ts=>mc d h ts) else 3) else 1) else 3
def cg (d:ax) (h:ar):Int:=if qw d then oa d h else 4
theorem zkb (D:B9 d) (h1:kj h=true) (A:ju h=true) (E:lq h=true):na d h:=by unfold kj jd at h1;unfold ju at A;unfold lq at E;simp only [Bool.and_eq_true,decide_eq_true_eq]at h1 A E;exact ⟨⟨by omega,by omega⟩,⟨by omega,by omega⟩,A,⟨by omega,by omega⟩,⟨by omega,by omega⟩,D.fl,fun f F=>lt3 (D.fs f F) (by omega),lt3 D.cn (by omega)⟩
def yf (d:ax) (h:ar) (lo top:Int) (t:bq):Prop:=lo<=t.loc/\t.fin<=top/\t=bp h.ab t.loc/\dx d.am.length t.tag=true/\da d.fields t.tag t.len=true
theorem zkd (d:ax) (h:ar) (A:Int):∀(f:Nat) (loc:Int) (ts:List bq),jp d.am.length d.fields h.ab A f loc=some ts->∀t∈ts,yf d h loc A t
 | 0,loc,ts,e,t,D=>by rw [jp]at e;cases e;cases D
 | f+1,loc,ts,e,t,D=>by
   rw [jp]at e;split at e
   ·split at e
    ·rename_i hr;have h1:=Cs hr;cases hx:jp d.am.length d.fields h.ab A f (bp h.ab loc).fin with
     | none=>rw [hx]at e;cases e
     | some ts'=>
       rw [hx]at e;cases e;rcases mem_cons.1 D with rfl | D
       ·exact ⟨Int.le_refl _,h1.2.1,rfl,h1.2.2.1,h1.2.2.2⟩
       have:=zkd d h A f _ ts' hx t D;exact ⟨by have:=this.1;omega,this.2⟩
    cases e
   cases e;cases D
theorem td (e:cw d.am.length d.fields h.ab A D=some ts):∀t∈ts,yf d h A D t:=zkd d h D _ A ts e
theorem Ab (e:jh d h=some ts):∃ys os,cw d.am.length d.fields h.ab 1 h.bk=some ys/\cw d.am.length d.fields h.ab (h.ae+1) h.be=some os/\ts=ys++os:=by
 unfold jh at e;cases h1:cw d.am.length d.fields h.ab 1 h.bk with
 | none=>rw [h1]at e;cases e
 | some ys=>
   rw [h1]at e;cases h2:cw d.am.length d.fields h.ab (h.ae+1) h.be with
   | none=>rw [h2]at e;cases e
   | some os=>
     rw [h2]at e;exact ⟨ys,os,rfl,rfl,(ojq e).symm⟩
theorem zkg {t:bq} (G:B9 d) (J:yf d h lo A t) (I:0<=lo) (L:A<=5000):qf d t:=by obtain ⟨h1,N,E,F,D⟩:=J;have h0:=yb D;have O:t.fin=t.loc+3+t.len:=rfl;unfold dx at F;simp only [Bool.and_eq_true,decide_eq_true_eq]at F;refine ⟨fun E=>?_,h0,by omega,by omega⟩;unfold da at D;rw [if_pos E]at D;exact ⟨by rw [G.fl];omega,of_decide_eq_true D⟩
theorem zkh (I:B9 d) (E:na d h) (J:∀x∈h.ab,(Lit.int .i64 x).wf=true) (e:jh d h=some ts):vw d h ts:=by
 obtain ⟨V,O,F,G,rfl⟩:=Ab e;have W:=E.ae;have X:=E.old;have Y:=E.len;have Z:=E.bk;have z5:=E.be;have L:=Fs (by omega) F;have N:=Fs (by omega) G;refine ⟨by rw [length_append];omega,by omega,J,fun t D=>?_⟩;rcases mem_append.1 D with D | D
 ·have A:=td F t D;exact ⟨zkg I A (by omega) (by omega),by have:=A.1;omega,by have:=A.2.1;omega⟩
 have A:=td G t D;exact ⟨zkg I A (by omega) (by omega),by have:=A.1;omega,by have:=A.2.1;omega⟩
theorem zki {l:List Int} (h:nu l l.length) {a b:Int} (D:∀x∈l,a<=x/\x<=b):(l.length:Int)<=b - a+1\/l.length=0:=by
 by_cases h0:l.length=0
 ·exact inr h0
 refine inl ?_;have key:∀k:Nat,k<l.length->wd l 0+k<=wd l k:=by
  intro k;induction k with
  | zero=>intro _;simp
  | succ k ih=>
    intro F;have h1:=ih (by omega);have A:=h (k+1) (by omega) F;rw [show ((k+1:Nat):Int) - 1=(k:Int) by omega]at A;omega
 have h1:=key (l.length - 1) (by omega);have A:wd l 0=l[0]'(by omega):=qm (i:=0) (by omega);have E:=qm (ws:=l) (i:=l.length - 1) (by omega);rw [A,E]at h1;have G:=(D _ (gm (l:=l) (n:=0) (by omega))).1;have I:=(D _ (gm (l:=l) (n:=l.length - 1) (by omega))).2;omega
theorem zkj (D:vw d h ts) (h1:pv h.ap=true) (F:h.ap.any (ib d h ts)=false):h.ap.length<=1000000:=by
 have I:=(zka _).1 h1;have:∀x∈h.ap,(0:Int)<=x/\x<=100000:=by
  intro x N;have A:ib d h ts x=false:=by
   cases A:ib d h ts x
   ·rfl
   rw [any_eq_true.2 ⟨x,N,A⟩]at F;cases F
  unfold ib at A;simp only [Bool.or_eq_false_iff]at A;have J:(mw ts x).isSome=true:=by simpa using A.1.1
  obtain ⟨t,L⟩:=Option.isSome_iff_exists.1 J;obtain ⟨E,rfl⟩:=Fr ts L;have:=(D.fit t E).1.loc;have G:=(D.fit t E).2.2;have O:=(D.fit t E).1.lo;have V:=D.ab;have W:t.fin=t.loc+3+t.len:=rfl;omega
 rcases zki I this with G | G<;>omega
end Go.Proofs.YtjdnmblggdobgaaGreat
