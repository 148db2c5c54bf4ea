import Derived.Test.YtjdnmblggdobgaaGreatJTilHvE
set_option maxHeartbeats 2000000
set_option maxRecDepth 100000
namespace Go.Proofs.YtjdnmblggdobgaaGreat
open Go.Maps Go.RowKit Tryz List Or World
variable {d:ax} (w:World) (P X B:Nat) {ws:List Int} {A n off:Nat} {l:List Int} {a i:Int}
theorem zrr (c:Value) (G:Option Addr) (n I:Nat):
 Calls prog 135 #[.agg #[c,.slice G n I]] w fun r w'=>r=.returned (.bool (decide ((n:Int)<=1000)))/\Bl w w':=by
 obtain ⟨N,D,A,J,L⟩:=jq w #[c,.slice G n I] 188;have E:=aj A;have F:=aj D;have O:=bg L 1 (x:=.slice G n I) rfl;have V:=bz L;clear D L A J;go_enter func135,ntmps135;go_wp2_with fail;rw [<-F.o];go_wp2_with fail;go_ret;exact ⟨rfl,E.o⟩
theorem zrs (D:Option Addr) (n E:Nat) (A ot:Int) (F:w.cell? ⟨P,0,none⟩=some (.slice D n E)) (G:w.cell? ⟨P,3,none⟩=some (.i A)) (I:w.cell? ⟨P,4,none⟩=some (.i ot)) (h1:n<=1000000) (J:0<=A/\A<=1000000) (L:0<=ot/\ot<=1000000):
 Calls prog 83 #[.p P] w fun r w'=>r=.returned (.i ((n:Int) - ot - (A - 1)))/\∃q,w'=w.drewN q:=by
 have N:IntKind.i64.wrap ((n:Int) - ot)=(n:Int) - ot:=by rw [IntKind.wrap_i64];omega
 have O:IntKind.i64.wrap (A - 1)=A - 1:=by rw [IntKind.wrap_i64];omega
 have V:IntKind.i64.wrap ((n:Int) - ot - (A - 1))=(n:Int) - ot - (A - 1):=by rw [IntKind.wrap_i64];omega
 go_enter func83,ntmps83;go_wp2_with fail;go_quiet (fail);go_wp2_with fail;go_ret;exact ⟨rfl,_,rfl⟩
theorem zrt (W V G L I J N O:Value) (h:ar) (d:ax) (ts:List bq) (hc:qc X B w W V G L I J N O h d ts) (P:Nat) (Y:w.cell? ⟨P,0,none⟩=some (.p (X+1))) (x:Int) (E:(Lit.int .i64 x).wf=true):
 Calls prog 189 #[.i x,.p P] w fun r w'=>r=.returned (.bool (!cq ts x))/\Bl w w':=by
 have D:=aj (zhm w X B _ _ _ _ _ _ _ _ h d ts hc x E);clear hc E;go_enter func189,ntmps189;go_wp2_with fail;refine D.o.mono ?_;rintro r Z ⟨rfl,A⟩;have F:=aj A;clear A D;go_wp2_with fail;go_ret;exact ⟨rfl,F.o⟩
theorem zru (C:Nat) (vW vO kC kS kF kN kT vA:Value) (h:ar) (d:ax) (ts:List bq) (hc:qc X B w vW vO kC kS kF kN kT vA h d ts) (D:Value) (rs:List Int) (hs:SL 1 RI (· <C) w D rs) (Y:C<=w.heap.size) (J:∀x∈rs,(Lit.int .i64 x).wf=true):
 Calls prog 136 #[.agg #[.p (X+1),D]] w fun r w'=>r=.returned (.bool (!rs.any fun x=>!cq ts x))/\Bl w w':=by
 have aa:=ri prog;obtain ⟨W,hW,A,O,L⟩:=jq w #[.p (X+1),D] 188;have I:=hc.below A;have hp:=bg L 0 (x:=.p (X+1)) rfl;have F:Hid (Calls prog 174 #[D,.func (.func 189) #[] #[.p w.heap.size]] W fun r w'=>r=.returned (.bool (rs.any fun x=>!cq ts x))/\Bl W w'):=by refine zhp _ C D _ (hs.keptI (Kp.below (A.mono Y))) (lt3 Y A.size) 189 #[] _ (fun x=>!cq ts x) (fun args w=>by kernel_rfl) ?_;intro x hx V Z;exact zrt V X B _ _ _ _ _ _ _ vA h d ts (I.below Z) w.heap.size ((Z.cell (p:=⟨w.heap.size,0,none⟩) (by show w.heap.size<_;omega)).trans hp) x (J x hx)
 have c1:=bg L 1 (x:=D) rfl;have gl:=bz L;have E:=aj A;have HW:=aj hW;obtain ⟨a,q,rfl,-⟩:=hs;clear hc I A hp J hW L O;generalize (rs.any fun x=>!cq ts x)=b at*;go_enter func136,ntmps136;go_wp2_with fail;rw [<-HW.o];refine F.o.mono ?_;rintro r w1 ⟨rfl,G⟩;have N:Hid (Bl w w1):=E.o.trans (G.mono E.o.size);clear G F;go_wp2_with fail;go_ret;exact ⟨rfl,N.o⟩
def mi (ws:List Int) (loc n:Nat):List Int:=(ws.drop loc).take n
def mx (ws:List Int) (off:Nat) (l:List Int):List Int:=ws.take off++(l++ws.drop (off+l.length))
theorem C5 (h:off+l.length<=ws.length):(mx ws off l).length=ws.length:=by simp [mx];omega
theorem zt7 (h:A+n<=ws.length):(mi ws A n).length=n:=by simp [mi];omega
theorem zt8 (h0:0<=i) (h1:i<n):wd (mi ws A n) i=wd ws (A+i):=by unfold wd mi;rw [getElem?_take_of_lt (by omega),getElem?_drop,show A+i.toNat=((A:Int)+i).toNat by omega]
theorem zt9 (h:off<=ws.length) (h1:(off:Int)<=a) (A:a<off+l.length):wd (mx ws off l) a=wd l (a - off):=by
 unfold wd mx;have e:(ws.take off).length=off:=by simp;omega
 rw [getElem?_append_right (by omega),e,getElem?_append_left (by omega),show a.toNat - off=(a - off).toNat by omega]
theorem zua (h:off+l.length<=ws.length) (h0:0<=a) (h1:a<off\/off+l.length<=a):wd (mx ws off l) a=wd ws a:=by
 unfold wd mx;have e:(ws.take off).length=off:=by simp;omega
 rcases h1 with h1 | h1
 ·rw [getElem?_append_left (by omega),getElem?_take_of_lt (by omega)]
 rw [getElem?_append_right (by omega),e,getElem?_append_right (by omega),getElem?_drop,show off+l.length+(a.toNat - off - l.length)=a.toNat by omega]
structure ge where
 h:ar
 mv:List (Int×bq)
def io (mv:List (Int×bq)) (n:Int):Option Int:=mv.foldl (fun acc p=>if p.1=n then some p.2.loc else acc) none
theorem zub (mv:List (Int×bq)) (p:Int×bq) (n:Int):io (mv++ [p]) n=if p.1=n then some p.2.loc else io mv n:=by unfold io;rw [foldl_append];rfl
def Cn (h:ar) (t:bq):ar:=⟨mx h.ab h.be.toNat (mi h.ab t.loc.toNat (t.len+3).toNat),h.ae,h.old,h.bk,h.be+3+t.len,h.ap,h.next⟩
def ge.move (s:ge) (t:bq):ge:=⟨Cn s.h t,s.mv++ [(t.loc,⟨s.h.be,t.tag,t.len,t.hash⟩)]⟩
def ge.dst (s:ge) (v:Int):Int:=if dw s.h v then (io s.mv v).getD s.h.be else v
def ge.lead (s:ge) (v:Int):ge:=if dw s.h v&&(io s.mv v).isNone then s.move (bp s.h.ab v) else s
def ge.put (s:ge) (a v:Int):ge:=⟨setW s.h a.toNat v,s.mv⟩
def ge.ref (s:ge) (a:Int):ge:=(s.lead (wd s.h.ab a)).put a (s.dst (wd s.h.ab a))
def ge.refs (s:ge) (l:List Int):ge:=l.foldl ge.ref s
def ge.roots (s:ge) (rs:List Int):ge:=rs.foldl ge.lead s
def ge.tos (s:ge):List Int->List Int
 | []=>[]
 | r::rs=>s.dst r::(s.lead r).tos rs
def ge.ap (fs:List (List bv)) (s:ge) (ns:List Int):ge:=ns.foldl (fun s n=>s.refs (refsOf fs (bp s.h.ab n))) s
def ge.gone (fs:List (List bv)):Nat->Nat->ge->ge
 | 0,_,s=>s
 | f+1,i,s=>match s.mv[i]? with
   | none=>s
   | some p=>ge.gone fs f (i+1) (s.refs (refsOf fs p.2))
def rq (h:ar):ar:=⟨mx h.ab 1 (replicate h.ae.toNat 0),h.ae,h.old,1,h.be,[],h.next⟩
def ij (d:ax) (h:ar) (rs:List Int):ge:=ge.gone d.fields h.ab.length 0 (ge.ap d.fields (ge.roots ⟨h,[]⟩ rs) h.ap)
def bw (d:ax) (h:ar) (rs:List Int):ar:=rq (ij d h rs).h
def cb (h:ar) (rs:List Int):List Int:=ge.tos ⟨h,[]⟩ rs
def leftD (h:ar):Int:=(h.ab.length:Int) - h.be - (h.bk - 1)
def Laid:Int->List (Int×bq)->Int->Prop
 | lo,[],hi=>lo=hi
 | lo,p::r,hi=>p.2.loc=lo/\Laid p.2.fin r hi
def jv (mv:List (Int×bq)) (v:Int):Int:=(io mv v).getD v
def jk:List (Int×bq)->Int->Int
 | [],a=>a
 | p::r,a=>if p.2.loc<=a/\a<p.2.fin then p.1+(a - p.2.loc) else jk r a
theorem zuc {p:Int×bq} :∀ {l:List (Int×bq)} {lo hi:Int},Laid lo l hi->p.2.loc=hi->Laid lo (l++ [p]) p.2.fin
 | [],_,_,h,e=>⟨e.trans h.symm,rfl⟩
 | _::_,_,_,h,e=>⟨h.1,zuc h.2 e⟩
theorem C9:∀ {l:List (Int×bq)} {lo hi:Int},Laid lo l hi->(∀p∈l,0<=p.2.len)->lo<=hi/\∀p∈l,lo<=p.2.loc/\p.2.fin<=hi
 | [],lo,hi,h,_=>⟨Int.le_of_eq h,fun p A=>by cases A⟩
 | q::r,lo,hi,h,hl=>by
   have D:=C9 h.2 fun p A=>hl p (mem_cons_of_mem _ A);have h0:=hl q (mem_cons_self ..);have h1:q.2.fin=q.2.loc+3+q.2.len:=rfl;have E:=h.1;refine ⟨by omega,fun p A=>?_⟩;rcases mem_cons.1 A with rfl | A
   ·exact ⟨by omega,by omega⟩
   have:=D.2 p A;exact ⟨by omega,this.2⟩
theorem zue:∀ {l:List (Int×bq)} {a:Int},(∀p∈l,¬(p.2.loc<=a/\a<p.2.fin))->jk l a=a
 | [],a,_=>rfl
 | q::r,a,h=>by rw [jk,if_neg (h q (mem_cons_self ..))];exact zue fun p A=>h p (mem_cons_of_mem _ A)
theorem zuf {p:Int×bq} {a:Int} (h1:p.2.loc<=a) (E:a<p.2.fin):∀ {l:List (Int×bq)} {lo hi:Int},Laid lo l hi->(∀p∈l,0<=p.2.len)->p∈l->jk l a=p.1+(a - p.2.loc)
 | [],lo,hi,h,_,A=>by cases A
 | q::r,lo,hi,h,hl,A=>by
   rw [jk];rcases mem_cons.1 A with rfl | A
   ·rw [if_pos ⟨h1,E⟩]
   have D:∀p∈r,0<=p.2.len:=fun p A=>hl p (mem_cons_of_mem _ A);have:=(C9 h.2 D).2 p A;rw [if_neg (by omega)];exact zuf h1 E h.2 D A
theorem zug {p:Int×bq} {a:Int} :∀ {l:List (Int×bq)},¬(p.2.loc<=a/\a<p.2.fin)->jk (l++ [p]) a=jk l a
 | [],h=>by show jk [p] a=a;rw [jk,if_neg h];rfl
 | q::r,h=>by rw [cons_append,jk,jk,zug h]
theorem zuh:∀ {l:List (Int×bq)} {v:Int},v∉l.map (·.1)->io l v=none:=by
 intro l v h;unfold io;induction l with
 | nil=>rfl
 | cons p r ih=>
   rw [map_cons,mem_cons,not_or]at h;rw [foldl_cons,if_neg (fun e=>h.1 e.symm)];exact ih h.2
theorem zui:∀ {l:List (Int×bq)} {p:Int×bq},p∈l->(l.map (·.1)).Nodup->io l p.1=some p.2.loc:=by
 intro l p D E;have G:∀(r:List (Int×bq)) (A:Option Int),p.1∉r.map (·.1)->r.foldl (fun A q=>if q.1=p.1 then some q.2.loc else A) A=A:=by
  intro r;induction r with
  | nil=>intro A _;rfl
  | cons q r ih=>
    intro A h;rw [map_cons,mem_cons,not_or]at h;rw [foldl_cons,if_neg (fun e=>h.1 e.symm)];exact ih A h.2
 unfold io;have F:∀(r:List (Int×bq)) (A:Option Int),p∈r->(r.map (·.1)).Nodup->r.foldl (fun A q=>if q.1=p.1 then some q.2.loc else A) A=some p.2.loc:=by
  intro r;induction r with
  | nil=>intro A D;cases D
  | cons q r ih=>
    intro A D E;rw [map_cons,nodup_cons]at E;rw [foldl_cons];rcases mem_cons.1 D with rfl | D
    ·rw [if_pos rfl];exact G r _ E.1
    exact ih _ D E.2
 exact F l none D E
theorem zuj {l:List (Int×bq)} {v E:Int} (h:io l v=some E):∃p∈l,p.1=v/\p.2.loc=E:=by
 have D:∀(r:List (Int×bq)) (A:Option Int),r.foldl (fun A q=>if q.1=v then some q.2.loc else A) A=some E->A=some E\/∃p∈r,p.1=v/\p.2.loc=E:=by
  intro r;induction r with
  | nil=>intro A h;exact inl h
  | cons q r ih=>
    intro A h;rw [foldl_cons]at h;rcases ih _ h with h | ⟨p,F,h⟩
    ·by_cases e:q.1=v
     ·rw [if_pos e]at h;exact inr ⟨q,mem_cons_self ..,e,ojq h⟩
     rw [if_neg e]at h;exact inl h
    exact inr ⟨p,mem_cons_of_mem _ F,h⟩
 rcases D l none h with h | h
 ·cases h
 exact h
theorem zuk {l:List (Int×bq)} {v:Int} :(io l v).isSome=true↔v∈l.map (·.1):=by
 constructor
 ·intro h;obtain ⟨F,e⟩:=Option.isSome_iff_exists.1 h;obtain ⟨p,E,e,-⟩:=zuj e;exact mem_map.2 ⟨p,E,e⟩
 intro h;cases e:io l v with
 | some F=>rfl
 | none=>
   exfalso;obtain ⟨p,E,rfl⟩:=mem_map.1 h;have D:∀(r:List (Int×bq)) (A:Option Int),(p∈r\/A.isSome=true)->(r.foldl (fun A q=>if q.1=p.1 then some q.2.loc else A) A).isSome=true:=by
    intro r;induction r with
    | nil=>intro A h;rcases h with h | h
           ·cases h
           exact h
    | cons q r ih=>
      intro A h;rw [foldl_cons];refine ih _ ?_;by_cases e:q.1=p.1
      ·rw [if_pos e];exact inr rfl
      rw [if_neg e];rcases h with h | h
      ·rcases mem_cons.1 h with rfl | h
       ·exact absurd rfl e
       exact inl h
      exact inr h
   have:=D l none (inl E);unfold io at e;rw [e]at this;cases this
structure YgT (d:ax) (h:ar) (t:bq):Prop where
 lo:1<=t.loc
 fin:t.fin<=h.bk
 eq:t=bp h.ab t.loc
 fit:qf d t
theorem ze {h:ar} {ts:List bq} (r:Right d h ts) {t:bq} (A:t∈ts) (J:t.loc<=h.ae):YgT d h t:=by
 have D:=r.sized;obtain ⟨N,L,E,F,rfl⟩:=Ab r.both;have G:=D.bk;have I:=D.be;have h1:=D.ae;rcases mem_append.1 A with A | A
 ·have q:=td E t A;exact ⟨q.1,q.2.1,q.2.2.1,zkg (Fu r.ok) q (by omega) (by omega)⟩
 have q:=td F t A;have:=q.1;omega
theorem vj {h:ar} {v:Int} :dw h v=true↔0<v/\v<=h.ae:=by unfold dw;simp only [Bool.and_eq_true,decide_eq_true_eq]
theorem Fy {ts:List bq} {v:Int} (h:cq ts v=true) (h0:v≠0):∃t∈ts,t.loc=v:=by
 unfold cq at h;rw [Bool.or_eq_true]at h;rcases h with h | h
 ·obtain ⟨t,e⟩:=Option.isSome_iff_exists.1 h;exact ⟨t,Fr ts e⟩
 exact absurd (beq_iff_eq.1 h) h0
theorem zuo {f:Int->Int} :∀(m:List Int),(∀x∈m,0<=f x)->0<=(m.map f).sum
 | [],_=>Int.le_refl _
 | x::m,h0=>by have h1:=zuo m fun x A=>h0 x (mem_cons_of_mem _ A);have D:=h0 x (mem_cons_self ..);rw [map_cons,sum_cons];omega
theorem zup {m:List Int} (h:l.Perm m):l.sum=m.sum:=by
 induction h with
 | nil=>rfl
 | cons x _ ih=>rw [sum_cons,sum_cons,ih]
 | swap x y l=>simp only [sum_cons];omega
 | trans _ _ h1 h2=>exact h1.trans h2
theorem zuq {f:Int->Int} :∀(l m:List Int),l.Nodup->(∀x∈l,x∈m)->(∀x∈m,0<=f x)->(l.map f).sum<=(m.map f).sum
 | [],m,_,_,h0=>zuo m h0
 | x::l,m,hn,hs,h0=>by
   rw [nodup_cons]at hn;have E:=hs x (mem_cons_self ..);have F:=zuq l (m.erase x) hn.2 (fun y A=>(mem_erase_of_ne (fun e=>hn.1 (by rw [<-e];exact A))).2 (hs y (mem_cons_of_mem _ A))) (fun y A=>h0 y (mem_of_mem_erase A));have e:(m.map f).sum=f x+((m.erase x).map f).sum:=by have D:=(perm_cons_erase E).map f;have:=zup D;rwa [map_cons,sum_cons]at this
   rw [e,map_cons,sum_cons];omega
theorem zur {n:Nat} {fs:List (List bv)} {ws:List Int} {A:Int} :∀(f:Nat) (lo:Int) (ts:List bq),(A - lo).toNat<=f->lo<=A->cw n fs ws lo A=some ts->(ts.map fun t=>3+t.len).sum=A - lo
 | f,lo,ts,hf,hl,e=>by
   by_cases D:lo<A
   ·by_cases E:je n fs ws lo A=true
    ·rw [Ep D E]at e;cases hx:cw n fs ws (bp ws lo).fin A with
     | none=>rw [hx]at e;cases e
     | some ts'=>
       rw [hx]at e;have e:=ojq e;subst e;have h1:=Cs E;match f,hf with
       | 0,hf=>omega
       | f+1,hf=>
         have F:=zur f (bp ws lo).fin ts' (by omega) h1.2.1 hx;rw [map_cons,sum_cons,F];have:(bp ws lo).fin=lo+3+(bp ws lo).len:=rfl;omega
    rw [Cy D E]at e;cases e
   rw [Dw D]at e;have e:=ojq e;subst e;simp;omega
structure jl (d:ax) (h0:ar) (ts:List bq) (s:ge) (dn:Int->Prop):Prop where
 len:s.h.ab.length=h0.ab.length
 yo:s.h.ae=h0.ae
 ol:s.h.old=h0.old
 yt:s.h.bk=h0.bk
 no:s.h.ap=h0.ap
 nx:s.h.next=h0.next
 fr:∀p∈s.mv,∃t∈ts,dw h0 t.loc=true/\p.1=t.loc/\p.2.tag=t.tag/\p.2.len=t.len/\p.2.hash=t.hash
 laid:Laid h0.be s.mv s.h.be
 nd:(s.mv.map (·.1)).Nodup
 yes:∀a:Int,0<=a->a<h0.ab.length->dn a->wd s.h.ab a=jv s.mv (wd h0.ab (jk s.mv a))
 B1:∀a:Int,0<=a->a<h0.ab.length->¬dn a->wd s.h.ab a=wd h0.ab (jk s.mv a)
 Fe:∀a:Int,dn a->h0.ae<a/\a<s.h.be/\(dw h0 (wd h0.ab (jk s.mv a))=true->wd h0.ab (jk s.mv a)∈s.mv.map (·.1))
def Ext (s s':ge):Prop:=(∃e,s'.mv=s.mv++e)/\s.h.be<=s'.h.be/\∀a,a<s.h.be->jk s'.mv a=jk s.mv a
theorem Ext.refl (s:ge):Ext s s:=⟨⟨[],(append_nil _).symm⟩,Int.le_refl _,fun _ _=>rfl⟩
theorem Ext.trans {s D A:ge} (h:Ext s D) (g:Ext D A):Ext s A:=by obtain ⟨⟨e,I⟩,N,F⟩:=h;obtain ⟨⟨f,J⟩,L,E⟩:=g;exact ⟨⟨e++f,by rw [J,I,append_assoc]⟩,by omega,fun a G=>(E a (by omega)).trans (F a G)⟩
theorem zus {h:ar} {ts:List bq}:jl d h ts ⟨h,[]⟩ (fun _=>False):=
 ⟨rfl,rfl,rfl,rfl,rfl,rfl,(fun p A=>by cases A),rfl,nodup_nil,fun a _ _ h=>h.elim,fun a _ _ _=>rfl,fun a h=>h.elim⟩
section
variable {d:ax} {h0:ar} {ts:List bq} {s:ge} {dn:Int->Prop}
theorem jl.lens (r:Right d h0 ts) (x:jl d h0 ts s dn):∀p∈s.mv,0<=p.2.len:=fun p A=>by obtain ⟨t,D,E,-,-,e,-⟩:=x.fr p A;rw [e];exact (ze r D (vj.1 E).2).fit.lo
theorem jl.srcLow (r:Right d h0 ts) (x:jl d h0 ts s dn) {a:Int} (h:a<h0.be):jk s.mv a=a:=
 zue fun p A hc=>by have:=((C9 x.laid (x.lens r)).2 p A).1;omega
theorem jl.low (r:Right d h0 ts) (x:jl d h0 ts s dn) {a:Int} (h1:0<=a) (A:a<=h0.ae):wd s.h.ab a=wd h0.ab a:=by have z:=r.sized;have D:=z.ae;have E:=z.old;have F:=z.len;have G:=z.be;rw [x.B1 a h1 (by omega) (fun h=>by have:=(x.Fe a h).1;omega),x.srcLow r (by omega)]
theorem zut:∀ {l:List (Int×bq)} {lo hi:Int},Laid lo l hi->(l.map fun p=>3+p.2.len).sum=hi - lo
 | [],lo,hi,h=>by simp only [map_nil,sum_nil];have:lo=hi:=h;omega
 | q::r,lo,hi,h=>by rw [map_cons,sum_cons,zut h.2];have h1:=h.1;have:q.2.fin=q.2.loc+3+q.2.len:=rfl;omega
theorem zuu (r:Right d h0 ts) (l:List Int) (W:l.Nodup) (X:∀a∈l,∃t∈ts,dw h0 t.loc=true/\a=t.loc):(l.map fun a=>3+wd h0.ab (a+1)).sum<=h0.bk - 1:=by
 have z:=r.sized;have Z:=z.bk;have z5:=z.be;obtain ⟨F,Y,G,V,rfl⟩:=Ab r.both;have J:∀u∈F++Y,dw h0 u.loc=true->u∈F:=fun u A E=>by
  rcases mem_append.1 A with A | A
  ·exact A
  have:=(td V u A).1;have:=(vj.1 E).2;omega
 have N:∀u∈F,3+u.len=3+wd h0.ab (u.loc+1):=fun u A=>by have:=(td G u A).2.2.1;exact congrArg (3+ ·) (congrArg bq.len this)
 have L:=zur _ 1 F (nlq _) (by omega) G;have D:=zuq (f:=fun a=>3+wd h0.ab (a+1)) l (F.map bq.loc) W (by
  intro a I;obtain ⟨u,A,E,e⟩:=X a I;exact mem_map.2 ⟨u,J u A E,e.symm⟩) (by
  intro a I;obtain ⟨u,A,rfl⟩:=mem_map.1 I;show 0<=3+wd h0.ab (u.loc+1);rw [<-N u A];have:=yb (td G u A).2.2.2.2;omega)
 rw [map_map]at D;have O:(F.map ((fun a=>3+wd h0.ab (a+1))∘bq.loc)).sum=h0.bk - 1:=by rw [<-L];refine congrArg List.sum (map_congr_left fun u A=>?_);exact (N u A).symm
 rw [O]at D;exact D
theorem jl.sum (r:Right d h0 ts) (x:jl d h0 ts s dn):(s.mv.map ((fun a=>3+wd h0.ab (a+1))∘fun p=>p.1)).sum=s.h.be - h0.be:=by rw [<-zut x.laid];refine congrArg List.sum (map_congr_left fun p E=>?_);obtain ⟨u,F,A,e,-,D,-⟩:=x.fr p E;show 3+wd h0.ab (p.1+1)=3+p.2.len;rw [e,D];exact (congrArg (3+ ·) (congrArg bq.len (ze r F (vj.1 A).2).eq)).symm
theorem jl.room (r:Right d h0 ts) (I:0<=leftD h0) (x:jl d h0 ts s dn) {t:bq} (F:t∈ts) (G:dw h0 t.loc=true) (J:t.loc∉s.mv.map (·.1)):s.h.be+3+t.len<=h0.ab.length:=by
 have D:=zuu r (t.loc::s.mv.map (·.1)) (nodup_cons.2 ⟨J,x.nd⟩) (by
  intro a A;rcases mem_cons.1 A with rfl | A
  ·exact ⟨t,F,G,rfl⟩
  obtain ⟨p,L,rfl⟩:=mem_map.1 A;obtain ⟨u,N,E,e,-⟩:=x.fr p L;exact ⟨u,N,E,e⟩)
 rw [map_cons,sum_cons,map_map,x.sum r]at D;have O:t.len=wd h0.ab (t.loc+1):=congrArg bq.len (ze r F (vj.1 G).2).eq;unfold leftD at I;omega
theorem jl.otopLe (r:Right d h0 ts) (F:0<=leftD h0) (x:jl d h0 ts s dn):s.h.be<=h0.ab.length:=by
 have A:=zuu r (s.mv.map (·.1)) x.nd (by
  intro a E;obtain ⟨p,G,rfl⟩:=mem_map.1 E;obtain ⟨u,I,D,e,-⟩:=x.fr p G;exact ⟨u,I,D,e⟩)
 rw [map_map,x.sum r]at A;unfold leftD at F;omega
theorem jl.be (r:Right d h0 ts) (x:jl d h0 ts s dn):h0.be<=s.h.be:=(C9 x.laid (x.lens r)).1
theorem jl.youngEq (x:jl d h0 ts s dn) (v:Int):dw s.h v=dw h0 v:=by unfold dw;rw [x.yo]
theorem jl.move (r:Right d h0 ts) (hl:0<=leftD h0) (x:jl d h0 ts s dn) {t:bq} (ht:t∈ts) (W:dw h0 t.loc=true) (Z:t.loc∉s.mv.map (·.1)):jl d h0 ts (s.move t) dn/\Ext s (s.move t):=by
 have z:=r.sized;have z1:=z.ae;have z2:=z.old;have z3:=z.len;have z4:=z.bk;have z5:=z.be;have y:=ze r ht (vj.1 W).2;have y1:=y.lo;have y2:=y.fin;have y3:=y.fit.lo;have y4:t.fin=t.loc+3+t.len:=rfl;have hr:=x.room r hl ht W Z;have ho:=x.be r;have ad:=x.len;have aa:(s.h.be.toNat:Int)=s.h.be:=by omega
 have ac:(mi s.h.ab t.loc.toNat (t.len+3).toNat).length=(t.len+3).toNat:=zt7 (by omega);have F:s.h.be.toNat+(mi s.h.ab t.loc.toNat (t.len+3).toNat).length<=s.h.ab.length:=by omega
 have O:Laid h0.be (s.mv++ [(t.loc,⟨s.h.be,t.tag,t.len,t.hash⟩)]) (s.h.be+3+t.len):=zuc (p:=(t.loc,⟨s.h.be,t.tag,t.len,t.hash⟩)) x.laid rfl;have Y:∀p∈s.mv++ [(t.loc,(⟨s.h.be,t.tag,t.len,t.hash⟩:bq))],∃t∈ts,dw h0 t.loc=true/\p.1=t.loc/\p.2.tag=t.tag/\p.2.len=t.len/\p.2.hash=t.hash:=by
  intro p D;rcases mem_append.1 D with D | D
  ·exact x.fr p D
  rw [mem_singleton]at D;subst D;exact ⟨t,ht,W,rfl,rfl,rfl,rfl⟩
 have G:∀p∈s.mv++ [(t.loc,(⟨s.h.be,t.tag,t.len,t.hash⟩:bq))],0<=p.2.len:=by
  intro p D;rcases mem_append.1 D with D | D
  ·exact x.lens r p D
  rw [mem_singleton]at D;subst D;exact y3
 have A:∀a,¬(s.h.be<=a/\a<s.h.be+3+t.len)->jk (s.mv++ [(t.loc,⟨s.h.be,t.tag,t.len,t.hash⟩)]) a=jk s.mv a:=fun a N=>zug N;have I:∀v,(dw h0 v=true->v∈s.mv.map (·.1))->jv (s.mv++ [(t.loc,⟨s.h.be,t.tag,t.len,t.hash⟩)]) v=jv s.mv v:=by intro v hv;unfold jv;rw [zub,if_neg (fun e=>Z (by have e:t.loc=v:=e;rw [e];exact hv (e ▸ W)))]
 have V:∀a,0<=a->¬(s.h.be<=a/\a<s.h.be+3+t.len)->wd (s.move t).h.ab a=wd s.h.ab a:=fun a h0 N=>zua F h0 (by omega);refine ⟨⟨(C5 F).trans x.len,x.yo,x.ol,x.yt,x.no,x.nx,Y,O,?_,?_,?_,?_⟩,⟨_,rfl⟩,by show s.h.be<=s.h.be+3+t.len;omega,fun a N=>A a (by omega)⟩
 ·show ((s.mv++ [(t.loc,(⟨s.h.be,t.tag,t.len,t.hash⟩:bq))]).map (·.1)).Nodup;rw [map_append,map_cons,map_nil];refine nodup_append.2 ⟨x.nd,by simp,?_⟩;intro a N b hb e;rw [mem_singleton]at hb;subst hb;subst e;exact Z N
 ·intro a L X J;have h1:=x.Fe a J;rw [V a L (by omega),x.yes a L X J];show _=jv (s.mv++ [_]) (wd h0.ab (jk (s.mv++ [_]) a));rw [A a (by omega),I _ h1.2.2]
 ·intro a L X J;by_cases E:s.h.be<=a/\a<s.h.be+3+t.len
  ·have e1:jk (s.move t).mv a=t.loc+(a - s.h.be):=zuf (p:=(t.loc,⟨s.h.be,t.tag,t.len,t.hash⟩)) E.1 E.2 O G (mem_append_right _ (mem_singleton.2 rfl));rw [e1];have e2:wd (s.move t).h.ab a=wd (mi s.h.ab t.loc.toNat (t.len+3).toNat) (a - s.h.be.toNat):=zt9 (by omega) (by omega) (by omega);rw [e2,zt8 (by omega) (by omega),show ((t.loc.toNat:Int)+(a - s.h.be.toNat))=t.loc+(a - s.h.be) by omega];exact x.low r (by omega) (by omega)
  rw [V a L E,x.B1 a L X J];show _=wd h0.ab (jk (s.mv++ [_]) a);rw [A a E]
 intro a J;have h1:=x.Fe a J;refine ⟨h1.1,by show a<s.h.be+3+t.len;omega,?_⟩;show dw h0 (wd h0.ab (jk (s.mv++ [_]) a))=true->wd h0.ab (jk (s.mv++ [_]) a)∈(s.mv++ [(t.loc,(⟨s.h.be,t.tag,t.len,t.hash⟩:bq))]).map (fun p:Int×bq=>p.1);rw [A a (by omega),map_append];exact fun h=>mem_append_left _ (h1.2.2 h)
structure Can (d:ax) (s:ge) (v:Int):Prop where
 lo:1<=v
 fin:(bp s.h.ab v).fin<=s.h.ae+1
 fit:qf d (bp s.h.ab v)
 room:s.h.be+3+(bp s.h.ab v).len<=s.h.ab.length
 top:s.h.ae<s.h.be
theorem jl.thEq (r:Right d h0 ts) (x:jl d h0 ts s dn) {t:bq} (A:t∈ts) (D:dw h0 t.loc=true):bp s.h.ab t.loc=t:=by
 have J:=r.sized.bk;have y:=ze r A (vj.1 D).2;have E:=y.lo;have F:=y.fin;have G:=y.fit.lo;have I:t.fin=t.loc+3+t.len:=rfl;have e:bp s.h.ab t.loc=bp h0.ab t.loc:=by unfold bp;rw [x.low r (a:=t.loc) (by omega) (by omega),x.low r (a:=t.loc+1) (by omega) (by omega),x.low r (a:=t.loc+2) (by omega) (by omega)]
 exact e.trans y.eq.symm
theorem jl.can (r:Right d h0 ts) (G:0<=leftD h0) (x:jl d h0 ts s dn) {v:Int} (L:cq ts v=true) (A:dw s.h v=true) (I:io s.mv v=none):Can d s v:=by
 rw [x.youngEq]at A;have F:=vj.1 A;obtain ⟨t,E,rfl⟩:=Fy L (by omega);have D:t.loc∉s.mv.map (·.1):=fun h=>by have:=zuk.2 h;rw [I]at this;cases this
 have y:=ze r E F.2;have J:=x.room r G E A D;have V:=r.sized.bk;have W:=r.sized.be;have N:=x.be r;have O:=y.fin;have e:=x.thEq r E A;exact ⟨y.lo,by rw [e,x.yo];omega,by rw [e];exact y.fit,by rw [e,x.len];exact J,by rw [x.yo];omega⟩
theorem jl.lead (r:Right d h0 ts) (E:0<=leftD h0) (x:jl d h0 ts s dn) {v:Int} (G:cq ts v=true):
 jl d h0 ts (s.lead v) dn/\Ext s (s.lead v)/\s.dst v=jv (s.lead v).mv v/\(dw h0 v=true->v∈(s.lead v).mv.map (·.1)):=by
 unfold ge.lead ge.dst;rw [x.youngEq];cases hy:dw h0 v
 ·simp only [Bool.false_and,Bool.false_eq_true,if_false];refine ⟨x,Ext.refl _,?_,fun h=>h.elim⟩;unfold jv;rw [zuh]
  ·rfl
  intro h;obtain ⟨p,F,rfl⟩:=mem_map.1 h;obtain ⟨t,_,A,e,-⟩:=x.fr p F;rw [e,A]at hy;cases hy
 cases hn:io s.mv v with
 | some tt=>
   simp only [Option.isNone_some,Bool.and_false,Bool.false_eq_true,if_false,if_true,Option.getD_some,forall_const];refine ⟨x,Ext.refl _,?_,zuk.1 (by rw [hn];rfl)⟩;unfold jv;rw [hn];rfl
 | none=>
   simp only [Option.isNone_none,Bool.and_self,if_true,Option.getD_none,forall_const];have I:=vj.1 hy;obtain ⟨t,A,rfl⟩:=Fy G (by omega);have D:t.loc∉s.mv.map (·.1):=fun h=>by have:=zuk.2 h;rw [hn]at this;cases this
   rw [x.thEq r A hy];have h1:=x.move r E A hy D;refine ⟨h1.1,h1.2,?_,?_⟩
   ·unfold jv ge.move;rw [zub,if_pos rfl];rfl
   show t.loc∈(s.mv++ [(t.loc,(⟨s.h.be,t.tag,t.len,t.hash⟩:bq))]).map (fun p:Int×bq=>p.1);rw [map_append];exact mem_append_right _ (mem_singleton.2 rfl)
theorem jl.put (r:Right d h0 ts) (x:jl d h0 ts s dn) {a:Int} (h1:h0.ae<a) (J:a<s.h.be) (N:a<h0.ab.length) (L:dw h0 (wd h0.ab (jk s.mv a))=true->wd h0.ab (jk s.mv a)∈s.mv.map (·.1)):
 jl d h0 ts (s.put a (jv s.mv (wd h0.ab (jk s.mv a)))) (fun b=>dn b\/b=a):=by
 have O:=r.sized.ae;have G:=x.len;have I:((a.toNat:Nat):Int)=a:=by omega
 have D:wd (s.h.ab.set a.toNat (jv s.mv (wd h0.ab (jk s.mv a)))) a=jv s.mv (wd h0.ab (jk s.mv a)):=by have:=zr0 (ws:=s.h.ab) (m:=a.toNat) (v:=jv s.mv (wd h0.ab (jk s.mv a))) (by omega);rwa [I]at this
 refine ⟨(length_set ..).trans x.len,x.yo,x.ol,x.yt,x.no,x.nx,x.fr,x.laid,x.nd,?_,?_,?_⟩
 ·intro b E F A;by_cases e:b=a
  ·subst e;exact D
  rcases A with A | A
  ·exact (zrz (by omega)).trans (x.yes b E F A)
  exact absurd A e
 ·intro b E F A;rw [not_or]at A;exact (zrz (by omega)).trans (x.B1 b E F A.1)
 rintro b (A | rfl)
 ·exact x.Fe b A
 exact ⟨h1,J,L⟩
end
section
variable {d:ax} {h0:ar} {ts:List bq} {s:ge} {dn:Int->Prop}
theorem jl.iff {A:Int->Prop} (x:jl d h0 ts s dn) (h:∀a,dn a↔A a):jl d h0 ts s A:=by have:dn=A:=funext fun a=>propext (h a);rw [<-this];exact x
theorem jl.ref (r:Right d h0 ts) (F:0<=leftD h0) (x:jl d h0 ts s dn) {a:Int} (I:¬dn a) (h1:h0.ae<a) (E:a<s.h.be) (J:cq ts (wd h0.ab (jk s.mv a))=true):
 jl d h0 ts (s.ref a) (fun b=>dn b\/b=a)/\Ext s (s.ref a):=by
 have W:=r.sized.ae;have V:=x.otopLe r F;have e:=x.B1 a (by omega) (by omega) I;unfold ge.ref;rw [e];obtain ⟨L,A,N,O⟩:=x.lead r F J;have D:=A.2.2 a E;rw [N];have G:=L.put r h1 (Int.lt_of_lt_of_le E A.2.1) (by omega) (by rw [D];exact O);rw [D]at G;exact ⟨G,A⟩
theorem jl.refs (r:Right d h0 ts) (F:0<=leftD h0):∀(l:List Int) (s:ge) (dn:Int->Prop),jl d h0 ts s dn->l.Nodup->(∀a∈l,¬dn a/\h0.ae<a/\a<s.h.be/\cq ts (wd h0.ab (jk s.mv a))=true)->jl d h0 ts (s.refs l) (fun b=>dn b\/b∈l)/\Ext s (s.refs l)
 | [],s,dn,x,_,_=>⟨x.iff fun a=>⟨inl,fun h=>h.elim id fun h=>by cases h⟩,Ext.refl _⟩
 | a::l,s,dn,x,hn,h=>by
   rw [nodup_cons]at hn;obtain ⟨G,I,J,L⟩:=h a (mem_cons_self ..);obtain ⟨y,A⟩:=x.ref r F G I J L;obtain ⟨z,W⟩:=jl.refs r F l (s.ref a) _ y hn.2 (fun b E=>by
    obtain ⟨N,O,D,V⟩:=h b (mem_cons_of_mem _ E);refine ⟨?_,O,Int.lt_of_lt_of_le D A.2.1,by rw [A.2.2 b D];exact V⟩;rintro (h | rfl)
    ·exact N h
    exact hn.1 E)
   refine ⟨z.iff fun b=>?_,A.trans W⟩;rw [mem_cons,or_assoc]
theorem jl.refsAt (r:Right d h0 ts) (D:0<=leftD h0) {l:List Int} (x:jl d h0 ts s dn) (E:l.Nodup) (h:∀a∈l,¬dn a/\h0.ae<a/\a<s.h.be/\cq ts (wd h0.ab (jk s.mv a))=true) (k:Nat) (N:k<l.length):
 jl d h0 ts (s.refs (l.take k)) (fun b=>dn b\/b∈l.take k)/\cq ts (wd (s.refs (l.take k)).h.ab l[k])=true/\0<=l[k]/\l[k]<h0.ab.length:=by
 obtain ⟨y,J⟩:=jl.refs r D (l.take k) s dn x (E.sublist (take_sublist _ _)) fun a L=>h a (mem_of_mem_take L);obtain ⟨F,V,G,I⟩:=h l[k] (gm N);have Y:=r.sized.ae;have X:=x.otopLe r D;have A:l[k]∉l.take k:=by intro O;obtain ⟨j,W,e⟩:=mem_take_iff_getElem.1 O;have:=(getElem_inj (xs:=l) E).1 e;omega
 refine ⟨y,?_,by omega,by omega⟩;rw [y.B1 l[k] (by omega) (by omega) (by rintro (h | h);exact F h;exact A h),J.2.2 _ G];exact I
theorem jl.roots (r:Right d h0 ts) (A:0<=leftD h0):∀(rs:List Int) (s:ge) (dn:Int->Prop),jl d h0 ts s dn->(∀v∈rs,cq ts v=true)->jl d h0 ts (s.roots rs) dn/\Ext s (s.roots rs)
 | [],s,dn,x,_=>⟨x,Ext.refl _⟩
 | v::rs,s,dn,x,h=>by obtain ⟨y,D,-⟩:=x.lead r A (h v (mem_cons_self ..));obtain ⟨z,E⟩:=jl.roots r A rs (s.lead v) dn y fun u F=>h u (mem_cons_of_mem _ F);exact ⟨z,D.trans E⟩
theorem Fz (fs:List (List bv)) (x:bq):(refsOf fs x).Nodup:=by unfold refsOf;refine Pairwise.map _ (fun a b h e=>h ?_) (Pairwise.filter _ nodup_range);have e:x.loc+3+(a:Int)=x.loc+3+(b:Int):=e;omega
theorem zuw (r:Right d h0 ts) {x:bq} (E:x∈ts) {a:Int} (D:a∈refsOf d.fields x):cq ts (wd h0.ab a)=true:=by
 have h:=r.lead;rw [any_eq_false]at h;have h1:=h x E;unfold fx at h1;rw [Bool.not_eq_true,any_eq_false]at h1;have A:¬(!cq ts (wd h0.ab a))=true:=h1 a D;cases hc:cq ts (wd h0.ab a)
 ·rw [hc]at A;exact absurd rfl A
 rfl
def Cu (fs:List (List bv)) (ts:List bq) (ns:List Int) (a:Int):Prop:=∃n∈ns,∃x∈ts,x.loc=n/\a∈refsOf fs x
theorem Bw (r:Right d h0 ts) {x:bq} (A:x∈ts) (I:h0.ae<x.loc):h0.ae<x.loc/\x.fin<=h0.be/\x=bp h0.ab x.loc/\qf d x/\∀a∈refsOf d.fields x,x.loc+3<=a/\a<x.fin:=by
 have z:=r.sized;obtain ⟨X,W,E,F,D⟩:=Ab r.both;have h1:=z.bk;have J:=z.be;have L:=z.ae;have N:=z.old;have q:yf d h0 (h0.ae+1) h0.be x:=by
  rw [D]at A;rcases mem_append.1 A with A | A
  ·have:=td E x A;have:=this.2.1;have O:=yb (td E x A).2.2.2.2;have:x.fin=x.loc+3+x.len:=rfl;omega
  exact td F x A
 refine ⟨I,q.2.1,q.2.2.1,zkg (Fu r.ok) q (by omega) (by omega),fun a G=>?_⟩;obtain ⟨n,e,V,-⟩:=Bb G;have:x.fin=x.loc+3+x.len:=rfl;omega
theorem zuy (r:Right d h0 ts) {x y:bq} (A:x∈ts) (D:y∈ts):y=x\/y.fin<=x.loc\/x.fin<=y.loc:=(B5 r.sized r.both x A).2.2.2 y D
theorem zuz (r:Right d h0 ts) {x y:bq} (D:x∈ts) (A:y∈ts) (h:x.loc=y.loc):y=x:=by
 have h1:=B5 r.sized r.both x D;have E:=B5 r.sized r.both y A;rcases h1.2.2.2 y A with h | h | h
 ·exact h
 ·omega
 omega
theorem jl.noteAt (r:Right d h0 ts) {ns:List Int} (x:jl d h0 ts s (Cu d.fields ts ns)) (F:∀n∈ns,h0.ae<n) {t:bq} (G:t∈ts) (X:h0.ae<t.loc) (W:t.loc∉ns):
 bp s.h.ab t.loc=t/\(∀a∈refsOf d.fields t,¬Cu d.fields ts ns a/\h0.ae<a/\a<s.h.be/\cq ts (wd h0.ab (jk s.mv a))=true):=by
 have q:=Bw r G X;have z:=r.sized;have z1:=z.ae;have z3:=z.len;have z5:=z.be;have Y:=x.be r;have D:∀a,t.loc<=a->a<t.fin->¬Cu d.fields ts ns a:=by
  rintro a J L ⟨n,A,y,O,rfl,E⟩;have Z:=Bw r O (F _ A);have:=Z.2.2.2.2 a E;rcases zuy r G O with e | e | e
  ·subst e;exact W A
  ·omega
  omega
 have N:t.fin=t.loc+3+t.len:=rfl;have V:=q.2.2.2.1.lo;have I:∀a,t.loc<=a->a<t.fin->wd s.h.ab a=wd h0.ab a:=fun a J L=>by rw [x.B1 a (by omega) (by omega) (D a J L),x.srcLow r (by omega)]
 refine ⟨?_,fun a E=>?_⟩
 ·have e:bp s.h.ab t.loc=bp h0.ab t.loc:=by
   unfold bp;rw [I t.loc (by omega) (by omega),I (t.loc+1) (by omega) (by omega),I (t.loc+2) (by omega) (by omega)]
  exact e.trans q.2.2.1.symm
 have:=q.2.2.2.2 a E;exact ⟨D a (by omega) (by omega),by omega,by omega,by rw [x.srcLow r (by omega)];exact zuw r G E⟩
theorem jl.noteStep (r:Right d h0 ts) (J:0<=leftD h0) {ns:List Int} (x:jl d h0 ts s (Cu d.fields ts ns)) (A:∀n∈ns,h0.ae<n) {t:bq} (D:t∈ts) (N:h0.ae<t.loc) (L:t.loc∉ns):
 jl d h0 ts (s.refs (refsOf d.fields (bp s.h.ab t.loc))) (Cu d.fields ts (ns++ [t.loc]))/\Ext s (s.refs (refsOf d.fields (bp s.h.ab t.loc))):=by
 obtain ⟨e,h⟩:=x.noteAt r A D N L;rw [e];obtain ⟨y,G⟩:=jl.refs r J _ s _ x (Fz _ _) h;refine ⟨y.iff fun a=>?_,G⟩;constructor
 ·rintro (⟨n,h1,I⟩ | h)
  ·exact ⟨n,mem_append_left _ h1,I⟩
  exact ⟨t.loc,mem_append_right _ (mem_singleton.2 rfl),t,D,rfl,h⟩
 rintro ⟨n,h1,y,F,e,E⟩;rcases mem_append.1 h1 with h1 | h1
 ·exact inl ⟨n,h1,y,F,e,E⟩
 rw [mem_singleton]at h1;have:=zuz r D F (h1.symm.trans e.symm);subst this;exact inr E
def Bp (fs:List (List bv)) (ts:List bq) (ns:List Int) (i:Nat) (mv:List (Int×bq)) (a:Int):Prop:=Cu fs ts ns a\/∃j,∃p,j<i/\mv[j]? =some p/\a∈refsOf fs p.2
theorem C7 {fs:List (List bv)} {x y:bq} (h:x.tag=y.tag) (n:Nat):jw fs x n=jw fs y n:=by unfold jw;rw [h]
theorem zu1 (l:List (Int×bq)):∀ {lo hi:Int},Laid lo l hi->(∀p∈l,0<=p.2.len)->∀ {i j:Nat} {p q:Int×bq},i<j->l[i]? =some p->l[j]? =some q->p.2.fin<=q.2.loc:=by
 induction l with
 | nil=>intro lo hi _ _ i j p q _ A;cases A
 | cons x l ih=>
   intro lo hi h G i j p q F A E;have D:∀p∈l,0<=p.2.len:=fun p A=>G p (mem_cons_of_mem _ A);cases j with
   | zero=>omega
   | succ j=>
     rw [getElem?_cons_succ]at E;cases i with
     | zero=>
       rw [getElem?_cons_zero]at A;have e:=ojq A;subst e;exact ((C9 h.2 D).2 q (mem_of_getElem? E)).1
     | succ i=>
       rw [getElem?_cons_succ]at A;exact ih h.2 D (by omega) A E
theorem jl.goneAt (r:Right d h0 ts) (Z:0<=leftD h0) {ns:List Int} {i:Nat} (x:jl d h0 ts s (Bp d.fields ts ns i s.mv)) (I:∀n∈ns,h0.ae<n) {p:Int×bq} (N:s.mv[i]? =some p):
 qf d p.2/\p.2.fin<=h0.ab.length/\(∀a∈refsOf d.fields p.2,¬Bp d.fields ts ns i s.mv a/\h0.ae<a/\a<s.h.be/\cq ts (wd h0.ab (jk s.mv a))=true):=by
 have A:=mem_of_getElem? N;have aa:=(C9 x.laid (x.lens r)).2 p A;have z:=r.sized;have z1:=z.ae;have z2:=z.old;have z3:=z.len;have z5:=z.be;have ho:=x.otopLe r Z;obtain ⟨t,O,hy,V,J,W,e4⟩:=x.fr p A;have y:=ze r O (vj.1 hy).2;have L:p.2.fin=p.2.loc+3+p.2.len:=rfl;have D:=x.lens r p A;refine ⟨⟨by rw [J,W];exact y.fit.tag,D,by omega,by omega⟩,by omega,fun a X=>?_⟩;obtain ⟨n,ea,hn,hr⟩:=Bb X;refine ⟨?_,by omega,by omega,?_⟩
 ·rintro (⟨m,G,u,hu,rfl,F⟩ | ⟨j,q,Y,hq,E⟩)
  ·have qu:=Bw r hu (I _ G);have:=qu.2.2.2.2 a F;omega
  have:=zu1 _ x.laid (x.lens r) Y hq N;obtain ⟨m,em,A,-⟩:=Bb E;have:q.2.fin=q.2.loc+3+q.2.len:=rfl;omega
 rw [zuf (p:=p) (by omega) (by omega) x.laid (x.lens r) A,V,show t.loc+(a - p.2.loc)=t.loc+3+(n:Int) by omega];exact zuw r O (C6 (by omega) (by rw [<-C7 J];exact hr))
theorem jl.goneStep (r:Right d h0 ts) (L:0<=leftD h0) {ns:List Int} {i:Nat} (x:jl d h0 ts s (Bp d.fields ts ns i s.mv)) (I:∀n∈ns,h0.ae<n) {p:Int×bq} (E:s.mv[i]? =some p):
 jl d h0 ts (s.refs (refsOf d.fields p.2)) (Bp d.fields ts ns (i+1) (s.refs (refsOf d.fields p.2)).mv)/\Ext s (s.refs (refsOf d.fields p.2)):=by
 obtain ⟨-,-,h⟩:=x.goneAt r L I E;obtain ⟨y,J⟩:=jl.refs r L _ s _ x (Fz _ _) h;refine ⟨y.iff fun a=>?_,J⟩;obtain ⟨⟨e,N⟩,-⟩:=J;have hi:i<s.mv.length:=by
  rcases Nat.lt_or_ge i s.mv.length with h | h
  ·exact h
  rw [getElem?_eq_none h]at E;cases E
 have A:∀j,j<=i->(s.refs (refsOf d.fields p.2)).mv[j]? =s.mv[j]? :=fun j G=>by rw [N,getElem?_append_left (by omega)]
 constructor
 ·rintro ((h | ⟨j,q,h1,D,F⟩) | h)
  ·exact inl h
  ·exact inr ⟨j,q,by omega,(A j (by omega)).trans D,F⟩
  exact inr ⟨i,p,by omega,(A i (nlq _)).trans E,h⟩
 rintro (h | ⟨j,q,h1,D,F⟩)
 ·exact inl (inl h)
 rw [A j (by omega)]at D;rcases Nat.lt_or_ge j i with G | G
 ·exact inl (inr ⟨j,q,G,D,F⟩)
 have:j=i:=by omega
 subst this;rw [E]at D;have:=ojq D;subst this;exact inr F
theorem jl.count (r:Right d h0 ts) (D:0<=leftD h0) (x:jl d h0 ts s dn):s.mv.length<h0.ab.length:=by
 have J:=zut x.laid;have I:=x.otopLe r D;have z:=r.sized;have L:=z.ae;have N:=z.be;have E:(s.mv.length:Int)<=(s.mv.map fun p=>3+p.2.len).sum:=by
  have A:∀l:List (Int×bq),(∀p∈l,0<=p.2.len)->(l.length:Int)<=(l.map fun p=>3+p.2.len).sum:=by
   intro l;induction l with
   | nil=>intro _;exact Int.le_refl _
   | cons q l ih=>
     intro h;have h1:=ih fun p F=>h p (mem_cons_of_mem _ F);have G:=h q (mem_cons_self ..);rw [map_cons,sum_cons,length_cons];omega
  exact A _ (x.lens r)
 omega
theorem jl.goneAll (r:Right d h0 ts) (D:0<=leftD h0) {ns:List Int} (A:∀n∈ns,h0.ae<n):∀(f i:Nat) (s:ge),h0.ab.length<=i+f->i<=s.mv.length->jl d h0 ts s (Bp d.fields ts ns i s.mv)->jl d h0 ts (ge.gone d.fields f i s) (Bp d.fields ts ns (ge.gone d.fields f i s).mv.length (ge.gone d.fields f i s).mv)/\Ext s (ge.gone d.fields f i s)
 | 0,i,s,hf,hi,x=>by have:=x.count r D;omega
 | f+1,i,s,hf,hi,x=>by
   rw [ge.gone];cases hp:s.mv[i]? with
   | none=>
     have:s.mv.length<=i:=List.getElem?_eq_none_iff.1 hp;have e:i=s.mv.length:=by omega
     subst e;exact ⟨x,Ext.refl _⟩
   | some p=>
     obtain ⟨y,E⟩:=x.goneStep r D A hp;have J:i<s.mv.length:=by
      rcases Nat.lt_or_ge i s.mv.length with h | h
      ·exact h
      rw [getElem?_eq_none h]at hp;cases hp
     have F:s.mv.length<=(s.refs (refsOf d.fields p.2)).mv.length:=by obtain ⟨⟨e,I⟩,-⟩:=E;rw [I,length_append];omega
     obtain ⟨z,G⟩:=jl.goneAll r D A f (i+1) _ (by omega) (by omega) y;exact ⟨z,E.trans G⟩
end
variable {ops:Array Oper} {o:Oper} {a:Act} {l:List (Option Nat)} {L b B T M X k:Nat} {w w':World} {E W O V D A F J G I N:Value}
structure NwD (mv:List (Int×bq)) (D:DataW Unit):Prop where
 has:∀n,Maps.has D (jt n)=(io mv n).isSome
 at_:∀n t z,io mv n=some t->D.atKey (jt n) z=.lit (.i t)
 no:∀n z,io mv n=none->D.atKey (jt n) z=z
theorem zvf:NwD [] (.map []):=⟨fun _=>rfl,(fun n t z h=>by cases h),fun n z _=>rfl⟩
theorem zvg {mv:List (Int×bq)} {D:DataW Unit} (h:NwD mv D) (F:Tidy D) (p:Int×bq):NwD (mv++ [p]) (D.put (jt p.1) (.lit (.i p.2.loc))):=by
 have E:=F.isMap;refine ⟨fun n=>?_,fun n s z A=>?_,fun n z A=>?_⟩
 ·rw [zub];by_cases e:p.1=n
  ·subst e;rw [has_put_same E (wo _),if_pos rfl];rfl
  rw [has_put_other (Fp (Ne.symm e)),if_neg e,h.has]
 ·rw [zub]at A;by_cases e:p.1=n
  ·subst e;rw [if_pos rfl]at A;rw [atKey_put_same E (wo _),ojq A]
  rw [if_neg e]at A;rw [atKey_put_other (Fp (Ne.symm e)),h.at_ n s z A]
 rw [zub]at A;by_cases e:p.1=n
 ·rw [if_pos e]at A;cases A
 rw [if_neg e]at A;rw [atKey_put_other (Fp (Ne.symm e)),h.no n z A]
def j9 (w:World) (b:Nat) (mv:List (Int×bq)):Prop:=∃D:DataW Unit,w.ownsMap prog 3 (plainElem prog 3) b mv.length D/\NwD mv D
theorem j9.lt {b:Nat} {mv:List (Int×bq)} (h:j9 w b mv):b<w.heap.size:=by obtain ⟨D,h,_⟩:=h;exact h.lt
theorem j9.kept {b:Nat} {mv:List (Int×bq)} (h:j9 w b mv) {row:Option Nat} (F:w.grownBy w' row) (A:some b≠row):j9 w' b mv:=by obtain ⟨D,h,E⟩:=h;exact ⟨D,h.kept F A,E⟩
theorem j9.below {b:Nat} {mv:List (Int×bq)} (h:j9 w b mv) (G:Below B w w') (F:b<B):j9 w' b mv:=by obtain ⟨D,⟨E,A,e,h⟩,I⟩:=h;exact ⟨D,⟨E,A,(G.block b F).trans e,h⟩,I⟩
def sr (l:List (Option Nat)):Prop:=l.Pairwise fun a b=>∀k,a=some k->b≠some k
theorem qr (h:sr l) {i j k:Nat} (A:i<j) (hi:l[i]? =some (some k)):l[j]? ≠some (some k):=by intro G;obtain ⟨h1,D⟩:=List.getElem?_eq_some_iff.1 hi;obtain ⟨F,E⟩:=List.getElem?_eq_some_iff.1 G;exact pairwise_iff_getElem.1 h i j h1 F A k D E
theorem Bc (h:sr l) {i j k:Nat} (A:i<j) (D:l[j]? =some (some k)):l[i]? ≠some (some k):=fun hi=>qr h A hi D
structure Mo (b B:Nat) (w:World) (T M X:Nat) (nW nO nR gv kC kS kF kN kT:Value) (h:ar) (m g:List (Int×bq)) (rs:List Int) (d:ax):Prop where
 blk:w.heap[T]? =some (.cells #[nW,.i h.ae,.i h.old,.i h.bk,.i h.be,nO,.i h.next,kC,kS,kF,kN,kT,nR] 131 (0,0))
 sd:w.heap[M]? =some (.cells #[.p T,.map (some X),gv] 196 (0,0))
 rW:w.ownsRow b 3 1 nW h.ab.length (b8 h.ab)
 rO:w.ownsRow b 3 1 nO h.ap.length (b8 h.ap)
 rR:w.ownsRow b 3 1 nR rs.length (b8 rs)
 rG:w.ownsRow b 101 4 gv g.length (fy (g.map (·.2)))
 mp:j9 w X m
 lk:nh (· <B) w kC kS kF kN kT d
 le:B<=b
 bT:b<=T
 bM:b<=M
 bX:b<=X
 sep:sr [some T,some M,some X,nW.ownBlock,nO.ownBlock,nR.ownBlock,gv.ownBlock]
theorem Mo.below {L N D E I F G J:Value} {h:ar} {m g:List (Int×bq)} {rs:List Int} {d:ax} (o:Mo b B w T M X O L N D E I F G J h m g rs d) {w':World} (A:Bl w w'):Mo b B w' T M X O L N D E I F G J h m g rs d:=
 have V:=bz o.blk
 ⟨(A.block _ V).trans o.blk,(A.block _ (bz o.sd)).trans o.sd,km o.rW A,km o.rO A,km o.rR A,km o.rG A,o.mp.below A o.mp.lt,o.lk.kept (Kp.below (A.mono (by have:=o.le;have:=o.bT;omega))),o.le,o.bT,o.bM,o.bX,o.sep⟩
theorem Mo.gd {L J Y N D G E F I:Value} {h:ar} {m g:List (Int×bq)} {rs:List Int} {d:ax} (o:Mo b B w T M X L J Y N D G E F I h m g rs d) (h1:h.ab.length<=1000000) (O:h.ap.length<=1000000):Gd w.heap.size w T L J D G E F I h d:=
 have V:=bz o.blk;have W:∀k,k<B->k<w.heap.size:=fun k A=>by have:=o.le;have:=o.bT;omega
 ⟨V,nlq _,bg o.blk 0 rfl,bg o.blk 1 rfl,bg o.blk 2 rfl,bg o.blk 3 rfl,bg o.blk 4 rfl,bg o.blk 5 rfl,bg o.blk 6 rfl,bg o.blk 7 rfl,bg o.blk 8 rfl,bg o.blk 9 rfl,bg o.blk 10 rfl,bg o.blk 11 rfl,(rg o.rW h1).monoI fun k A=>A.lt,(rg o.rO O).monoI fun k A=>A.lt,o.lk.mono W⟩
theorem Mo.lkUp {D G E F I:Value} {h:ar} {m g:List (Int×bq)} {rs:List Int} {d:ax} (o:Mo b B w T M X W O V J D G E F I h m g rs d) {w':World} {k:Nat} (A:w.grownBy w' (some k)) (Y:b<=k):nh (· <B) w' D G E F I d:=o.lk.kept ⟨A.size,fun j L N=>A.block j N (by have:=o.le;have:=L;intro e;injection e;omega)⟩
theorem Mo.ab {E L V N O W:Value} {h:ar} {m g:List (Int×bq)} {rs:List Int} {d:ax} (o:Mo b B w T M X D F G E L V N O W h m g rs d) {w':World} {k:Nat} {ws:List Int} (J:D.ownBlock=some k) (A:w.grownBy w' (some k)) (Y:w'.ownsRow b 3 1 D ws.length (b8 ws)):Mo b B w' T M X D F G E L V N O W ⟨ws,h.ae,h.old,h.bk,h.be,h.ap,h.next⟩ m g rs d/\Below b w w':=
 have I:b<=k:=(o.rW.lt k J).1;have hi: [some T,some M,some X,D.ownBlock,F.ownBlock,G.ownBlock,E.ownBlock][3]? =some (some k):=congrArg some J
 ⟨⟨(A.block T (bz o.blk) (fun e=>Bc o.sep (i:=0) (by decide) hi (congrArg some e))).trans o.blk,(A.block M (bz o.sd) (fun e=>Bc o.sep (i:=1) (by decide) hi (congrArg some e))).trans o.sd,Y,o.rO.kept A (inr fun e=>qr o.sep (j:=4) (by decide) hi (congrArg some e)),o.rR.kept A (inr fun e=>qr o.sep (j:=5) (by decide) hi (congrArg some e)),o.rG.kept A (inr fun e=>qr o.sep (j:=6) (by decide) hi (congrArg some e)),o.mp.kept A (fun e=>Bc o.sep (i:=2) (by decide) hi (congrArg some e)),o.lkUp A I,o.le,o.bT,o.bM,o.bX,o.sep⟩,(br b w).grown A (by have:=bz o.blk;have:=o.bT;omega) (fun j e=>by cases e;exact I)⟩
theorem Mo.rootsUp {F D E L V N O W:Value} {h:ar} {m g:List (Int×bq)} {rs:List Int} {d:ax} (o:Mo b B w T M X G F D E L V N O W h m g rs d) {w':World} {k:Nat} {rs':List Int} (J:D.ownBlock=some k) (A:w.grownBy w' (some k)) (Y:w'.ownsRow b 3 1 D rs'.length (b8 rs')):Mo b B w' T M X G F D E L V N O W h m g rs' d/\Below b w w':=
 have I:b<=k:=(o.rR.lt k J).1;have hi: [some T,some M,some X,G.ownBlock,F.ownBlock,D.ownBlock,E.ownBlock][5]? =some (some k):=congrArg some J
 ⟨⟨(A.block T (bz o.blk) (fun e=>Bc o.sep (i:=0) (by decide) hi (congrArg some e))).trans o.blk,(A.block M (bz o.sd) (fun e=>Bc o.sep (i:=1) (by decide) hi (congrArg some e))).trans o.sd,o.rW.kept A (inr fun e=>Bc o.sep (i:=3) (by decide) hi (congrArg some e)),o.rO.kept A (inr fun e=>Bc o.sep (i:=4) (by decide) hi (congrArg some e)),Y,o.rG.kept A (inr fun e=>qr o.sep (j:=6) (by decide) hi (congrArg some e)),o.mp.kept A (fun e=>Bc o.sep (i:=2) (by decide) hi (congrArg some e)),o.lkUp A I,o.le,o.bT,o.bM,o.bX,o.sep⟩,(br b w).grown A (by have:=bz o.blk;have:=o.bT;omega) (fun j e=>by cases e;exact I)⟩
theorem Mo.map {E F D I N J L O:Value} {h:ar} {m g:List (Int×bq)} {rs:List Int} {d:ax} (o:Mo b B w T M X G E F D I N J L O h m g rs d) {w':World} {V:List (Int×bq)} (A:w.grownBy w' (some X)) (W:j9 w' X V):Mo b B w' T M X G E F D I N J L O h V g rs d/\Below b w w':=
 have hi: [some T,some M,some X,G.ownBlock,E.ownBlock,F.ownBlock,D.ownBlock][2]? =some (some X):=rfl
 ⟨⟨(A.block T (bz o.blk) (fun e=>Bc o.sep (i:=0) (by decide) hi (congrArg some e))).trans o.blk,(A.block M (bz o.sd) (fun e=>Bc o.sep (i:=1) (by decide) hi (congrArg some e))).trans o.sd,o.rW.kept A (inr fun e=>qr o.sep (j:=3) (by decide) hi (congrArg some e)),o.rO.kept A (inr fun e=>qr o.sep (j:=4) (by decide) hi (congrArg some e)),o.rR.kept A (inr fun e=>qr o.sep (j:=5) (by decide) hi (congrArg some e)),o.rG.kept A (inr fun e=>qr o.sep (j:=6) (by decide) hi (congrArg some e)),W,o.lkUp A o.bX,o.le,o.bT,o.bM,o.bX,o.sep⟩,(br b w).grown A (by have:=bz o.blk;have:=o.bT;omega) (fun j e=>by cases e;exact o.bX)⟩
theorem Mo.task {J L O:Value} {h:ar} {m g:List (Int×bq)} {rs:List Int} {d:ax} (o:Mo b B w T M X E V D F I N J L O h m g rs d) {w':World} {h':ar} {nO':Value} (A:w.grownBy w' (some T)) (W:w'.heap[T]? =some (.cells #[E,.i h'.ae,.i h'.old,.i h'.bk,.i h'.be,nO',.i h'.next,I,N,J,L,O,D] 131 (0,0))) (hw:h'.ab=h.ab) (Y:w'.ownsRow b 3 1 nO' h'.ap.length (b8 h'.ap)) (G:nO'=V\/nO'.ownBlock=none):Mo b B w' T M X E nO' D F I N J L O h' m g rs d/\Below b w w':=
 have hi: [some T,some M,some X,E.ownBlock,V.ownBlock,D.ownBlock,F.ownBlock][0]? =some (some T):=rfl
 have Z:sr [some T,some M,some X,E.ownBlock,nO'.ownBlock,D.ownBlock,F.ownBlock]:=by
  rcases G with rfl | G
  ·exact o.sep
  have:=o.sep;unfold sr at this ⊢;rw [G];simp only [pairwise_cons,mem_cons,not_mem_nil,or_false,forall_eq_or_imp,forall_eq,Pairwise.nil,and_true,false_implies,implies_true]at this ⊢;refine ⟨⟨this.1.1,this.1.2.1,this.1.2.2.1,fun _ _ e=>(by cases e),this.1.2.2.2.2⟩,⟨this.2.1.1,this.2.1.2.1,fun _ _ e=>(by cases e),this.2.1.2.2.2⟩,⟨this.2.2.1.1,fun _ _ e=>(by cases e),this.2.2.1.2.2⟩,⟨fun _ _ e=>(by cases e),this.2.2.2.1.2⟩,⟨fun _ e=>(by cases e),fun _ e=>(by cases e)⟩,this.2.2.2.2.2⟩
 ⟨⟨W,(A.block M (bz o.sd) (fun e=>qr o.sep (j:=1) (by decide) hi (congrArg some e))).trans o.sd,hw ▸ o.rW.kept A (inr fun e=>qr o.sep (j:=3) (by decide) hi (congrArg some e)),Y,o.rR.kept A (inr fun e=>qr o.sep (j:=5) (by decide) hi (congrArg some e)),o.rG.kept A (inr fun e=>qr o.sep (j:=6) (by decide) hi (congrArg some e)),o.mp.kept A (fun e=>qr o.sep (j:=2) (by decide) hi (congrArg some e)),o.lkUp A o.bT,o.le,o.bT,o.bM,o.bX,Z⟩,(br b w).grown A (by have:=bz o.blk;have:=o.bT;omega) (fun j e=>by cases e;exact o.bT)⟩
structure mq (L T M X:Nat) (nW gv:Value) (w:World) (gv':Value) (w':World):Prop where
 os:w'.os=w.os
 tape:w'.tape=w.tape
 output:w'.output=w.output
 size:w.heap.size<=w'.heap.size
 block:∀k,k<L->k<w.heap.size->k≠T->k≠M->k≠X->nW.ownBlock≠some k->gv.ownBlock≠some k->w'.heap[k]? =w.heap[k]?
 gv:∀j,gv'.ownBlock=some j->gv.ownBlock=some j\/L<=j
theorem mq.trans {D E F:Value} {J N O:World} (h:mq L T M X A D J E N) (k:mq L T M X A E N F O):mq L T M X A D J F O:=
 ⟨k.os.trans h.os,k.tape.trans h.tape,k.output.trans h.output,lt3 h.size k.size,fun j G I a b c e f=>(k.block j G (ll3 I h.size) a b c e (fun q=>by
  rcases h.gv j q with q | q
  ·exact f q
  ·omega)).trans (h.block j G I a b c e f),fun j e=>by
  rcases k.gv j e with e | e
  ·exact h.gv j e
  exact inr e⟩
theorem mq.mono {A T M X:Nat} {F D E:Value} {G I:World} (h:mq L T M X F D G E I) (N:A<=L):mq A T M X F D G E I:=
 ⟨h.os,h.tape,h.output,h.size,fun j J=>h.block j (by omega),fun j e=>(h.gv j e).imp id fun e=>by omega⟩
theorem mq.ofBelow {w w':World} (h:Below L w w'):mq L T M X E A w A w':=⟨h.os,h.tape,h.output,h.size,fun j D _ _ _ _ _ _=>h.block j D,fun _ e=>inl e⟩
theorem mq.ofGrown {w w':World} (h:w.grownBy w' (some k)) (E:k=T\/k=M\/k=X\/D.ownBlock=some k\/L<=k):mq L T M X D A w A w':=
 ⟨h.os,h.tape,h.output,h.size,fun j G F a b c e _=>h.block j F (fun q=>by
  have q:=ojq q;subst q;rcases E with q | q | q | q | q
  ·exact a q
  ·exact b q
  ·exact c q
  ·exact e q
  omega),fun _ e=>inl e⟩
theorem mq.toBelow {h:ar} {m g:List (Int×bq)} {rs:List Int} {d:ax} (o:Mo b B w T M X E O V D F J G I N h m g rs d) {L:Nat} (k:mq L T M X E D w A w') (Y:b<=L):Below b w w':=
 ⟨k.os,k.tape,k.output,k.size,fun j W=>k.block j (by omega) (by have:=bz o.blk;have:=o.bT;omega) (by have:=o.bT;omega) (by have:=o.bM;omega) (by have:=o.bX;omega) (fun e=>by have:=(o.rW.lt j e).1;omega) (fun e=>by have:=(o.rG.lt j e).1;omega)⟩
theorem Mo.more {O V E kC kS kF kN kT:Value} {h:ar} {m g:List (Int×bq)} {rs:List Int} {d:ax} (o:Mo b B w T M X N O V E kC kS kF kN kT h m g rs d) {Z w':World} {q:Int×bq} {F cA:Nat} (G:w.grownBy Z E.ownBlock) (hr:Z.ownsRow b 101 4 (.slice (some ⟨F,0,none⟩) (g.length+1) cA) (g.length+1) (fy (g.map (·.2))++ [.i q.2.loc,.i q.2.tag,.i q.2.len,.i q.2.hash])) (hA:E.ownBlock=some F\/w.heap.size<=F) (hw:w'=Z.setCell ⟨M,2,none⟩ (.slice (some ⟨F,0,none⟩) (g.length+1) cA)):
 Mo b B w' T M X N O V (.slice (some ⟨F,0,none⟩) (g.length+1) cA) kC kS kF kN kT h m (g++ [q]) rs d/\Below b w w'/\∀L,L<=w.heap.size->mq L T M X N E w (.slice (some ⟨F,0,none⟩) (g.length+1) cA) w':=by
 have lT:=bz o.blk;have lM:=bz o.sd;have lX:=o.mp.lt;have I:∀(k i:Nat),i<6-> [some T,some M,some X,N.ownBlock,O.ownBlock,V.ownBlock,E.ownBlock][i]? =some (some k)->E.ownBlock≠some k:=fun k i hi e Y=>qr o.sep (j:=6) hi e (congrArg some Y);have W:∀(k i:Nat),i<6-> [some T,some M,some X,N.ownBlock,O.ownBlock,V.ownBlock,E.ownBlock][i]? =some (some k)->k<w.heap.size->F≠k:=fun k i hi e hk Y=>by
  rcases hA with h1 | h1
  ·exact I k i hi e (by rw [h1,Y])
  omega
 have k1:Z.heap[M]? =some (.cells #[.p T,.map (some X),E] 196 (0,0)):=(G.block M lM (fun e=>I M 1 (by decide) rfl e.symm)).trans o.sd;have A:Z.grownBy w' (some M):=hw ▸ pi (grownBy.refl _ _) _ _ (inl rfl);have k2:w'.heap[M]? =some (.cells #[.p T,.map (some X),.slice (some ⟨F,0,none⟩) (g.length+1) cA] 196 (0,0)):=hw ▸ s9 k1 _;have au:=G.size;have ah:N.ownBlock≠some M:=fun e=>qr o.sep (i:=1) (j:=3) (by decide) rfl (congrArg some e);have ad:O.ownBlock≠some M:=fun e=>qr o.sep (i:=1) (j:=4) (by decide) rfl (congrArg some e);have ae:V.ownBlock≠some M:=fun e=>qr o.sep (i:=1) (j:=5) (by decide) rfl (congrArg some e);have af:T≠M:=fun e=>qr o.sep (i:=0) (j:=1) (by decide) rfl (by rw [e];rfl);have ai:X≠M:=fun e=>qr o.sep (i:=1) (j:=2) (by decide) rfl (by rw [e];rfl);have J:∀ {v:Value} {l:List Int} (i:Nat),i<6-> [some T,some M,some X,N.ownBlock,O.ownBlock,V.ownBlock,E.ownBlock][i]? =some v.ownBlock->w.ownsRow b 3 1 v l.length (b8 l)->v.ownBlock≠some M->w'.ownsRow b 3 1 v l.length (b8 l):=fun {v l} i hi e ho hm=>by
  refine ownsRow.kept (ownsRow.kept ho G ?_) A (inr hm);cases hv:v.ownBlock with
  | none=>exact inl rfl
  | some k=>exact inr fun Y=>I k i hi (by rw [e,hv]) Y.symm
 have ak:b<=w.heap.size:=by have:=o.bT;omega
 have al:∀k,E.ownBlock=some k->b<=k:=fun k e=>(o.rG.lt k e).1;have aa:Below b w Z:=(br b w).grown G ak al;have an:=hr.lt F rfl;refine ⟨⟨(A.block T (by omega) (fun e=>af (ojq e))).trans ((G.block T lT (fun e=>I T 0 (by decide) rfl e.symm)).trans o.blk),k2,J 3 (by decide) rfl o.rW ah,J 4 (by decide) rfl o.rO ad,J 5 (by decide) rfl o.rR ae,?_,(o.mp.kept G (fun e=>I X 2 (by decide) rfl e.symm)).kept A (fun e=>ai (ojq e)),o.lk.kept (Kp.below ((aa.grown A (by omega) (fun j e=>by cases e;exact o.bM)).mono o.le)),o.le,o.bT,o.bM,o.bX,?_⟩,aa.grown A (by omega) (fun j e=>by cases e;exact o.bM),fun L hL=>⟨A.os.trans G.os,A.tape.trans G.tape,A.output.trans G.output,lt3 G.size A.size,fun j hj hl _ b _ _ f=>(A.block j (by omega) (fun e=>b (ojq e))).trans (G.block j hl (fun e=>f e.symm)),fun j e=>by
  have e:F=j:=ojq e;rcases hA with q | q
  ·exact inl (by rw [q,e])
  exact inr (by omega)⟩⟩
 ·have e1:(g++ [q]).length=g.length+1:=by simp
  rw [e1,map_append,map_cons,map_nil,zhb];exact hr.kept A (inr fun e=>W M 1 (by decide) rfl lM (ojq e))
 have hp:sr ([some T,some M,some X,N.ownBlock,O.ownBlock,V.ownBlock]++ [E.ownBlock]):=o.sep;show sr ([some T,some M,some X,N.ownBlock,O.ownBlock,V.ownBlock]++ [some F]);unfold sr at hp ⊢;rw [pairwise_append]at hp ⊢;refine ⟨hp.1,pairwise_singleton ..,fun a ha c hc k hk=>?_⟩;rw [mem_singleton]at hc;subst hc;subst hk;intro e;obtain ⟨i,hi,Y⟩:=getElem_of_mem ha;have ac:i<6:=hi;have D: [some T,some M,some X,N.ownBlock,O.ownBlock,V.ownBlock,E.ownBlock][i]? =some (some k):=by
  have:([some T,some M,some X,N.ownBlock,O.ownBlock,V.ownBlock]++ [E.ownBlock])[i]? =some (some k):=by rw [getElem?_append_left hi,getElem?_eq_getElem hi,Y]
  exact this
 have am:k<w.heap.size:=by
  match i,ac,D with
  | 0,_,D=>have:=ojq (ojq D);omega
  | 1,_,D=>have:=ojq (ojq D);omega
  | 2,_,D=>have:=ojq (ojq D);omega
  | 3,_,D=>exact (o.rW.lt k (ojq D)).2
  | 4,_,D=>exact (o.rO.lt k (ojq D)).2
  | 5,_,D=>exact (o.rR.lt k (ojq D)).2
 exact W k i ac D am (ojq e)
theorem zvj {A:List Value} {ws l:List Int} {off:Nat} (hc:A.take ws.length=b8 ws) (h:off+l.length<=ws.length):
 (A.take off++(b8 l++A.drop (off+l.length))).take ws.length=b8 (mx ws off l):=by
 have F:ws.length<=A.length:=by have:=congrArg length hc;rw [length_take,vi]at this;omega
 have D:A.take off=b8 (ws.take off):=by
  have:(A.take ws.length).take off=(b8 ws).take off:=by rw [hc]
  rw [take_take,Nat.min_eq_left (by omega)]at this;rw [this,b8,b8,map_take]
 have E:(A.drop (off+l.length)).take (ws.length - (off+l.length))=b8 (ws.drop (off+l.length)):=by
  have:(A.take ws.length).drop (off+l.length)=(b8 ws).drop (off+l.length):=by rw [hc]
  rw [drop_take]at this;rw [this,b8,b8,map_drop]
 rw [take_append,take_append,length_take,Nat.min_eq_left (by omega),take_of_length_le (by rw [length_take];omega)];rw [take_of_length_le (l:=b8 l) (by rw [vi];omega)];rw [show ws.length - off - (b8 l).length=ws.length - (off+l.length) by rw [vi];omega,D,E,mx,zig,zig]
theorem zvk {K:Act->World->Prop} {Q:Exit->Act->World->Prop} {E:Prop} (af:o.guard=none) (dd s:Operand) (ho:o.op=.call { callee:=.builtin .copy,args:=#[dd,s],argTypes:=#[22,22] }) (b g off A n D G L cap:Nat) (ws:List Int) (I:w.ownsRow b 3 1 (.slice (some ⟨g,0,none⟩) ws.length cap) ws.length (b8 ws)) (hd:a.eval dd=.slice (some ⟨g,off,none⟩) D G) (hs:a.eval s=.slice (some ⟨g,A,none⟩) n L) (am:off+n<=ws.length) (ak:A+n<=ws.length) (ae:n<=D) (h:∀w',w.grownBy w' (some g)->w'.ownsRow b 3 1 (.slice (some ⟨g,0,none⟩) ws.length cap) (mx ws off (mi ws A n)).length (b8 (mx ws off (mi ws A n)))->K (a.put o.dst (goInt n)) w'):
 if Region.wanted o (yielded ops a.tmps)=true then Oper.wp prog o a w K Q else E:=by
 have hw:Region.wanted o (yielded ops a.tmps)=true:=by simp [Region.wanted,af]
 rw [if_pos hw];have F:(mi ws A n).length=n:=zt7 ak;have W:=I;obtain ⟨h1,h2⟩:=I;rcases h2 with ⟨e,h0⟩ | ⟨g',al,N,e,aa,hg,ai,ac,ad,X⟩
 ·cases e
 cases e;rw [Nat.mul_one]at X ad;have an:ws.length<=N.size:=by omega
 have J:=run_copy_row (P:=prog) w 22 22 o.type 3 g off D G ⟨g,A,none⟩ n L N 3 (b8 (mi ws A n)) underlying22 (by kernel_rfl) hg (by rw [vi,F];exact (Nat.min_eq_left ae).symm) (by
  intro j v O;rw [b8,getElem?_map]at O;cases hx:(mi ws A n)[j]? with
  | none=>rw [hx]at O;cases O
  | some x=>
    rw [hx]at O;have O:=ojq O;subst O;have ah:j<n:=by have:=(List.getElem?_eq_some_iff.1 hx).1;omega
    have Z:ws[A+j]? =some x:=by unfold mi at hx;rw [getElem?_take_of_lt ah,getElem?_drop]at hx;exact hx
    have V:A+j<ws.length:=by omega
    have:=W.cellAt (A+j) (by rw [Nat.mul_one];exact V);rw [Dy V]at this;rw [getElem?_eq_getElem V]at Z;rw [<-ojq Z];rw [zd];exact this) (by rw [vi,F];omega) (by
  intro v hv;obtain ⟨x,-,rfl⟩:=mem_map.1 hv;rfl)
 rw [vi,F]at J;unfold Oper.wp;simp [execOp,ho,resolve,invoke,builtin,hd,hs,J,Result.andThen];have Y:(mx ws off (mi ws A n)).length=ws.length:=C5 (by omega);refine h _ ⟨rfl,rfl,rfl,by simp [setRow],fun k _ hk=>setRow_other w g k _ (fun e=>hk (by rw [e]))⟩ ?_;rw [Y];refine ⟨by rw [vi,Y];simp,inr ⟨g,cap,_,rfl,aa,setRow_heap w g N _ 3 _ hg,ai,ac,?_,?_⟩⟩
 ·simp [vi,F];omega
 rw [Nat.mul_one];have:=zvj (l:=mi ws A n) (off:=off) X (by omega);rw [F]at this;exact this
end Go.Proofs.YtjdnmblggdobgaaGreat
