import Derived.Test.YtjdnmblggdobgaaGreatJTilHvE
import Derived.Lib.SliceRun
set_option maxHeartbeats 2000000
set_option maxRecDepth 100000
namespace Go.Proofs.YtjdnmblggdobgaaGreat
open Go.RowKit Go.Maps Tryz
theorem zr1 (w:World) (c:Value) (G:Option Addr) (n I:Nat):
 Calls prog 135 #[.agg #[c,.slice G n I]] w fun r w'=>r=.returned (.bool (decide ((n:Int)<=1000)))/\Bl w w':=by
 obtain ⟨N,D,A,J,L⟩:=mi w #[c,.slice G n I] 188;have E:=ag A;have F:=ag D;have O:=bp L 1 (x:=.slice G n I) rfl;have V:=bz L;clear D L A J;go_enter func135,ntmps135;go_wp2_with fail;rw [<-F.o];go_wp2_with fail;go_ret;exact ⟨rfl,E.o⟩
theorem zr2 (w:World) (P:Nat) (D:Option Addr) (n E:Nat) (A ot:Int) (F:w.cell? ⟨P,0,none⟩=some (.slice D n E)) (G:w.cell? ⟨P,3,none⟩=some (.i A)) (I:w.cell? ⟨P,4,none⟩=some (.i ot)) (h1:n<=1000000) (J:0<=A/\A<=1000000) (L:0<=ot/\ot<=1000000):
 Calls prog 83 #[.p P] w fun r w'=>r=.returned (.i ((n:Int) - ot - (A - 1)))/\∃q,w'=w.drewN q:=by
 have N:IntKind.i64.wrap ((n:Int) - ot)=(n:Int) - ot:=by rw [IntKind.wrap_i64];omega
 have O:IntKind.i64.wrap (A - 1)=A - 1:=by rw [IntKind.wrap_i64];omega
 have V:IntKind.i64.wrap ((n:Int) - ot - (A - 1))=(n:Int) - ot - (A - 1):=by rw [IntKind.wrap_i64];omega
 go_enter func83,ntmps83;go_wp2_with fail;go_quiet (fail);go_wp2_with fail;go_ret;exact ⟨rfl,_,rfl⟩
theorem zr3 (w:World) (X B:Nat) (W V G L I J N O:Value) (h:ar) (d:bd) (ts:List bk) (hc:qr X B w W V G L I J N O h d ts) (P:Nat) (Y:w.cell? ⟨P,0,none⟩=some (.p (X+1))) (x:Int) (E:(Lit.int .i64 x).wf=true):
 Calls prog 189 #[.i x,.p P] w fun r w'=>r=.returned (.bool (!b8 ts x))/\Bl w w':=by
 have D:=ag (zhv w X B _ _ _ _ _ _ _ _ h d ts hc x E);clear hc E;go_enter func189,ntmps189;go_wp2_with fail;refine D.o.mono ?_;rintro r Z ⟨rfl,A⟩;have F:=ag A;clear A D;go_wp2_with fail;go_ret;exact ⟨rfl,F.o⟩
theorem zr4 (w:World) (X B C:Nat) (vW vO kC kS kF kN kT vA:Value) (h:ar) (d:bd) (ts:List bk) (hc:qr X B w vW vO kC kS kF kN kT vA h d ts) (D:Value) (rs:List Int) (hs:SL 1 RI (· <C) w D rs) (Y:C<=w.heap.size) (J:∀x∈rs,(Lit.int .i64 x).wf=true):
 Calls prog 136 #[.agg #[.p (X+1),D]] w fun r w'=>r=.returned (.bool (!rs.any fun x=>!b8 ts x))/\Bl w w':=by
 have aa:=qj prog;obtain ⟨W,hW,A,O,L⟩:=mi w #[.p (X+1),D] 188;have I:=hc.below A;have hp:=bp L 0 (x:=.p (X+1)) rfl;have F:Hid (Calls prog 174 #[D,.func (.func 189) #[] #[.p w.heap.size]] W fun r w'=>r=.returned (.bool (rs.any fun x=>!b8 ts x))/\Bl W w'):=by refine zhy _ C D _ (hs.keptI (Kp.below (A.mono Y))) (lt3 Y A.size) 189 #[] _ (fun x=>!b8 ts x) (fun args w=>by kernel_rfl) ?_;intro x hx V Z;exact zr3 V X B _ _ _ _ _ _ _ vA h d ts (I.below Z) w.heap.size ((Z.cell (p:=⟨w.heap.size,0,none⟩) (by show w.heap.size<_;omega)).trans hp) x (J x hx)
 have c1:=bp L 1 (x:=D) rfl;have gl:=bz L;have E:=ag A;have HW:=ag hW;obtain ⟨a,q,rfl,-⟩:=hs;clear hc I A hp J hW L O;generalize (rs.any fun x=>!b8 ts x)=b at*;go_enter func136,ntmps136;go_wp2_with fail;rw [<-HW.o];refine F.o.mono ?_;rintro r w1 ⟨rfl,G⟩;have N:Hid (Bl w w1):=E.o.trans (G.mono E.o.size);clear G F;go_wp2_with fail;go_ret;exact ⟨rfl,N.o⟩
def lj (ws:List Int) (loc n:Nat):List Int:=(ws.drop loc).take n
def ma (ws:List Int) (off:Nat) (l:List Int):List Int:=ws.take off++(l++ws.drop (off+l.length))
theorem Cp {ws:List Int} {off:Nat} {l:List Int} (h:off+l.length<=ws.length):(ma ws off l).length=ws.length:=by simp [ma];omega
theorem zuh {ws:List Int} {A n:Nat} (h:A+n<=ws.length):(lj ws A n).length=n:=by simp [lj];omega
theorem zui {ws:List Int} {A n:Nat} {i:Int} (h0:0<=i) (h1:i<n):wd (lj ws A n) i=wd ws (A+i):=by unfold wd lj;rw [List.getElem?_take_of_lt (by omega),List.getElem?_drop,show A+i.toNat=((A:Int)+i).toNat by omega]
theorem zuj {ws:List Int} {off:Nat} {l:List Int} {a:Int} (h:off<=ws.length) (h1:(off:Int)<=a) (A:a<off+l.length):wd (ma ws off l) a=wd l (a - off):=by
 unfold wd ma;have e:(ws.take off).length=off:=by simp;omega
 rw [List.getElem?_append_right (by omega),e,List.getElem?_append_left (by omega),show a.toNat - off=(a - off).toNat by omega]
theorem zuk {ws:List Int} {off:Nat} {l:List Int} {a:Int} (h:off+l.length<=ws.length) (h0:0<=a) (h1:a<off\/off+l.length<=a):wd (ma ws off l) a=wd ws a:=by
 unfold wd ma;have e:(ws.take off).length=off:=by simp;omega
 rcases h1 with h1 | h1
 ·rw [List.getElem?_append_left (by omega),List.getElem?_take_of_lt (by omega)]
 rw [List.getElem?_append_right (by omega),e,List.getElem?_append_right (by omega),List.getElem?_drop,show off+l.length+(a.toNat - off - l.length)=a.toNat by omega]
structure ga where
 h:ar
 mv:List (Int×bk)
def ij (mv:List (Int×bk)) (n:Int):Option Int:=mv.foldl (fun acc p=>if p.1=n then some p.2.loc else acc) none
theorem zul (mv:List (Int×bk)) (p:Int×bk) (n:Int):ij (mv++ [p]) n=if p.1=n then some p.2.loc else ij mv n:=by unfold ij;rw [List.foldl_append];rfl
def Bt (h:ar) (t:bk):ar:=⟨ma h.ab h.ba.toNat (lj h.ab t.loc.toNat (t.len+3).toNat),h.ae,h.old,h.bo,h.ba+3+t.len,h.am,h.next⟩
def ga.move (s:ga) (t:bk):ga:=⟨Bt s.h t,s.mv++ [(t.loc,⟨s.h.ba,t.tag,t.len,t.hash⟩)]⟩
def ga.dst (s:ga) (v:Int):Int:=if dm s.h v then (ij s.mv v).getD s.h.ba else v
def ga.lead (s:ga) (v:Int):ga:=if dm s.h v&&(ij s.mv v).isNone then s.move (bj s.h.ab v) else s
def ga.put (s:ga) (a v:Int):ga:=⟨setW s.h a.toNat v,s.mv⟩
def ga.ref (s:ga) (a:Int):ga:=(s.lead (wd s.h.ab a)).put a (s.dst (wd s.h.ab a))
def ga.refs (s:ga) (l:List Int):ga:=l.foldl ga.ref s
def ga.roots (s:ga) (rs:List Int):ga:=rs.foldl ga.lead s
def ga.tos (s:ga):List Int->List Int
 | []=>[]
 | r::rs=>s.dst r::(s.lead r).tos rs
def ga.am (fs:List (List bq)) (s:ga) (ns:List Int):ga:=ns.foldl (fun s n=>s.refs (refsOf fs (bj s.h.ab n))) s
def ga.gone (fs:List (List bq)):Nat->Nat->ga->ga
 | 0,_,s=>s
 | f+1,i,s=>match s.mv[i]? with
   | none=>s
   | some p=>ga.gone fs f (i+1) (s.refs (refsOf fs p.2))
def qw (h:ar):ar:=⟨ma h.ab 1 (List.replicate h.ae.toNat 0),h.ae,h.old,1,h.ba,[],h.next⟩
def ie (d:bd) (h:ar) (rs:List Int):ga:=ga.gone d.fields h.ab.length 0 (ga.am d.fields (ga.roots ⟨h,[]⟩ rs) h.am)
def im (d:bd) (h:ar) (rs:List Int):ar:=qw (ie d h rs).h
def j8 (h:ar) (rs:List Int):List Int:=ga.tos ⟨h,[]⟩ rs
def leftD (h:ar):Int:=(h.ab.length:Int) - h.ba - (h.bo - 1)
def Laid:Int->List (Int×bk)->Int->Prop
 | lo,[],hi=>lo=hi
 | lo,p::r,hi=>p.2.loc=lo/\Laid p.2.fin r hi
def jo (mv:List (Int×bk)) (v:Int):Int:=(ij mv v).getD v
def jf:List (Int×bk)->Int->Int
 | [],a=>a
 | p::r,a=>if p.2.loc<=a/\a<p.2.fin then p.1+(a - p.2.loc) else jf r a
theorem zum {p:Int×bk} :∀ {l:List (Int×bk)} {lo hi:Int},Laid lo l hi->p.2.loc=hi->Laid lo (l++ [p]) p.2.fin
 | [],_,_,h,e=>⟨e.trans h.symm,rfl⟩
 | _::_,_,_,h,e=>⟨h.1,zum h.2 e⟩
theorem Cq:∀ {l:List (Int×bk)} {lo hi:Int},Laid lo l hi->(∀p∈l,0<=p.2.len)->lo<=hi/\∀p∈l,lo<=p.2.loc/\p.2.fin<=hi
 | [],lo,hi,h,_=>⟨Int.le_of_eq h,fun p A=>by cases A⟩
 | q::r,lo,hi,h,hl=>by
   have D:=Cq h.2 fun p A=>hl p (List.mem_cons_of_mem _ A);have h0:=hl q (List.mem_cons_self ..);have h1:q.2.fin=q.2.loc+3+q.2.len:=rfl;have E:=h.1;refine ⟨by omega,fun p A=>?_⟩;rcases List.mem_cons.1 A with rfl | A
   ·exact ⟨by omega,by omega⟩
   have:=D.2 p A;exact ⟨by omega,this.2⟩
theorem zuo:∀ {l:List (Int×bk)} {a:Int},(∀p∈l,¬(p.2.loc<=a/\a<p.2.fin))->jf l a=a
 | [],a,_=>rfl
 | q::r,a,h=>by rw [jf,if_neg (h q (List.mem_cons_self ..))];exact zuo fun p A=>h p (List.mem_cons_of_mem _ A)
theorem zup {p:Int×bk} {a:Int} (h1:p.2.loc<=a) (E:a<p.2.fin):∀ {l:List (Int×bk)} {lo hi:Int},Laid lo l hi->(∀p∈l,0<=p.2.len)->p∈l->jf l a=p.1+(a - p.2.loc)
 | [],lo,hi,h,_,A=>by cases A
 | q::r,lo,hi,h,hl,A=>by
   rw [jf];rcases List.mem_cons.1 A with rfl | A
   ·rw [if_pos ⟨h1,E⟩]
   have D:∀p∈r,0<=p.2.len:=fun p A=>hl p (List.mem_cons_of_mem _ A);have:=(Cq h.2 D).2 p A;rw [if_neg (by omega)];exact zup h1 E h.2 D A
theorem zuq {p:Int×bk} {a:Int} :∀ {l:List (Int×bk)},¬(p.2.loc<=a/\a<p.2.fin)->jf (l++ [p]) a=jf l a
 | [],h=>by show jf [p] a=a;rw [jf,if_neg h];rfl
 | q::r,h=>by rw [List.cons_append,jf,jf,zuq h]
theorem zur:∀ {l:List (Int×bk)} {v:Int},v∉l.map (·.1)->ij l v=none:=by
 intro l v h;unfold ij;induction l with
 | nil=>rfl
 | cons p r ih=>
   rw [List.map_cons,List.mem_cons,not_or]at h;rw [List.foldl_cons,if_neg (fun e=>h.1 e.symm)];exact ih h.2
theorem zus:∀ {l:List (Int×bk)} {p:Int×bk},p∈l->(l.map (·.1)).Nodup->ij l p.1=some p.2.loc:=by
 intro l p D E;have G:∀(r:List (Int×bk)) (A:Option Int),p.1∉r.map (·.1)->r.foldl (fun A q=>if q.1=p.1 then some q.2.loc else A) A=A:=by
  intro r;induction r with
  | nil=>intro A _;rfl
  | cons q r ih=>
    intro A h;rw [List.map_cons,List.mem_cons,not_or]at h;rw [List.foldl_cons,if_neg (fun e=>h.1 e.symm)];exact ih A h.2
 unfold ij;have F:∀(r:List (Int×bk)) (A:Option Int),p∈r->(r.map (·.1)).Nodup->r.foldl (fun A q=>if q.1=p.1 then some q.2.loc else A) A=some p.2.loc:=by
  intro r;induction r with
  | nil=>intro A D;cases D
  | cons q r ih=>
    intro A D E;rw [List.map_cons,List.nodup_cons]at E;rw [List.foldl_cons];rcases List.mem_cons.1 D with rfl | D
    ·rw [if_pos rfl];exact G r _ E.1
    exact ih _ D E.2
 exact F l none D E
theorem zut {l:List (Int×bk)} {v E:Int} (h:ij l v=some E):∃p∈l,p.1=v/\p.2.loc=E:=by
 have D:∀(r:List (Int×bk)) (A:Option Int),r.foldl (fun A q=>if q.1=v then some q.2.loc else A) A=some E->A=some E\/∃p∈r,p.1=v/\p.2.loc=E:=by
  intro r;induction r with
  | nil=>intro A h;exact Or.inl h
  | cons q r ih=>
    intro A h;rw [List.foldl_cons]at h;rcases ih _ h with h | ⟨p,F,h⟩
    ·by_cases e:q.1=v
     ·rw [if_pos e]at h;exact Or.inr ⟨q,List.mem_cons_self ..,e,ojq h⟩
     rw [if_neg e]at h;exact Or.inl h
    exact Or.inr ⟨p,List.mem_cons_of_mem _ F,h⟩
 rcases D l none h with h | h
 ·cases h
 exact h
theorem zuu {l:List (Int×bk)} {v:Int} :(ij l v).isSome=true↔v∈l.map (·.1):=by
 constructor
 ·intro h;obtain ⟨F,e⟩:=Option.isSome_iff_exists.1 h;obtain ⟨p,E,e,-⟩:=zut e;exact List.mem_map.2 ⟨p,E,e⟩
 intro h;cases e:ij l v with
 | some F=>rfl
 | none=>
   exfalso;obtain ⟨p,E,rfl⟩:=List.mem_map.1 h;have D:∀(r:List (Int×bk)) (A:Option Int),(p∈r\/A.isSome=true)->(r.foldl (fun A q=>if q.1=p.1 then some q.2.loc else A) A).isSome=true:=by
    intro r;induction r with
    | nil=>intro A h;rcases h with h | h
           ·cases h
           exact h
    | cons q r ih=>
      intro A h;rw [List.foldl_cons];refine ih _ ?_;by_cases e:q.1=p.1
      ·rw [if_pos e];exact Or.inr rfl
      rw [if_neg e];rcases h with h | h
      ·rcases List.mem_cons.1 h with rfl | h
       ·exact absurd rfl e
       exact Or.inl h
      exact Or.inr h
   have:=D l none (Or.inl E);unfold ij at e;rw [e]at this;cases this
structure YgT (d:bd) (h:ar) (t:bk):Prop where
 lo:1<=t.loc
 fin:t.fin<=h.bo
 eq:t=bj h.ab t.loc
 fit:pm d t
theorem xw {d:bd} {h:ar} {ts:List bk} (r:Right d h ts) {t:bk} (A:t∈ts) (J:t.loc<=h.ae):YgT d h t:=by
 have D:=r.sized;obtain ⟨N,L,E,F,rfl⟩:=xu r.both;have G:=D.bo;have I:=D.ba;have h1:=D.ae;rcases List.mem_append.1 A with A | A
 ·have q:=sc E t A;exact ⟨q.1,q.2.1,q.2.2.1,zkp (Ds r.ok) q (by omega) (by omega)⟩
 have q:=sc F t A;have:=q.1;omega
theorem uj {h:ar} {v:Int} :dm h v=true↔0<v/\v<=h.ae:=by unfold dm;simp only [Bool.and_eq_true,decide_eq_true_eq]
theorem Du {ts:List bk} {v:Int} (h:b8 ts v=true) (h0:v≠0):∃t∈ts,t.loc=v:=by
 unfold b8 at h;rw [Bool.or_eq_true]at h;rcases h with h | h
 ·obtain ⟨t,e⟩:=Option.isSome_iff_exists.1 h;exact ⟨t,Dr ts e⟩
 exact absurd (beq_iff_eq.1 h) h0
theorem zuy {f:Int->Int} :∀(m:List Int),(∀x∈m,0<=f x)->0<=(m.map f).sum
 | [],_=>Int.le_refl _
 | x::m,h0=>by have h1:=zuy m fun x A=>h0 x (List.mem_cons_of_mem _ A);have D:=h0 x (List.mem_cons_self ..);rw [List.map_cons,List.sum_cons];omega
theorem zuz {l m:List Int} (h:l.Perm m):l.sum=m.sum:=by
 induction h with
 | nil=>rfl
 | cons x _ ih=>rw [List.sum_cons,List.sum_cons,ih]
 | swap x y l=>simp only [List.sum_cons];omega
 | trans _ _ h1 h2=>exact h1.trans h2
theorem zu0 {f:Int->Int} :∀(l m:List Int),l.Nodup->(∀x∈l,x∈m)->(∀x∈m,0<=f x)->(l.map f).sum<=(m.map f).sum
 | [],m,_,_,h0=>zuy m h0
 | x::l,m,hn,hs,h0=>by
   rw [List.nodup_cons]at hn;have E:=hs x (List.mem_cons_self ..);have F:=zu0 l (m.erase x) hn.2 (fun y A=>(List.mem_erase_of_ne (fun e=>hn.1 (by rw [<-e];exact A))).2 (hs y (List.mem_cons_of_mem _ A))) (fun y A=>h0 y (List.mem_of_mem_erase A));have e:(m.map f).sum=f x+((m.erase x).map f).sum:=by have D:=(List.perm_cons_erase E).map f;have:=zuz D;rwa [List.map_cons,List.sum_cons]at this
   rw [e,List.map_cons,List.sum_cons];omega
theorem zu1 {n:Nat} {fs:List (List bq)} {ws:List Int} {A:Int} :∀(f:Nat) (lo:Int) (ts:List bk),(A - lo).toNat<=f->lo<=A->b9 n fs ws lo A=some ts->(ts.map fun t=>3+t.len).sum=A - lo
 | f,lo,ts,hf,hl,e=>by
   by_cases D:lo<A
   ·by_cases E:gr n fs ws lo A=true
    ·rw [Cb D E]at e;cases hx:b9 n fs ws (bj ws lo).fin A with
     | none=>rw [hx]at e;cases e
     | some ts'=>
       rw [hx]at e;have e:=ojq e;subst e;have h1:=Ay E;match f,hf with
       | 0,hf=>omega
       | f+1,hf=>
         have F:=zu1 f (bj ws lo).fin ts' (by omega) h1.2.1 hx;rw [List.map_cons,List.sum_cons,F];have:(bj ws lo).fin=lo+3+(bj ws lo).len:=rfl;omega
    rw [Cc D E]at e;cases e
   rw [A6 D]at e;have e:=ojq e;subst e;simp;omega
structure jh (d:bd) (h0:ar) (ts:List bk) (s:ga) (dn:Int->Prop):Prop where
 len:s.h.ab.length=h0.ab.length
 yo:s.h.ae=h0.ae
 ol:s.h.old=h0.old
 yt:s.h.bo=h0.bo
 no:s.h.am=h0.am
 nx:s.h.next=h0.next
 fr:∀p∈s.mv,∃t∈ts,dm h0 t.loc=true/\p.1=t.loc/\p.2.tag=t.tag/\p.2.len=t.len/\p.2.hash=t.hash
 laid:Laid h0.ba s.mv s.h.ba
 nd:(s.mv.map (·.1)).Nodup
 yes:∀a:Int,0<=a->a<h0.ab.length->dn a->wd s.h.ab a=jo s.mv (wd h0.ab (jf s.mv a))
 A3:∀a:Int,0<=a->a<h0.ab.length->¬dn a->wd s.h.ab a=wd h0.ab (jf s.mv a)
 E8:∀a:Int,dn a->h0.ae<a/\a<s.h.ba/\(dm h0 (wd h0.ab (jf s.mv a))=true->wd h0.ab (jf s.mv a)∈s.mv.map (·.1))
def Ext (s s':ga):Prop:=(∃e,s'.mv=s.mv++e)/\s.h.ba<=s'.h.ba/\∀a,a<s.h.ba->jf s'.mv a=jf s.mv a
theorem Ext.refl (s:ga):Ext s s:=⟨⟨[],(List.append_nil _).symm⟩,Int.le_refl _,fun _ _=>rfl⟩
theorem Ext.trans {s D A:ga} (h:Ext s D) (g:Ext D A):Ext s A:=by obtain ⟨⟨e,I⟩,N,F⟩:=h;obtain ⟨⟨f,J⟩,L,E⟩:=g;exact ⟨⟨e++f,by rw [J,I,List.append_assoc]⟩,by omega,fun a G=>(E a (by omega)).trans (F a G)⟩
theorem zu2 {d:bd} {h:ar} {ts:List bk} :jh d h ts ⟨h,[]⟩ (fun _=>False):=
 ⟨rfl,rfl,rfl,rfl,rfl,rfl,(fun p A=>by cases A),rfl,List.nodup_nil,fun a _ _ h=>h.elim,fun a _ _ _=>rfl,fun a h=>h.elim⟩
section
variable {d:bd} {h0:ar} {ts:List bk} {s:ga} {dn:Int->Prop}
theorem jh.lens (r:Right d h0 ts) (x:jh d h0 ts s dn):∀p∈s.mv,0<=p.2.len:=fun p A=>by obtain ⟨t,D,E,-,-,e,-⟩:=x.fr p A;rw [e];exact (xw r D (uj.1 E).2).fit.lo
theorem jh.srcLow (r:Right d h0 ts) (x:jh d h0 ts s dn) {a:Int} (h:a<h0.ba):jf s.mv a=a:=
 zuo fun p A hc=>by have:=((Cq x.laid (x.lens r)).2 p A).1;omega
theorem jh.low (r:Right d h0 ts) (x:jh d h0 ts s dn) {a:Int} (h1:0<=a) (A:a<=h0.ae):wd s.h.ab a=wd h0.ab a:=by have z:=r.sized;have D:=z.ae;have E:=z.old;have F:=z.len;have G:=z.ba;rw [x.A3 a h1 (by omega) (fun h=>by have:=(x.E8 a h).1;omega),x.srcLow r (by omega)]
theorem zu3:∀ {l:List (Int×bk)} {lo hi:Int},Laid lo l hi->(l.map fun p=>3+p.2.len).sum=hi - lo
 | [],lo,hi,h=>by simp only [List.map_nil,List.sum_nil];have:lo=hi:=h;omega
 | q::r,lo,hi,h=>by rw [List.map_cons,List.sum_cons,zu3 h.2];have h1:=h.1;have:q.2.fin=q.2.loc+3+q.2.len:=rfl;omega
theorem zu4 (r:Right d h0 ts) (l:List Int) (W:l.Nodup) (X:∀a∈l,∃t∈ts,dm h0 t.loc=true/\a=t.loc):(l.map fun a=>3+wd h0.ab (a+1)).sum<=h0.bo - 1:=by
 have z:=r.sized;have Z:=z.bo;have z5:=z.ba;obtain ⟨F,Y,G,V,rfl⟩:=xu r.both;have J:∀u∈F++Y,dm h0 u.loc=true->u∈F:=fun u A E=>by
  rcases List.mem_append.1 A with A | A
  ·exact A
  have:=(sc V u A).1;have:=(uj.1 E).2;omega
 have N:∀u∈F,3+u.len=3+wd h0.ab (u.loc+1):=fun u A=>by have:=(sc G u A).2.2.1;exact congrArg (3+ ·) (congrArg bk.len this)
 have L:=zu1 _ 1 F (nlq _) (by omega) G;have D:=zu0 (f:=fun a=>3+wd h0.ab (a+1)) l (F.map bk.loc) W (by
  intro a I;obtain ⟨u,A,E,e⟩:=X a I;exact List.mem_map.2 ⟨u,J u A E,e.symm⟩) (by
  intro a I;obtain ⟨u,A,rfl⟩:=List.mem_map.1 I;show 0<=3+wd h0.ab (u.loc+1);rw [<-N u A];have:=vd (sc G u A).2.2.2.2;omega)
 rw [List.map_map]at D;have O:(F.map ((fun a=>3+wd h0.ab (a+1))∘bk.loc)).sum=h0.bo - 1:=by rw [<-L];refine congrArg List.sum (List.map_congr_left fun u A=>?_);exact (N u A).symm
 rw [O]at D;exact D
theorem jh.sum (r:Right d h0 ts) (x:jh d h0 ts s dn):(s.mv.map ((fun a=>3+wd h0.ab (a+1))∘fun p=>p.1)).sum=s.h.ba - h0.ba:=by rw [<-zu3 x.laid];refine congrArg List.sum (List.map_congr_left fun p E=>?_);obtain ⟨u,F,A,e,-,D,-⟩:=x.fr p E;show 3+wd h0.ab (p.1+1)=3+p.2.len;rw [e,D];exact (congrArg (3+ ·) (congrArg bk.len (xw r F (uj.1 A).2).eq)).symm
theorem jh.room (r:Right d h0 ts) (I:0<=leftD h0) (x:jh d h0 ts s dn) {t:bk} (F:t∈ts) (G:dm h0 t.loc=true) (J:t.loc∉s.mv.map (·.1)):s.h.ba+3+t.len<=h0.ab.length:=by
 have D:=zu4 r (t.loc::s.mv.map (·.1)) (List.nodup_cons.2 ⟨J,x.nd⟩) (by
  intro a A;rcases List.mem_cons.1 A with rfl | A
  ·exact ⟨t,F,G,rfl⟩
  obtain ⟨p,L,rfl⟩:=List.mem_map.1 A;obtain ⟨u,N,E,e,-⟩:=x.fr p L;exact ⟨u,N,E,e⟩)
 rw [List.map_cons,List.sum_cons,List.map_map,x.sum r]at D;have O:t.len=wd h0.ab (t.loc+1):=congrArg bk.len (xw r F (uj.1 G).2).eq;unfold leftD at I;omega
theorem jh.otopLe (r:Right d h0 ts) (F:0<=leftD h0) (x:jh d h0 ts s dn):s.h.ba<=h0.ab.length:=by
 have A:=zu4 r (s.mv.map (·.1)) x.nd (by
  intro a E;obtain ⟨p,G,rfl⟩:=List.mem_map.1 E;obtain ⟨u,I,D,e,-⟩:=x.fr p G;exact ⟨u,I,D,e⟩)
 rw [List.map_map,x.sum r]at A;unfold leftD at F;omega
theorem jh.ba (r:Right d h0 ts) (x:jh d h0 ts s dn):h0.ba<=s.h.ba:=(Cq x.laid (x.lens r)).1
theorem jh.youngEq (x:jh d h0 ts s dn) (v:Int):dm s.h v=dm h0 v:=by unfold dm;rw [x.yo]
theorem jh.move (r:Right d h0 ts) (hl:0<=leftD h0) (x:jh d h0 ts s dn) {t:bk} (ht:t∈ts) (W:dm h0 t.loc=true) (Z:t.loc∉s.mv.map (·.1)):jh d h0 ts (s.move t) dn/\Ext s (s.move t):=by
 have z:=r.sized;have z1:=z.ae;have z2:=z.old;have z3:=z.len;have z4:=z.bo;have z5:=z.ba;have y:=xw r ht (uj.1 W).2;have y1:=y.lo;have y2:=y.fin;have y3:=y.fit.lo;have y4:t.fin=t.loc+3+t.len:=rfl;have hr:=x.room r hl ht W Z;have ho:=x.ba r;have ad:=x.len;have aa:(s.h.ba.toNat:Int)=s.h.ba:=by omega
 have ac:(lj s.h.ab t.loc.toNat (t.len+3).toNat).length=(t.len+3).toNat:=zuh (by omega);have F:s.h.ba.toNat+(lj s.h.ab t.loc.toNat (t.len+3).toNat).length<=s.h.ab.length:=by omega
 have O:Laid h0.ba (s.mv++ [(t.loc,⟨s.h.ba,t.tag,t.len,t.hash⟩)]) (s.h.ba+3+t.len):=zum (p:=(t.loc,⟨s.h.ba,t.tag,t.len,t.hash⟩)) x.laid rfl;have Y:∀p∈s.mv++ [(t.loc,(⟨s.h.ba,t.tag,t.len,t.hash⟩:bk))],∃t∈ts,dm h0 t.loc=true/\p.1=t.loc/\p.2.tag=t.tag/\p.2.len=t.len/\p.2.hash=t.hash:=by
  intro p D;rcases List.mem_append.1 D with D | D
  ·exact x.fr p D
  rw [List.mem_singleton]at D;subst D;exact ⟨t,ht,W,rfl,rfl,rfl,rfl⟩
 have G:∀p∈s.mv++ [(t.loc,(⟨s.h.ba,t.tag,t.len,t.hash⟩:bk))],0<=p.2.len:=by
  intro p D;rcases List.mem_append.1 D with D | D
  ·exact x.lens r p D
  rw [List.mem_singleton]at D;subst D;exact y3
 have A:∀a,¬(s.h.ba<=a/\a<s.h.ba+3+t.len)->jf (s.mv++ [(t.loc,⟨s.h.ba,t.tag,t.len,t.hash⟩)]) a=jf s.mv a:=fun a N=>zuq N;have I:∀v,(dm h0 v=true->v∈s.mv.map (·.1))->jo (s.mv++ [(t.loc,⟨s.h.ba,t.tag,t.len,t.hash⟩)]) v=jo s.mv v:=by intro v hv;unfold jo;rw [zul,if_neg (fun e=>Z (by have e:t.loc=v:=e;rw [e];exact hv (e ▸ W)))]
 have V:∀a,0<=a->¬(s.h.ba<=a/\a<s.h.ba+3+t.len)->wd (s.move t).h.ab a=wd s.h.ab a:=fun a h0 N=>zuk F h0 (by omega);refine ⟨⟨(Cp F).trans x.len,x.yo,x.ol,x.yt,x.no,x.nx,Y,O,?_,?_,?_,?_⟩,⟨_,rfl⟩,by show s.h.ba<=s.h.ba+3+t.len;omega,fun a N=>A a (by omega)⟩
 ·show ((s.mv++ [(t.loc,(⟨s.h.ba,t.tag,t.len,t.hash⟩:bk))]).map (·.1)).Nodup;rw [List.map_append,List.map_cons,List.map_nil];refine List.nodup_append.2 ⟨x.nd,by simp,?_⟩;intro a N b hb e;rw [List.mem_singleton]at hb;subst hb;subst e;exact Z N
 ·intro a L X J;have h1:=x.E8 a J;rw [V a L (by omega),x.yes a L X J];show _=jo (s.mv++ [_]) (wd h0.ab (jf (s.mv++ [_]) a));rw [A a (by omega),I _ h1.2.2]
 ·intro a L X J;by_cases E:s.h.ba<=a/\a<s.h.ba+3+t.len
  ·have e1:jf (s.move t).mv a=t.loc+(a - s.h.ba):=zup (p:=(t.loc,⟨s.h.ba,t.tag,t.len,t.hash⟩)) E.1 E.2 O G (List.mem_append_right _ (List.mem_singleton.2 rfl));rw [e1];have e2:wd (s.move t).h.ab a=wd (lj s.h.ab t.loc.toNat (t.len+3).toNat) (a - s.h.ba.toNat):=zuj (by omega) (by omega) (by omega);rw [e2,zui (by omega) (by omega),show ((t.loc.toNat:Int)+(a - s.h.ba.toNat))=t.loc+(a - s.h.ba) by omega];exact x.low r (by omega) (by omega)
  rw [V a L E,x.A3 a L X J];show _=wd h0.ab (jf (s.mv++ [_]) a);rw [A a E]
 intro a J;have h1:=x.E8 a J;refine ⟨h1.1,by show a<s.h.ba+3+t.len;omega,?_⟩;show dm h0 (wd h0.ab (jf (s.mv++ [_]) a))=true->wd h0.ab (jf (s.mv++ [_]) a)∈(s.mv++ [(t.loc,(⟨s.h.ba,t.tag,t.len,t.hash⟩:bk))]).map (fun p:Int×bk=>p.1);rw [A a (by omega),List.map_append];exact fun h=>List.mem_append_left _ (h1.2.2 h)
structure Can (d:bd) (s:ga) (v:Int):Prop where
 lo:1<=v
 fin:(bj s.h.ab v).fin<=s.h.ae+1
 fit:pm d (bj s.h.ab v)
 room:s.h.ba+3+(bj s.h.ab v).len<=s.h.ab.length
 top:s.h.ae<s.h.ba
theorem jh.thEq (r:Right d h0 ts) (x:jh d h0 ts s dn) {t:bk} (A:t∈ts) (D:dm h0 t.loc=true):bj s.h.ab t.loc=t:=by
 have J:=r.sized.bo;have y:=xw r A (uj.1 D).2;have E:=y.lo;have F:=y.fin;have G:=y.fit.lo;have I:t.fin=t.loc+3+t.len:=rfl;have e:bj s.h.ab t.loc=bj h0.ab t.loc:=by unfold bj;rw [x.low r (a:=t.loc) (by omega) (by omega),x.low r (a:=t.loc+1) (by omega) (by omega),x.low r (a:=t.loc+2) (by omega) (by omega)]
 exact e.trans y.eq.symm
theorem jh.can (r:Right d h0 ts) (G:0<=leftD h0) (x:jh d h0 ts s dn) {v:Int} (L:b8 ts v=true) (A:dm s.h v=true) (I:ij s.mv v=none):Can d s v:=by
 rw [x.youngEq]at A;have F:=uj.1 A;obtain ⟨t,E,rfl⟩:=Du L (by omega);have D:t.loc∉s.mv.map (·.1):=fun h=>by have:=zuu.2 h;rw [I]at this;cases this
 have y:=xw r E F.2;have J:=x.room r G E A D;have V:=r.sized.bo;have W:=r.sized.ba;have N:=x.ba r;have O:=y.fin;have e:=x.thEq r E A;exact ⟨y.lo,by rw [e,x.yo];omega,by rw [e];exact y.fit,by rw [e,x.len];exact J,by rw [x.yo];omega⟩
theorem jh.lead (r:Right d h0 ts) (E:0<=leftD h0) (x:jh d h0 ts s dn) {v:Int} (G:b8 ts v=true):
 jh d h0 ts (s.lead v) dn/\Ext s (s.lead v)/\s.dst v=jo (s.lead v).mv v/\(dm h0 v=true->v∈(s.lead v).mv.map (·.1)):=by
 unfold ga.lead ga.dst;rw [x.youngEq];cases hy:dm h0 v with
 | false=>
   simp only [Bool.false_and,Bool.false_eq_true,if_false];refine ⟨x,Ext.refl _,?_,fun h=>h.elim⟩;unfold jo;rw [zur]
   ·rfl
   intro h;obtain ⟨p,F,rfl⟩:=List.mem_map.1 h;obtain ⟨t,_,A,e,-⟩:=x.fr p F;rw [e,A]at hy;cases hy
 | true=>
   cases hn:ij s.mv v with
   | some tt=>
     simp only [Option.isNone_some,Bool.and_false,Bool.false_eq_true,if_false,if_true,Option.getD_some,forall_const];refine ⟨x,Ext.refl _,?_,zuu.1 (by rw [hn];rfl)⟩;unfold jo;rw [hn];rfl
   | none=>
     simp only [Option.isNone_none,Bool.and_self,if_true,Option.getD_none,forall_const];have I:=uj.1 hy;obtain ⟨t,A,rfl⟩:=Du G (by omega);have D:t.loc∉s.mv.map (·.1):=fun h=>by have:=zuu.2 h;rw [hn]at this;cases this
     rw [x.thEq r A hy];have h1:=x.move r E A hy D;refine ⟨h1.1,h1.2,?_,?_⟩
     ·unfold jo ga.move;rw [zul,if_pos rfl];rfl
     show t.loc∈(s.mv++ [(t.loc,(⟨s.h.ba,t.tag,t.len,t.hash⟩:bk))]).map (fun p:Int×bk=>p.1);rw [List.map_append];exact List.mem_append_right _ (List.mem_singleton.2 rfl)
theorem jh.put (r:Right d h0 ts) (x:jh d h0 ts s dn) {a:Int} (h1:h0.ae<a) (J:a<s.h.ba) (N:a<h0.ab.length) (L:dm h0 (wd h0.ab (jf s.mv a))=true->wd h0.ab (jf s.mv a)∈s.mv.map (·.1)):
 jh d h0 ts (s.put a (jo s.mv (wd h0.ab (jf s.mv a)))) (fun b=>dn b\/b=a):=by
 have O:=r.sized.ae;have G:=x.len;have I:((a.toNat:Nat):Int)=a:=by omega
 have D:wd (s.h.ab.set a.toNat (jo s.mv (wd h0.ab (jf s.mv a)))) a=jo s.mv (wd h0.ab (jf s.mv a)):=by have:=zsa (ws:=s.h.ab) (m:=a.toNat) (v:=jo s.mv (wd h0.ab (jf s.mv a))) (by omega);rwa [I]at this
 refine ⟨(List.length_set ..).trans x.len,x.yo,x.ol,x.yt,x.no,x.nx,x.fr,x.laid,x.nd,?_,?_,?_⟩
 ·intro b E F A;by_cases e:b=a
  ·subst e;exact D
  rcases A with A | A
  ·exact (Cn (by omega)).trans (x.yes b E F A)
  exact absurd A e
 ·intro b E F A;rw [not_or]at A;exact (Cn (by omega)).trans (x.A3 b E F A.1)
 rintro b (A | rfl)
 ·exact x.E8 b A
 exact ⟨h1,J,L⟩
end
section
variable {d:bd} {h0:ar} {ts:List bk} {s:ga} {dn:Int->Prop}
theorem jh.iff {A:Int->Prop} (x:jh d h0 ts s dn) (h:∀a,dn a↔A a):jh d h0 ts s A:=by have:dn=A:=funext fun a=>propext (h a);rw [<-this];exact x
theorem jh.ref (r:Right d h0 ts) (F:0<=leftD h0) (x:jh d h0 ts s dn) {a:Int} (I:¬dn a) (h1:h0.ae<a) (E:a<s.h.ba) (J:b8 ts (wd h0.ab (jf s.mv a))=true):
 jh d h0 ts (s.ref a) (fun b=>dn b\/b=a)/\Ext s (s.ref a):=by
 have W:=r.sized.ae;have V:=x.otopLe r F;have e:=x.A3 a (by omega) (by omega) I;unfold ga.ref;rw [e];obtain ⟨L,A,N,O⟩:=x.lead r F J;have D:=A.2.2 a E;rw [N];have G:=L.put r h1 (Int.lt_of_lt_of_le E A.2.1) (by omega) (by rw [D];exact O);rw [D]at G;exact ⟨G,A⟩
theorem jh.refs (r:Right d h0 ts) (F:0<=leftD h0):∀(l:List Int) (s:ga) (dn:Int->Prop),jh d h0 ts s dn->l.Nodup->(∀a∈l,¬dn a/\h0.ae<a/\a<s.h.ba/\b8 ts (wd h0.ab (jf s.mv a))=true)->jh d h0 ts (s.refs l) (fun b=>dn b\/b∈l)/\Ext s (s.refs l)
 | [],s,dn,x,_,_=>⟨x.iff fun a=>⟨Or.inl,fun h=>h.elim id fun h=>by cases h⟩,Ext.refl _⟩
 | a::l,s,dn,x,hn,h=>by
   rw [List.nodup_cons]at hn;obtain ⟨G,I,J,L⟩:=h a (List.mem_cons_self ..);obtain ⟨y,A⟩:=x.ref r F G I J L;obtain ⟨z,W⟩:=jh.refs r F l (s.ref a) _ y hn.2 (fun b E=>by
    obtain ⟨N,O,D,V⟩:=h b (List.mem_cons_of_mem _ E);refine ⟨?_,O,Int.lt_of_lt_of_le D A.2.1,by rw [A.2.2 b D];exact V⟩;rintro (h | rfl)
    ·exact N h
    exact hn.1 E)
   refine ⟨z.iff fun b=>?_,A.trans W⟩;rw [List.mem_cons,or_assoc]
theorem jh.refsAt (r:Right d h0 ts) (D:0<=leftD h0) {l:List Int} (x:jh d h0 ts s dn) (E:l.Nodup) (h:∀a∈l,¬dn a/\h0.ae<a/\a<s.h.ba/\b8 ts (wd h0.ab (jf s.mv a))=true) (k:Nat) (N:k<l.length):
 jh d h0 ts (s.refs (l.take k)) (fun b=>dn b\/b∈l.take k)/\b8 ts (wd (s.refs (l.take k)).h.ab l[k])=true/\0<=l[k]/\l[k]<h0.ab.length:=by
 obtain ⟨y,J⟩:=jh.refs r D (l.take k) s dn x (E.sublist (List.take_sublist _ _)) fun a L=>h a (List.mem_of_mem_take L);obtain ⟨F,V,G,I⟩:=h l[k] (gm N);have Y:=r.sized.ae;have X:=x.otopLe r D;have A:l[k]∉l.take k:=by intro O;obtain ⟨j,W,e⟩:=List.mem_take_iff_getElem.1 O;have:=(List.getElem_inj (xs:=l) E).1 e;omega
 refine ⟨y,?_,by omega,by omega⟩;rw [y.A3 l[k] (by omega) (by omega) (by rintro (h | h);exact F h;exact A h),J.2.2 _ G];exact I
theorem jh.roots (r:Right d h0 ts) (A:0<=leftD h0):∀(rs:List Int) (s:ga) (dn:Int->Prop),jh d h0 ts s dn->(∀v∈rs,b8 ts v=true)->jh d h0 ts (s.roots rs) dn/\Ext s (s.roots rs)
 | [],s,dn,x,_=>⟨x,Ext.refl _⟩
 | v::rs,s,dn,x,h=>by obtain ⟨y,D,-⟩:=x.lead r A (h v (List.mem_cons_self ..));obtain ⟨z,E⟩:=jh.roots r A rs (s.lead v) dn y fun u F=>h u (List.mem_cons_of_mem _ F);exact ⟨z,D.trans E⟩
theorem Fq (fs:List (List bq)) (x:bk):(refsOf fs x).Nodup:=by unfold refsOf;refine List.Pairwise.map _ (fun a b h e=>h ?_) (List.Pairwise.filter _ List.nodup_range);have e:x.loc+3+(a:Int)=x.loc+3+(b:Int):=e;omega
theorem zu6 (r:Right d h0 ts) {x:bk} (E:x∈ts) {a:Int} (D:a∈refsOf d.fields x):b8 ts (wd h0.ab a)=true:=by
 have h:=r.lead;rw [List.any_eq_false]at h;have h1:=h x E;unfold ep at h1;rw [Bool.not_eq_true,List.any_eq_false]at h1;have A:¬(!b8 ts (wd h0.ab a))=true:=h1 a D;cases hc:b8 ts (wd h0.ab a)with
 | true=>rfl
 | false=>rw [hc]at A;exact absurd rfl A
def Ce (fs:List (List bq)) (ts:List bk) (ns:List Int) (a:Int):Prop:=∃n∈ns,∃x∈ts,x.loc=n/\a∈refsOf fs x
theorem A0 (r:Right d h0 ts) {x:bk} (A:x∈ts) (I:h0.ae<x.loc):h0.ae<x.loc/\x.fin<=h0.ba/\x=bj h0.ab x.loc/\pm d x/\∀a∈refsOf d.fields x,x.loc+3<=a/\a<x.fin:=by
 have z:=r.sized;obtain ⟨X,W,E,F,D⟩:=xu r.both;have h1:=z.bo;have J:=z.ba;have L:=z.ae;have N:=z.old;have q:xd d h0 (h0.ae+1) h0.ba x:=by
  rw [D]at A;rcases List.mem_append.1 A with A | A
  ·have:=sc E x A;have:=this.2.1;have O:=vd (sc E x A).2.2.2.2;have:x.fin=x.loc+3+x.len:=rfl;omega
  exact sc F x A
 refine ⟨I,q.2.1,q.2.2.1,zkp (Ds r.ok) q (by omega) (by omega),fun a G=>?_⟩;obtain ⟨n,e,V,-⟩:=y9 G;have:x.fin=x.loc+3+x.len:=rfl;omega
theorem zu8 (r:Right d h0 ts) {x y:bk} (A:x∈ts) (D:y∈ts):y=x\/y.fin<=x.loc\/x.fin<=y.loc:=(wv r.sized r.both x A).2.2.2 y D
theorem zu9 (r:Right d h0 ts) {x y:bk} (D:x∈ts) (A:y∈ts) (h:x.loc=y.loc):y=x:=by
 have h1:=wv r.sized r.both x D;have E:=wv r.sized r.both y A;rcases h1.2.2.2 y A with h | h | h
 ·exact h
 ·omega
 omega
theorem jh.noteAt (r:Right d h0 ts) {ns:List Int} (x:jh d h0 ts s (Ce d.fields ts ns)) (F:∀n∈ns,h0.ae<n) {t:bk} (G:t∈ts) (X:h0.ae<t.loc) (W:t.loc∉ns):
 bj s.h.ab t.loc=t/\(∀a∈refsOf d.fields t,¬Ce d.fields ts ns a/\h0.ae<a/\a<s.h.ba/\b8 ts (wd h0.ab (jf s.mv a))=true):=by
 have q:=A0 r G X;have z:=r.sized;have z1:=z.ae;have z3:=z.len;have z5:=z.ba;have Y:=x.ba r;have D:∀a,t.loc<=a->a<t.fin->¬Ce d.fields ts ns a:=by
  rintro a J L ⟨n,A,y,O,rfl,E⟩;have Z:=A0 r O (F _ A);have:=Z.2.2.2.2 a E;rcases zu8 r G O with e | e | e
  ·subst e;exact W A
  ·omega
  omega
 have N:t.fin=t.loc+3+t.len:=rfl;have V:=q.2.2.2.1.lo;have I:∀a,t.loc<=a->a<t.fin->wd s.h.ab a=wd h0.ab a:=fun a J L=>by rw [x.A3 a (by omega) (by omega) (D a J L),x.srcLow r (by omega)]
 refine ⟨?_,fun a E=>?_⟩
 ·have e:bj s.h.ab t.loc=bj h0.ab t.loc:=by
   unfold bj;rw [I t.loc (by omega) (by omega),I (t.loc+1) (by omega) (by omega),I (t.loc+2) (by omega) (by omega)]
  exact e.trans q.2.2.1.symm
 have:=q.2.2.2.2 a E;exact ⟨D a (by omega) (by omega),by omega,by omega,by rw [x.srcLow r (by omega)];exact zu6 r G E⟩
theorem jh.noteStep (r:Right d h0 ts) (J:0<=leftD h0) {ns:List Int} (x:jh d h0 ts s (Ce d.fields ts ns)) (A:∀n∈ns,h0.ae<n) {t:bk} (D:t∈ts) (N:h0.ae<t.loc) (L:t.loc∉ns):
 jh d h0 ts (s.refs (refsOf d.fields (bj s.h.ab t.loc))) (Ce d.fields ts (ns++ [t.loc]))/\Ext s (s.refs (refsOf d.fields (bj s.h.ab t.loc))):=by
 obtain ⟨e,h⟩:=x.noteAt r A D N L;rw [e];obtain ⟨y,G⟩:=jh.refs r J _ s _ x (Fq _ _) h;refine ⟨y.iff fun a=>?_,G⟩;constructor
 ·rintro (⟨n,h1,I⟩ | h)
  ·exact ⟨n,List.mem_append_left _ h1,I⟩
  exact ⟨t.loc,List.mem_append_right _ (List.mem_singleton.2 rfl),t,D,rfl,h⟩
 rintro ⟨n,h1,y,F,e,E⟩;rcases List.mem_append.1 h1 with h1 | h1
 ·exact Or.inl ⟨n,h1,y,F,e,E⟩
 rw [List.mem_singleton]at h1;have:=zu9 r D F (h1.symm.trans e.symm);subst this;exact Or.inr E
def As (fs:List (List bq)) (ts:List bk) (ns:List Int) (i:Nat) (mv:List (Int×bk)) (a:Int):Prop:=Ce fs ts ns a\/∃j,∃p,j<i/\mv[j]? =some p/\a∈refsOf fs p.2
theorem Cr {fs:List (List bq)} {x y:bk} (h:x.tag=y.tag) (n:Nat):jp fs x n=jp fs y n:=by unfold jp;rw [h]
theorem zvb (l:List (Int×bk)):∀ {lo hi:Int},Laid lo l hi->(∀p∈l,0<=p.2.len)->∀ {i j:Nat} {p q:Int×bk},i<j->l[i]? =some p->l[j]? =some q->p.2.fin<=q.2.loc:=by
 induction l with
 | nil=>intro lo hi _ _ i j p q _ A;cases A
 | cons x l ih=>
   intro lo hi h G i j p q F A E;have D:∀p∈l,0<=p.2.len:=fun p A=>G p (List.mem_cons_of_mem _ A);cases j with
   | zero=>omega
   | succ j=>
     rw [List.getElem?_cons_succ]at E;cases i with
     | zero=>
       rw [List.getElem?_cons_zero]at A;have e:=ojq A;subst e;exact ((Cq h.2 D).2 q (List.mem_of_getElem? E)).1
     | succ i=>
       rw [List.getElem?_cons_succ]at A;exact ih h.2 D (by omega) A E
theorem jh.goneAt (r:Right d h0 ts) (Z:0<=leftD h0) {ns:List Int} {i:Nat} (x:jh d h0 ts s (As d.fields ts ns i s.mv)) (I:∀n∈ns,h0.ae<n) {p:Int×bk} (N:s.mv[i]? =some p):
 pm d p.2/\p.2.fin<=h0.ab.length/\(∀a∈refsOf d.fields p.2,¬As d.fields ts ns i s.mv a/\h0.ae<a/\a<s.h.ba/\b8 ts (wd h0.ab (jf s.mv a))=true):=by
 have A:=List.mem_of_getElem? N;have aa:=(Cq x.laid (x.lens r)).2 p A;have z:=r.sized;have z1:=z.ae;have z2:=z.old;have z3:=z.len;have z5:=z.ba;have ho:=x.otopLe r Z;obtain ⟨t,O,hy,V,J,W,e4⟩:=x.fr p A;have y:=xw r O (uj.1 hy).2;have L:p.2.fin=p.2.loc+3+p.2.len:=rfl;have D:=x.lens r p A;refine ⟨⟨by rw [J,W];exact y.fit.tag,D,by omega,by omega⟩,by omega,fun a X=>?_⟩;obtain ⟨n,ea,hn,hr⟩:=y9 X;refine ⟨?_,by omega,by omega,?_⟩
 ·rintro (⟨m,G,u,hu,rfl,F⟩ | ⟨j,q,Y,hq,E⟩)
  ·have qu:=A0 r hu (I _ G);have:=qu.2.2.2.2 a F;omega
  have:=zvb _ x.laid (x.lens r) Y hq N;obtain ⟨m,em,A,-⟩:=y9 E;have:q.2.fin=q.2.loc+3+q.2.len:=rfl;omega
 rw [zup (p:=p) (by omega) (by omega) x.laid (x.lens r) A,V,show t.loc+(a - p.2.loc)=t.loc+3+(n:Int) by omega];exact zu6 r O (Co (by omega) (by rw [<-Cr J];exact hr))
theorem jh.goneStep (r:Right d h0 ts) (L:0<=leftD h0) {ns:List Int} {i:Nat} (x:jh d h0 ts s (As d.fields ts ns i s.mv)) (I:∀n∈ns,h0.ae<n) {p:Int×bk} (E:s.mv[i]? =some p):
 jh d h0 ts (s.refs (refsOf d.fields p.2)) (As d.fields ts ns (i+1) (s.refs (refsOf d.fields p.2)).mv)/\Ext s (s.refs (refsOf d.fields p.2)):=by
 obtain ⟨-,-,h⟩:=x.goneAt r L I E;obtain ⟨y,J⟩:=jh.refs r L _ s _ x (Fq _ _) h;refine ⟨y.iff fun a=>?_,J⟩;obtain ⟨⟨e,N⟩,-⟩:=J;have hi:i<s.mv.length:=by
  rcases Nat.lt_or_ge i s.mv.length with h | h
  ·exact h
  rw [List.getElem?_eq_none h]at E;cases E
 have A:∀j,j<=i->(s.refs (refsOf d.fields p.2)).mv[j]? =s.mv[j]? :=fun j G=>by rw [N,List.getElem?_append_left (by omega)]
 constructor
 ·rintro ((h | ⟨j,q,h1,D,F⟩) | h)
  ·exact Or.inl h
  ·exact Or.inr ⟨j,q,by omega,(A j (by omega)).trans D,F⟩
  exact Or.inr ⟨i,p,by omega,(A i (nlq _)).trans E,h⟩
 rintro (h | ⟨j,q,h1,D,F⟩)
 ·exact Or.inl (Or.inl h)
 rw [A j (by omega)]at D;rcases Nat.lt_or_ge j i with G | G
 ·exact Or.inl (Or.inr ⟨j,q,G,D,F⟩)
 have:j=i:=by omega
 subst this;rw [E]at D;have:=ojq D;subst this;exact Or.inr F
theorem jh.count (r:Right d h0 ts) (D:0<=leftD h0) (x:jh d h0 ts s dn):s.mv.length<h0.ab.length:=by
 have J:=zu3 x.laid;have I:=x.otopLe r D;have z:=r.sized;have L:=z.ae;have N:=z.ba;have E:(s.mv.length:Int)<=(s.mv.map fun p=>3+p.2.len).sum:=by
  have A:∀l:List (Int×bk),(∀p∈l,0<=p.2.len)->(l.length:Int)<=(l.map fun p=>3+p.2.len).sum:=by
   intro l;induction l with
   | nil=>intro _;exact Int.le_refl _
   | cons q l ih=>
     intro h;have h1:=ih fun p F=>h p (List.mem_cons_of_mem _ F);have G:=h q (List.mem_cons_self ..);rw [List.map_cons,List.sum_cons,List.length_cons];omega
  exact A _ (x.lens r)
 omega
theorem jh.goneAll (r:Right d h0 ts) (D:0<=leftD h0) {ns:List Int} (A:∀n∈ns,h0.ae<n):∀(f i:Nat) (s:ga),h0.ab.length<=i+f->i<=s.mv.length->jh d h0 ts s (As d.fields ts ns i s.mv)->jh d h0 ts (ga.gone d.fields f i s) (As d.fields ts ns (ga.gone d.fields f i s).mv.length (ga.gone d.fields f i s).mv)/\Ext s (ga.gone d.fields f i s)
 | 0,i,s,hf,hi,x=>by have:=x.count r D;omega
 | f+1,i,s,hf,hi,x=>by
   rw [ga.gone];cases hp:s.mv[i]? with
   | none=>
     have:s.mv.length<=i:=List.getElem?_eq_none_iff.1 hp;have e:i=s.mv.length:=by omega
     subst e;exact ⟨x,Ext.refl _⟩
   | some p=>
     obtain ⟨y,E⟩:=x.goneStep r D A hp;have J:i<s.mv.length:=by
      rcases Nat.lt_or_ge i s.mv.length with h | h
      ·exact h
      rw [List.getElem?_eq_none h]at hp;cases hp
     have F:s.mv.length<=(s.refs (refsOf d.fields p.2)).mv.length:=by obtain ⟨⟨e,I⟩,-⟩:=E;rw [I,List.length_append];omega
     obtain ⟨z,G⟩:=jh.goneAll r D A f (i+1) _ (by omega) (by omega) y;exact ⟨z,E.trans G⟩
end
structure NwD (mv:List (Int×bk)) (D:DataW Unit):Prop where
 has:∀n,Maps.has D (jm n)=(ij mv n).isSome
 at_:∀n t z,ij mv n=some t->D.atKey (jm n) z=.lit (.i t)
 no:∀n z,ij mv n=none->D.atKey (jm n) z=z
theorem zvp:NwD [] (.map []):=⟨fun _=>rfl,(fun n t z h=>by cases h),fun n z _=>rfl⟩
theorem zvq {mv:List (Int×bk)} {D:DataW Unit} (h:NwD mv D) (F:Tidy D) (p:Int×bk):NwD (mv++ [p]) (D.put (jm p.1) (.lit (.i p.2.loc))):=by
 have E:=F.isMap;refine ⟨fun n=>?_,fun n s z A=>?_,fun n z A=>?_⟩
 ·rw [zul];by_cases e:p.1=n
  ·subst e;rw [has_put_same E (uv _),if_pos rfl];rfl
  rw [has_put_other (Fi (Ne.symm e)),if_neg e,h.has]
 ·rw [zul]at A;by_cases e:p.1=n
  ·subst e;rw [if_pos rfl]at A;rw [atKey_put_same E (uv _),ojq A]
  rw [if_neg e]at A;rw [atKey_put_other (Fi (Ne.symm e)),h.at_ n s z A]
 rw [zul]at A;by_cases e:p.1=n
 ·rw [if_pos e]at A;cases A
 rw [if_neg e]at A;rw [atKey_put_other (Fi (Ne.symm e)),h.no n z A]
def js (w:World) (b:Nat) (mv:List (Int×bk)):Prop:=∃D:DataW Unit,w.ownsMap prog 3 (plainElem prog 3) b mv.length D/\NwD mv D
theorem js.lt {w:World} {b:Nat} {mv:List (Int×bk)} (h:js w b mv):b<w.heap.size:=by obtain ⟨D,h,_⟩:=h;exact h.lt
theorem js.kept {w w':World} {b:Nat} {mv:List (Int×bk)} (h:js w b mv) {row:Option Nat} (F:w.grownBy w' row) (A:some b≠row):js w' b mv:=by obtain ⟨D,h,E⟩:=h;exact ⟨D,h.kept F A,E⟩
theorem js.below {B:Nat} {w w':World} {b:Nat} {mv:List (Int×bk)} (h:js w b mv) (G:Below B w w') (F:b<B):js w' b mv:=by obtain ⟨D,⟨E,A,e,h⟩,I⟩:=h;exact ⟨D,⟨E,A,(G.block b F).trans e,h⟩,I⟩
def si (l:List (Option Nat)):Prop:=l.Pairwise fun a b=>∀k,a=some k->b≠some k
theorem pw {l:List (Option Nat)} (h:si l) {i j k:Nat} (A:i<j) (hi:l[i]? =some (some k)):l[j]? ≠some (some k):=by intro G;obtain ⟨h1,D⟩:=List.getElem?_eq_some_iff.1 hi;obtain ⟨F,E⟩:=List.getElem?_eq_some_iff.1 G;exact List.pairwise_iff_getElem.1 h i j h1 F A k D E
theorem Ak {l:List (Option Nat)} (h:si l) {i j k:Nat} (A:i<j) (D:l[j]? =some (some k)):l[i]? ≠some (some k):=fun hi=>pw h A hi D
structure Mo (b B:Nat) (w:World) (T M X:Nat) (nW nO nR gv kC kS kF kN kT:Value) (h:ar) (m g:List (Int×bk)) (rs:List Int) (d:bd):Prop where
 blk:w.heap[T]? =some (.cells #[nW,.i h.ae,.i h.old,.i h.bo,.i h.ba,nO,.i h.next,kC,kS,kF,kN,kT,nR] 131 (0,0))
 qz:w.heap[M]? =some (.cells #[.p T,.map (some X),gv] 196 (0,0))
 rW:w.ownsRow b 3 1 nW h.ab.length (bw h.ab)
 rO:w.ownsRow b 3 1 nO h.am.length (bw h.am)
 rR:w.ownsRow b 3 1 nR rs.length (bw rs)
 rG:w.ownsRow b 101 4 gv g.length (fu (g.map (·.2)))
 mp:js w X m
 lk:mt (· <B) w kC kS kF kN kT d
 le:B<=b
 bT:b<=T
 bM:b<=M
 bX:b<=X
 sep:si [some T,some M,some X,nW.ownBlock,nO.ownBlock,nR.ownBlock,gv.ownBlock]
theorem Mo.below {b B T M X:Nat} {w:World} {O L N D E I F G J:Value} {h:ar} {m g:List (Int×bk)} {rs:List Int} {d:bd} (o:Mo b B w T M X O L N D E I F G J h m g rs d) {w':World} (A:Bl w w'):Mo b B w' T M X O L N D E I F G J h m g rs d:=
 have V:=bz o.blk
 ⟨(A.block _ V).trans o.blk,(A.block _ (bz o.qz)).trans o.qz,mf o.rW A,mf o.rO A,mf o.rR A,mf o.rG A,o.mp.below A o.mp.lt,o.lk.kept (Kp.below (A.mono (by have:=o.le;have:=o.bT;omega))),o.le,o.bT,o.bM,o.bX,o.sep⟩
theorem Mo.gd {b B T M X:Nat} {w:World} {L J Y N D G E F I:Value} {h:ar} {m g:List (Int×bk)} {rs:List Int} {d:bd} (o:Mo b B w T M X L J Y N D G E F I h m g rs d) (h1:h.ab.length<=1000000) (O:h.am.length<=1000000):Gd w.heap.size w T L J D G E F I h d:=
 have V:=bz o.blk;have W:∀k,k<B->k<w.heap.size:=fun k A=>by have:=o.le;have:=o.bT;omega
 ⟨V,nlq _,bp o.blk 0 rfl,bp o.blk 1 rfl,bp o.blk 2 rfl,bp o.blk 3 rfl,bp o.blk 4 rfl,bp o.blk 5 rfl,bp o.blk 6 rfl,bp o.blk 7 rfl,bp o.blk 8 rfl,bp o.blk 9 rfl,bp o.blk 10 rfl,bp o.blk 11 rfl,(ru o.rW h1).monoI fun k A=>A.lt,(ru o.rO O).monoI fun k A=>A.lt,o.lk.mono W⟩
theorem Mo.lkUp {b B T M X:Nat} {w:World} {W O V J D G E F I:Value} {h:ar} {m g:List (Int×bk)} {rs:List Int} {d:bd} (o:Mo b B w T M X W O V J D G E F I h m g rs d) {w':World} {k:Nat} (A:w.grownBy w' (some k)) (Y:b<=k):mt (· <B) w' D G E F I d:=o.lk.kept ⟨A.size,fun j L N=>A.block j N (by have:=o.le;have:=L;intro e;injection e;omega)⟩
theorem Mo.ab {b B T M X:Nat} {w:World} {D F G E L V N O W:Value} {h:ar} {m g:List (Int×bk)} {rs:List Int} {d:bd} (o:Mo b B w T M X D F G E L V N O W h m g rs d) {w':World} {k:Nat} {ws:List Int} (J:D.ownBlock=some k) (A:w.grownBy w' (some k)) (Y:w'.ownsRow b 3 1 D ws.length (bw ws)):Mo b B w' T M X D F G E L V N O W ⟨ws,h.ae,h.old,h.bo,h.ba,h.am,h.next⟩ m g rs d/\Below b w w':=
 have I:b<=k:=(o.rW.lt k J).1;have hi: [some T,some M,some X,D.ownBlock,F.ownBlock,G.ownBlock,E.ownBlock][3]? =some (some k):=congrArg some J
 ⟨⟨(A.block T (bz o.blk) (fun e=>Ak o.sep (i:=0) (by decide) hi (congrArg some e))).trans o.blk,(A.block M (bz o.qz) (fun e=>Ak o.sep (i:=1) (by decide) hi (congrArg some e))).trans o.qz,Y,o.rO.kept A (Or.inr fun e=>pw o.sep (j:=4) (by decide) hi (congrArg some e)),o.rR.kept A (Or.inr fun e=>pw o.sep (j:=5) (by decide) hi (congrArg some e)),o.rG.kept A (Or.inr fun e=>pw o.sep (j:=6) (by decide) hi (congrArg some e)),o.mp.kept A (fun e=>Ak o.sep (i:=2) (by decide) hi (congrArg some e)),o.lkUp A I,o.le,o.bT,o.bM,o.bX,o.sep⟩,(br b w).grown A (by have:=bz o.blk;have:=o.bT;omega) (fun j e=>by cases e;exact I)⟩
theorem Mo.rootsUp {b B T M X:Nat} {w:World} {G F D E L V N O W:Value} {h:ar} {m g:List (Int×bk)} {rs:List Int} {d:bd} (o:Mo b B w T M X G F D E L V N O W h m g rs d) {w':World} {k:Nat} {rs':List Int} (J:D.ownBlock=some k) (A:w.grownBy w' (some k)) (Y:w'.ownsRow b 3 1 D rs'.length (bw rs')):Mo b B w' T M X G F D E L V N O W h m g rs' d/\Below b w w':=
 have I:b<=k:=(o.rR.lt k J).1;have hi: [some T,some M,some X,G.ownBlock,F.ownBlock,D.ownBlock,E.ownBlock][5]? =some (some k):=congrArg some J
 ⟨⟨(A.block T (bz o.blk) (fun e=>Ak o.sep (i:=0) (by decide) hi (congrArg some e))).trans o.blk,(A.block M (bz o.qz) (fun e=>Ak o.sep (i:=1) (by decide) hi (congrArg some e))).trans o.qz,o.rW.kept A (Or.inr fun e=>Ak o.sep (i:=3) (by decide) hi (congrArg some e)),o.rO.kept A (Or.inr fun e=>Ak o.sep (i:=4) (by decide) hi (congrArg some e)),Y,o.rG.kept A (Or.inr fun e=>pw o.sep (j:=6) (by decide) hi (congrArg some e)),o.mp.kept A (fun e=>Ak o.sep (i:=2) (by decide) hi (congrArg some e)),o.lkUp A I,o.le,o.bT,o.bM,o.bX,o.sep⟩,(br b w).grown A (by have:=bz o.blk;have:=o.bT;omega) (fun j e=>by cases e;exact I)⟩
theorem Mo.map {b B T M X:Nat} {w:World} {G E F D I N J L O:Value} {h:ar} {m g:List (Int×bk)} {rs:List Int} {d:bd} (o:Mo b B w T M X G E F D I N J L O h m g rs d) {w':World} {V:List (Int×bk)} (A:w.grownBy w' (some X)) (W:js w' X V):Mo b B w' T M X G E F D I N J L O h V g rs d/\Below b w w':=
 have hi: [some T,some M,some X,G.ownBlock,E.ownBlock,F.ownBlock,D.ownBlock][2]? =some (some X):=rfl
 ⟨⟨(A.block T (bz o.blk) (fun e=>Ak o.sep (i:=0) (by decide) hi (congrArg some e))).trans o.blk,(A.block M (bz o.qz) (fun e=>Ak o.sep (i:=1) (by decide) hi (congrArg some e))).trans o.qz,o.rW.kept A (Or.inr fun e=>pw o.sep (j:=3) (by decide) hi (congrArg some e)),o.rO.kept A (Or.inr fun e=>pw o.sep (j:=4) (by decide) hi (congrArg some e)),o.rR.kept A (Or.inr fun e=>pw o.sep (j:=5) (by decide) hi (congrArg some e)),o.rG.kept A (Or.inr fun e=>pw o.sep (j:=6) (by decide) hi (congrArg some e)),W,o.lkUp A o.bX,o.le,o.bT,o.bM,o.bX,o.sep⟩,(br b w).grown A (by have:=bz o.blk;have:=o.bT;omega) (fun j e=>by cases e;exact o.bX)⟩
theorem Mo.task {b B T M X:Nat} {w:World} {E V D F I N J L O:Value} {h:ar} {m g:List (Int×bk)} {rs:List Int} {d:bd} (o:Mo b B w T M X E V D F I N J L O h m g rs d) {w':World} {h':ar} {nO':Value} (A:w.grownBy w' (some T)) (W:w'.heap[T]? =some (.cells #[E,.i h'.ae,.i h'.old,.i h'.bo,.i h'.ba,nO',.i h'.next,I,N,J,L,O,D] 131 (0,0))) (hw:h'.ab=h.ab) (Y:w'.ownsRow b 3 1 nO' h'.am.length (bw h'.am)) (G:nO'=V\/nO'.ownBlock=none):Mo b B w' T M X E nO' D F I N J L O h' m g rs d/\Below b w w':=
 have hi: [some T,some M,some X,E.ownBlock,V.ownBlock,D.ownBlock,F.ownBlock][0]? =some (some T):=rfl
 have Z:si [some T,some M,some X,E.ownBlock,nO'.ownBlock,D.ownBlock,F.ownBlock]:=by
  rcases G with rfl | G
  ·exact o.sep
  have:=o.sep;unfold si at this ⊢;rw [G];simp only [List.pairwise_cons,List.mem_cons,List.not_mem_nil,or_false,forall_eq_or_imp,forall_eq,List.Pairwise.nil,and_true,false_implies,implies_true]at this ⊢;refine ⟨⟨this.1.1,this.1.2.1,this.1.2.2.1,fun _ _ e=>(by cases e),this.1.2.2.2.2⟩,⟨this.2.1.1,this.2.1.2.1,fun _ _ e=>(by cases e),this.2.1.2.2.2⟩,⟨this.2.2.1.1,fun _ _ e=>(by cases e),this.2.2.1.2.2⟩,⟨fun _ _ e=>(by cases e),this.2.2.2.1.2⟩,⟨fun _ e=>(by cases e),fun _ e=>(by cases e)⟩,this.2.2.2.2.2⟩
 ⟨⟨W,(A.block M (bz o.qz) (fun e=>pw o.sep (j:=1) (by decide) hi (congrArg some e))).trans o.qz,hw ▸ o.rW.kept A (Or.inr fun e=>pw o.sep (j:=3) (by decide) hi (congrArg some e)),Y,o.rR.kept A (Or.inr fun e=>pw o.sep (j:=5) (by decide) hi (congrArg some e)),o.rG.kept A (Or.inr fun e=>pw o.sep (j:=6) (by decide) hi (congrArg some e)),o.mp.kept A (fun e=>pw o.sep (j:=2) (by decide) hi (congrArg some e)),o.lkUp A o.bT,o.le,o.bT,o.bM,o.bX,Z⟩,(br b w).grown A (by have:=bz o.blk;have:=o.bT;omega) (fun j e=>by cases e;exact o.bT)⟩
structure j7 (L T M X:Nat) (nW gv:Value) (w:World) (gv':Value) (w':World):Prop where
 os:w'.os=w.os
 tape:w'.tape=w.tape
 output:w'.output=w.output
 size:w.heap.size<=w'.heap.size
 block:∀k,k<L->k<w.heap.size->k≠T->k≠M->k≠X->nW.ownBlock≠some k->gv.ownBlock≠some k->w'.heap[k]? =w.heap[k]?
 gv:∀j,gv'.ownBlock=some j->gv.ownBlock=some j\/L<=j
theorem j7.trans {L T M X:Nat} {A D E F:Value} {J N O:World} (h:j7 L T M X A D J E N) (k:j7 L T M X A E N F O):j7 L T M X A D J F O:=
 ⟨k.os.trans h.os,k.tape.trans h.tape,k.output.trans h.output,lt3 h.size k.size,fun j G I a b c e f=>(k.block j G (ll3 I h.size) a b c e (fun q=>by
  rcases h.gv j q with q | q
  ·exact f q
  ·omega)).trans (h.block j G I a b c e f),fun j e=>by
  rcases k.gv j e with e | e
  ·exact h.gv j e
  exact Or.inr e⟩
theorem j7.mono {L A T M X:Nat} {F D E:Value} {G I:World} (h:j7 L T M X F D G E I) (N:A<=L):j7 A T M X F D G E I:=
 ⟨h.os,h.tape,h.output,h.size,fun j J=>h.block j (by omega),fun j e=>(h.gv j e).imp id fun e=>by omega⟩
theorem j7.ofBelow {L T M X:Nat} {E A:Value} {w w':World} (h:Below L w w'):j7 L T M X E A w A w':=⟨h.os,h.tape,h.output,h.size,fun j D _ _ _ _ _ _=>h.block j D,fun _ e=>Or.inl e⟩
theorem j7.ofGrown {L T M X k:Nat} {D A:Value} {w w':World} (h:w.grownBy w' (some k)) (E:k=T\/k=M\/k=X\/D.ownBlock=some k\/L<=k):j7 L T M X D A w A w':=
 ⟨h.os,h.tape,h.output,h.size,fun j G F a b c e _=>h.block j F (fun q=>by
  have q:=ojq q;subst q;rcases E with q | q | q | q | q
  ·exact a q
  ·exact b q
  ·exact c q
  ·exact e q
  omega),fun _ e=>Or.inl e⟩
theorem j7.toBelow {b B T M X:Nat} {w w':World} {E O V D A F J G I N:Value} {h:ar} {m g:List (Int×bk)} {rs:List Int} {d:bd} (o:Mo b B w T M X E O V D F J G I N h m g rs d) {L:Nat} (k:j7 L T M X E D w A w') (Y:b<=L):Below b w w':=
 ⟨k.os,k.tape,k.output,k.size,fun j W=>k.block j (by omega) (by have:=bz o.blk;have:=o.bT;omega) (by have:=o.bT;omega) (by have:=o.bM;omega) (by have:=o.bX;omega) (fun e=>by have:=(o.rW.lt j e).1;omega) (fun e=>by have:=(o.rG.lt j e).1;omega)⟩
theorem Mo.more {b B T M X:Nat} {w:World} {N O V E kC kS kF kN kT:Value} {h:ar} {m g:List (Int×bk)} {rs:List Int} {d:bd} (o:Mo b B w T M X N O V E kC kS kF kN kT h m g rs d) {Z w':World} {q:Int×bk} {F cA:Nat} (G:w.grownBy Z E.ownBlock) (hr:Z.ownsRow b 101 4 (.slice (some ⟨F,0,none⟩) (g.length+1) cA) (g.length+1) (fu (g.map (·.2))++ [.i q.2.loc,.i q.2.tag,.i q.2.len,.i q.2.hash])) (hA:E.ownBlock=some F\/w.heap.size<=F) (hw:w'=Z.setCell ⟨M,2,none⟩ (.slice (some ⟨F,0,none⟩) (g.length+1) cA)):
 Mo b B w' T M X N O V (.slice (some ⟨F,0,none⟩) (g.length+1) cA) kC kS kF kN kT h m (g++ [q]) rs d/\Below b w w'/\∀L,L<=w.heap.size->j7 L T M X N E w (.slice (some ⟨F,0,none⟩) (g.length+1) cA) w':=by
 have lT:=bz o.blk;have lM:=bz o.qz;have lX:=o.mp.lt;have I:∀(k i:Nat),i<6-> [some T,some M,some X,N.ownBlock,O.ownBlock,V.ownBlock,E.ownBlock][i]? =some (some k)->E.ownBlock≠some k:=fun k i hi e Y=>pw o.sep (j:=6) hi e (congrArg some Y);have W:∀(k i:Nat),i<6-> [some T,some M,some X,N.ownBlock,O.ownBlock,V.ownBlock,E.ownBlock][i]? =some (some k)->k<w.heap.size->F≠k:=fun k i hi e hk Y=>by
  rcases hA with h1 | h1
  ·exact I k i hi e (by rw [h1,Y])
  omega
 have k1:Z.heap[M]? =some (.cells #[.p T,.map (some X),E] 196 (0,0)):=(G.block M lM (fun e=>I M 1 (by decide) rfl e.symm)).trans o.qz;have A:Z.grownBy w' (some M):=hw ▸ ow (World.grownBy.refl _ _) _ _ (Or.inl rfl);have k2:w'.heap[M]? =some (.cells #[.p T,.map (some X),.slice (some ⟨F,0,none⟩) (g.length+1) cA] 196 (0,0)):=hw ▸ rr k1 _;have ap:=G.size;have ai:N.ownBlock≠some M:=fun e=>pw o.sep (i:=1) (j:=3) (by decide) rfl (congrArg some e);have ad:O.ownBlock≠some M:=fun e=>pw o.sep (i:=1) (j:=4) (by decide) rfl (congrArg some e);have af:V.ownBlock≠some M:=fun e=>pw o.sep (i:=1) (j:=5) (by decide) rfl (congrArg some e);have ah:T≠M:=fun e=>pw o.sep (i:=0) (j:=1) (by decide) rfl (by rw [e];rfl);have aj:X≠M:=fun e=>pw o.sep (i:=1) (j:=2) (by decide) rfl (by rw [e];rfl);have J:∀ {v:Value} {l:List Int} (i:Nat),i<6-> [some T,some M,some X,N.ownBlock,O.ownBlock,V.ownBlock,E.ownBlock][i]? =some v.ownBlock->w.ownsRow b 3 1 v l.length (bw l)->v.ownBlock≠some M->w'.ownsRow b 3 1 v l.length (bw l):=fun {v l} i hi e ho hm=>by
  refine World.ownsRow.kept (World.ownsRow.kept ho G ?_) A (Or.inr hm);cases hv:v.ownBlock with
  | none=>exact Or.inl rfl
  | some k=>exact Or.inr fun Y=>I k i hi (by rw [e,hv]) Y.symm
 have ak:b<=w.heap.size:=by have:=o.bT;omega
 have al:∀k,E.ownBlock=some k->b<=k:=fun k e=>(o.rG.lt k e).1;have aa:Below b w Z:=(br b w).grown G ak al;have ao:=hr.lt F rfl;refine ⟨⟨(A.block T (by omega) (fun e=>ah (ojq e))).trans ((G.block T lT (fun e=>I T 0 (by decide) rfl e.symm)).trans o.blk),k2,J 3 (by decide) rfl o.rW ai,J 4 (by decide) rfl o.rO ad,J 5 (by decide) rfl o.rR af,?_,(o.mp.kept G (fun e=>I X 2 (by decide) rfl e.symm)).kept A (fun e=>aj (ojq e)),o.lk.kept (Kp.below ((aa.grown A (by omega) (fun j e=>by cases e;exact o.bM)).mono o.le)),o.le,o.bT,o.bM,o.bX,?_⟩,aa.grown A (by omega) (fun j e=>by cases e;exact o.bM),fun L hL=>⟨A.os.trans G.os,A.tape.trans G.tape,A.output.trans G.output,lt3 G.size A.size,fun j hj hl _ b _ _ f=>(A.block j (by omega) (fun e=>b (ojq e))).trans (G.block j hl (fun e=>f e.symm)),fun j e=>by
  have e:F=j:=ojq e;rcases hA with q | q
  ·exact Or.inl (by rw [q,e])
  exact Or.inr (by omega)⟩⟩
 ·have e1:(g++ [q]).length=g.length+1:=by simp
  rw [e1,List.map_append,List.map_cons,List.map_nil,zhk];exact hr.kept A (Or.inr fun e=>W M 1 (by decide) rfl lM (ojq e))
 have hp:si ([some T,some M,some X,N.ownBlock,O.ownBlock,V.ownBlock]++ [E.ownBlock]):=o.sep;show si ([some T,some M,some X,N.ownBlock,O.ownBlock,V.ownBlock]++ [some F]);unfold si at hp ⊢;rw [List.pairwise_append]at hp ⊢;refine ⟨hp.1,List.pairwise_singleton ..,fun a ha c hc k hk=>?_⟩;rw [List.mem_singleton]at hc;subst hc;subst hk;intro e;obtain ⟨i,hi,Y⟩:=List.getElem_of_mem ha;have ac:i<6:=hi;have D: [some T,some M,some X,N.ownBlock,O.ownBlock,V.ownBlock,E.ownBlock][i]? =some (some k):=by
  have:([some T,some M,some X,N.ownBlock,O.ownBlock,V.ownBlock]++ [E.ownBlock])[i]? =some (some k):=by rw [List.getElem?_append_left hi,List.getElem?_eq_getElem hi,Y]
  exact this
 have an:k<w.heap.size:=by
  match i,ac,D with
  | 0,_,D=>have:=ojq (ojq D);omega
  | 1,_,D=>have:=ojq (ojq D);omega
  | 2,_,D=>have:=ojq (ojq D);omega
  | 3,_,D=>exact (o.rW.lt k (ojq D)).2
  | 4,_,D=>exact (o.rO.lt k (ojq D)).2
  | 5,_,D=>exact (o.rR.lt k (ojq D)).2
 exact W k i ac D an (ojq e)
theorem zvt {A:List Value} {ws l:List Int} {off:Nat} (hc:A.take ws.length=bw ws) (h:off+l.length<=ws.length):
 (A.take off++(bw l++A.drop (off+l.length))).take ws.length=bw (ma ws off l):=by
 have F:ws.length<=A.length:=by have:=congrArg List.length hc;rw [List.length_take,ui]at this;omega
 have D:A.take off=bw (ws.take off):=by
  have:(A.take ws.length).take off=(bw ws).take off:=by rw [hc]
  rw [List.take_take,Nat.min_eq_left (by omega)]at this;rw [this,bw,bw,List.map_take]
 have E:(A.drop (off+l.length)).take (ws.length - (off+l.length))=bw (ws.drop (off+l.length)):=by
  have:(A.take ws.length).drop (off+l.length)=(bw ws).drop (off+l.length):=by rw [hc]
  rw [List.drop_take]at this;rw [this,bw,bw,List.map_drop]
 rw [List.take_append,List.take_append,List.length_take,Nat.min_eq_left (by omega),List.take_of_length_le (by rw [List.length_take];omega)];rw [List.take_of_length_le (l:=bw l) (by rw [ui];omega)];rw [show ws.length - off - (bw l).length=ws.length - (off+l.length) by rw [ui];omega,D,E,ma,Fk,Fk]
theorem zvu {ops:Array Oper} {o:Oper} {a:Act} {w:World} {K:Act->World->Prop} {Q:Exit->Act->World->Prop} {E:Prop} (ah:o.guard=none) (dd s:Operand)
 (ho:o.op=.call { callee:=.builtin .copy,args:=#[dd,s],argTypes:=#[22,22] }) (b g off A n D G L cap:Nat) (ws:List Int) (I:w.ownsRow b 3 1 (.slice (some ⟨g,0,none⟩) ws.length cap) ws.length (bw ws))
 (hd:a.eval dd=.slice (some ⟨g,off,none⟩) D G) (hs:a.eval s=.slice (some ⟨g,A,none⟩) n L) (an:off+n<=ws.length) (ak:A+n<=ws.length) (af:n<=D)
 (h:∀w',w.grownBy w' (some g)->w'.ownsRow b 3 1 (.slice (some ⟨g,0,none⟩) ws.length cap) (ma ws off (lj ws A n)).length (bw (ma ws off (lj ws A n)))->K (a.put o.dst (goInt n)) w'):
 if Region.wanted o (yielded ops a.tmps)=true then Oper.wp prog o a w K Q else E:=by
 have hw:Region.wanted o (yielded ops a.tmps)=true:=by simp [Region.wanted,ah]
 rw [if_pos hw];have F:(lj ws A n).length=n:=zuh ak;have W:=I;obtain ⟨h1,h2⟩:=I;rcases h2 with ⟨e,h0⟩ | ⟨g',al,N,e,aa,hg,aj,ac,ad,X⟩
 ·cases e
 cases e;rw [Nat.mul_one]at X ad;have ao:ws.length<=N.size:=by omega
 have J:=run_copy_row (P:=prog) w 22 22 o.type 3 g off D G ⟨g,A,none⟩ n L N 3 (bw (lj ws A n)) underlying22 (by kernel_rfl) hg (by rw [ui,F];exact (Nat.min_eq_left af).symm) (by
  intro j v O;rw [bw,List.getElem?_map]at O;cases hx:(lj ws A n)[j]? with
  | none=>rw [hx]at O;cases O
  | some x=>
    rw [hx]at O;have O:=ojq O;subst O;have ai:j<n:=by have:=(List.getElem?_eq_some_iff.1 hx).1;omega
    have Z:ws[A+j]? =some x:=by unfold lj at hx;rw [List.getElem?_take_of_lt ai,List.getElem?_drop]at hx;exact hx
    have V:A+j<ws.length:=by omega
    have:=W.cellAt (A+j) (by rw [Nat.mul_one];exact V);rw [A8 V]at this;rw [List.getElem?_eq_getElem V]at Z;rw [<-ojq Z];rw [ua];exact this) (by rw [ui,F];omega) (by
  intro v hv;obtain ⟨x,-,rfl⟩:=List.mem_map.1 hv;rfl)
 rw [ui,F]at J;unfold Oper.wp;simp [execOp,ho,resolve,invoke,builtin,hd,hs,J,Result.andThen];have Y:(ma ws off (lj ws A n)).length=ws.length:=Cp (by omega);refine h _ ⟨rfl,rfl,rfl,by simp [World.setRow],fun k _ hk=>setRow_other w g k _ (fun e=>hk (by rw [e]))⟩ ?_;rw [Y];refine ⟨by rw [ui,Y];simp,Or.inr ⟨g,cap,_,rfl,aa,setRow_heap w g N _ 3 _ hg,aj,ac,?_,?_⟩⟩
 ·simp [ui,F];omega
 rw [Nat.mul_one];have:=zvt (l:=lj ws A n) (off:=off) X (by omega);rw [F]at this;exact this
end Go.Proofs.YtjdnmblggdobgaaGreat
