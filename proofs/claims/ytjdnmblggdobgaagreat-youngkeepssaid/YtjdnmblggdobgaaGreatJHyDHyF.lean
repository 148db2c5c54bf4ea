import Derived.Test.YtjdnmblggdobgaaGreatJTilHvE
import Derived.Test.YtjdnmblggdobgaaGreatJTk2Dies
import Derived.Lib.SliceRun
set_option maxHeartbeats 2000000
set_option maxRecDepth 100000
namespace Go.Proofs.YtjdnmblggdobgaaGreat
open Go.RowKit Go.Maps
theorem zr1 (w:World) (c:Value) (G:Option Addr) (n I:Nat):
 Calls Tryz.prog 135 #[.agg #[c,.slice G n I]] w fun r w'=>r=.returned (.bool (decide ((n:Int)<=1000)))/\Below w.heap.size w w':=by
 obtain ⟨N,D,A,J,L⟩:=jw w #[c,.slice G n I] 188;have E:=ae A;have F:=ae D;have O:=aw L 1 (x:=.slice G n I) rfl;have V:=bk L;clear D L A J;go_enter Tryz.func135,Tryz.ntmps135;go_wp2_with fail;rw [<-F.o];go_wp2_with fail;go_ret;exact ⟨rfl,E.o⟩
theorem zr2 (w:World) (P:Nat) (E:Option Addr) (n F:Nat) (D A:Int) (G:w.cell? ⟨P,0,none⟩=some (.slice E n F)) (I:w.cell? ⟨P,3,none⟩=some (.int .i64 D)) (J:w.cell? ⟨P,4,none⟩=some (.int .i64 A)) (h1:n<=1000000) (L:0<=D/\D<=1000000) (N:0<=A/\A<=1000000):
 Calls Tryz.prog 83 #[.pointer (some ⟨P,0,none⟩)] w fun r w'=>r=.returned (.int .i64 ((n:Int) - A - (D - 1)))/\∃q,w'=w.drewN q:=by
 have O:IntKind.i64.wrap ((n:Int) - A)=(n:Int) - A:=by rw [IntKind.wrap_i64];omega
 have V:IntKind.i64.wrap (D - 1)=D - 1:=by rw [IntKind.wrap_i64];omega
 have W:IntKind.i64.wrap ((n:Int) - A - (D - 1))=(n:Int) - A - (D - 1):=by rw [IntKind.wrap_i64];omega
 go_enter Tryz.func83,Tryz.ntmps83;go_wp2_with fail;go_quiet (fail);go_wp2_with fail;go_ret;exact ⟨rfl,_,rfl⟩
theorem zr3 (w:World) (X B:Nat) (W V G L I J N O:Value) (h:bb) (d:bd) (ts:List bp) (hc:mc X B w W V G L I J N O h d ts) (P:Nat) (Y:w.cell? ⟨P,0,none⟩=some (.pointer (some ⟨X+1,0,none⟩))) (x:Int) (E:(Lit.int .i64 x).wf=true):
 Calls Tryz.prog 189 #[.int .i64 x,.pointer (some ⟨P,0,none⟩)] w fun r w'=>r=.returned (.bool (!dh ts x))/\Below w.heap.size w w':=by
 have D:=ae (zhv w X B _ _ _ _ _ _ _ _ h d ts hc x E);clear hc E;go_enter Tryz.func189,Tryz.ntmps189;go_wp2_with fail;refine D.o.mono ?_;rintro r Z ⟨rfl,A⟩;have F:=ae A;clear A D;go_wp2_with fail;go_ret;exact ⟨rfl,F.o⟩
theorem zr4 (w:World) (X B C:Nat) (vW vO kC kS kF kN kT vA:Value) (h:bb) (d:bd) (ts:List bp) (hc:mc X B w vW vO kC kS kF kN kT vA h d ts) (D:Value) (rs:List Int) (hs:SL 1 RI (· <C) w D rs) (Y:C<=w.heap.size) (J:∀x∈rs,(Lit.int .i64 x).wf=true):
 Calls Tryz.prog 136 #[.agg #[.pointer (some ⟨X+1,0,none⟩),D]] w fun r w'=>r=.returned (.bool (!rs.any fun x=>!dh ts x))/\Below w.heap.size w w':=by
 have aa:=mm Tryz.prog;obtain ⟨O,hW,A,W,L⟩:=jw w #[.pointer (some ⟨X+1,0,none⟩),D] 188;have I:=hc.below A;have hp:=aw L 0 (x:=.pointer (some ⟨X+1,0,none⟩)) rfl;have F:Hid (Calls Tryz.prog 174 #[D,.func (.func 189) #[] #[.pointer (some ⟨w.heap.size,0,none⟩)]] O fun r w'=>r=.returned (.bool (rs.any fun x=>!dh ts x))/\Below O.heap.size O w'):=by refine zhy _ C D _ (hs.keptI (Kp.below (A.mono Y))) (lt3 Y A.size) 189 #[] _ (fun x=>!dh ts x) (fun args w=>by kernel_rfl) ?_;intro x hx V Z;exact zr3 V X B _ _ _ _ _ _ _ vA h d ts (I.below Z) w.heap.size ((Z.cell (p:=⟨w.heap.size,0,none⟩) (by show w.heap.size<_;omega)).trans hp) x (J x hx)
 have c1:=aw L 1 (x:=D) rfl;have gl:=bk L;have E:=ae A;have HW:=ae hW;obtain ⟨a,q,rfl,-⟩:=hs;clear hc I A hp J hW L W;generalize (rs.any fun x=>!dh ts x)=b at*;go_enter Tryz.func136,Tryz.ntmps136;go_wp2_with fail;rw [<-HW.o];refine F.o.mono ?_;rintro r w1 ⟨rfl,G⟩;have N:Hid (Below w.heap.size w w1):=E.o.trans (G.mono E.o.size);clear G F;go_wp2_with fail;go_ret;exact ⟨rfl,N.o⟩
def segL (ws:List Int) (loc n:Nat):List Int:=(ws.drop loc).take n
def ni (ws:List Int) (off:Nat) (l:List Int):List Int:=ws.take off++(l++ws.drop (off+l.length))
theorem zug {ws:List Int} {off:Nat} {l:List Int} (h:off+l.length<=ws.length):(ni ws off l).length=ws.length:=by simp [ni];omega
theorem zuh {ws:List Int} {A n:Nat} (h:A+n<=ws.length):(segL ws A n).length=n:=by simp [segL];omega
theorem zui {ws:List Int} {A n:Nat} {i:Int} (h0:0<=i) (h1:i<n):wd (segL ws A n) i=wd ws (A+i):=by unfold wd segL;rw [List.getElem?_take_of_lt (by omega),List.getElem?_drop,show A+i.toNat=((A:Int)+i).toNat by omega]
theorem zuj {ws:List Int} {off:Nat} {l:List Int} {a:Int} (h:off<=ws.length) (h1:(off:Int)<=a) (A:a<off+l.length):wd (ni ws off l) a=wd l (a - off):=by
 unfold wd ni;have e:(ws.take off).length=off:=by simp;omega
 rw [List.getElem?_append_right (by omega),e,List.getElem?_append_left (by omega),show a.toNat - off=(a - off).toNat by omega]
theorem zuk {ws:List Int} {off:Nat} {l:List Int} {a:Int} (h:off+l.length<=ws.length) (h0:0<=a) (h1:a<off\/off+l.length<=a):wd (ni ws off l) a=wd ws a:=by
 unfold wd ni;have e:(ws.take off).length=off:=by simp;omega
 rcases h1 with h1 | h1
 ·rw [List.getElem?_append_left (by omega),List.getElem?_take_of_lt (by omega)]
 rw [List.getElem?_append_right (by omega),e,List.getElem?_append_right (by omega),List.getElem?_drop,show off+l.length+(a.toNat - off - l.length)=a.toNat by omega]
structure fp where
 h:bb
 mv:List (Int×bp)
def ii (mv:List (Int×bp)) (n:Int):Option Int:=mv.foldl (fun acc p=>if p.1=n then some p.2.loc else acc) none
theorem zul (A:List (Int×bp)) (p:Int×bp) (n:Int):ii (A++ [p]) n=if p.1=n then some p.2.loc else ii A n:=by unfold ii;rw [List.foldl_append];rfl
def moveW (h:bb) (t:bp):bb:=⟨ni h.ab h.ar.toNat (segL h.ab t.loc.toNat (t.len+3).toNat),h.ag,h.old,h.be,h.ar+3+t.len,h.am,h.next⟩
def fp.move (s:fp) (t:bp):fp:=⟨moveW s.h t,s.mv++ [(t.loc,⟨s.h.ar,t.tag,t.len,t.hash⟩)]⟩
def fp.dst (s:fp) (v:Int):Int:=if dp s.h v then (ii s.mv v).getD s.h.ar else v
def fp.lead (s:fp) (v:Int):fp:=if dp s.h v&&(ii s.mv v).isNone then s.move (bj s.h.ab v) else s
def fp.put (s:fp) (a v:Int):fp:=⟨setW s.h a.toNat v,s.mv⟩
def fp.ref (s:fp) (a:Int):fp:=(s.lead (wd s.h.ab a)).put a (s.dst (wd s.h.ab a))
def fp.refs (s:fp) (l:List Int):fp:=l.foldl fp.ref s
def fp.roots (s:fp) (rs:List Int):fp:=rs.foldl fp.lead s
def fp.tos (s:fp):List Int->List Int
 | []=>[]
 | r::rs=>s.dst r::(s.lead r).tos rs
def fp.am (fs:List (List bg)) (s:fp) (ns:List Int):fp:=ns.foldl (fun s n=>s.refs (refsOf fs (bj s.h.ab n))) s
def fp.gone (fs:List (List bg)):Nat->Nat->fp->fp
 | 0,_,s=>s
 | f+1,i,s=>match s.mv[i]? with
   | none=>s
   | some p=>fp.gone fs f (i+1) (s.refs (refsOf fs p.2))
def leaveY (h:bb):bb:=⟨ni h.ab 1 (List.replicate h.ag.toNat 0),h.ag,h.old,1,h.ar,[],h.next⟩
def gq (d:bd) (h:bb) (rs:List Int):fp:=fp.gone d.fields h.ab.length 0 (fp.am d.fields (fp.roots ⟨h,[]⟩ rs) h.am)
def ck (d:bd) (h:bb) (rs:List Int):bb:=leaveY (gq d h rs).h
def ep (h:bb) (rs:List Int):List Int:=fp.tos ⟨h,[]⟩ rs
def leftD (h:bb):Int:=(h.ab.length:Int) - h.ar - (h.be - 1)
def Laid:Int->List (Int×bp)->Int->Prop
 | lo,[],hi=>lo=hi
 | lo,p::r,hi=>p.2.loc=lo/\Laid p.2.fin r hi
def jl (mv:List (Int×bp)) (v:Int):Int:=(ii mv v).getD v
def ik:List (Int×bp)->Int->Int
 | [],a=>a
 | p::r,a=>if p.2.loc<=a/\a<p.2.fin then p.1+(a - p.2.loc) else ik r a
theorem zum {p:Int×bp} :∀ {l:List (Int×bp)} {lo hi:Int},Laid lo l hi->p.2.loc=hi->Laid lo (l++ [p]) p.2.fin
 | [],_,_,h,e=>⟨e.trans h.symm,rfl⟩
 | _::_,_,_,h,e=>⟨h.1,zum h.2 e⟩
theorem zun:∀ {l:List (Int×bp)} {lo hi:Int},Laid lo l hi->(∀p∈l,0<=p.2.len)->lo<=hi/\∀p∈l,lo<=p.2.loc/\p.2.fin<=hi
 | [],lo,hi,h,_=>⟨Int.le_of_eq h,fun p A=>by cases A⟩
 | q::r,lo,hi,h,hl=>by
   have D:=zun h.2 fun p A=>hl p (List.mem_cons_of_mem _ A);have h0:=hl q (List.mem_cons_self ..);have h1:q.2.fin=q.2.loc+3+q.2.len:=rfl;have E:=h.1;refine ⟨by omega,fun p A=>?_⟩;rcases List.mem_cons.1 A with rfl | A
   ·exact ⟨by omega,by omega⟩
   have:=D.2 p A;exact ⟨by omega,this.2⟩
theorem zuo:∀ {l:List (Int×bp)} {a:Int},(∀p∈l,¬(p.2.loc<=a/\a<p.2.fin))->ik l a=a
 | [],a,_=>rfl
 | q::r,a,h=>by rw [ik,if_neg (h q (List.mem_cons_self ..))];exact zuo fun p A=>h p (List.mem_cons_of_mem _ A)
theorem zup {p:Int×bp} {a:Int} (h1:p.2.loc<=a) (E:a<p.2.fin):∀ {l:List (Int×bp)} {lo hi:Int},Laid lo l hi->(∀p∈l,0<=p.2.len)->p∈l->ik l a=p.1+(a - p.2.loc)
 | [],lo,hi,h,_,A=>by cases A
 | q::r,lo,hi,h,hl,A=>by
   rw [ik];rcases List.mem_cons.1 A with rfl | A
   ·rw [if_pos ⟨h1,E⟩]
   have D:∀p∈r,0<=p.2.len:=fun p A=>hl p (List.mem_cons_of_mem _ A);have:=(zun h.2 D).2 p A;rw [if_neg (by omega)];exact zup h1 E h.2 D A
theorem zuq {p:Int×bp} {a:Int} :∀ {l:List (Int×bp)},¬(p.2.loc<=a/\a<p.2.fin)->ik (l++ [p]) a=ik l a
 | [],h=>by show ik [p] a=a;rw [ik,if_neg h];rfl
 | q::r,h=>by rw [List.cons_append,ik,ik,zuq h]
theorem zur:∀ {l:List (Int×bp)} {v:Int},v∉l.map (·.1)->ii l v=none:=by
 intro l v h;unfold ii;induction l with
 | nil=>rfl
 | cons p r ih=>
   rw [List.map_cons,List.mem_cons,not_or]at h;rw [List.foldl_cons,if_neg (fun e=>h.1 e.symm)];exact ih h.2
theorem zus:∀ {l:List (Int×bp)} {p:Int×bp},p∈l->(l.map (·.1)).Nodup->ii l p.1=some p.2.loc:=by
 intro l p D E;have G:∀(r:List (Int×bp)) (A:Option Int),p.1∉r.map (·.1)->r.foldl (fun A q=>if q.1=p.1 then some q.2.loc else A) A=A:=by
  intro r;induction r with
  | nil=>intro A _;rfl
  | cons q r ih=>
    intro A h;rw [List.map_cons,List.mem_cons,not_or]at h;rw [List.foldl_cons,if_neg (fun e=>h.1 e.symm)];exact ih A h.2
 unfold ii;have F:∀(r:List (Int×bp)) (A:Option Int),p∈r->(r.map (·.1)).Nodup->r.foldl (fun A q=>if q.1=p.1 then some q.2.loc else A) A=some p.2.loc:=by
  intro r;induction r with
  | nil=>intro A D;cases D
  | cons q r ih=>
    intro A D E;rw [List.map_cons,List.nodup_cons]at E;rw [List.foldl_cons];rcases List.mem_cons.1 D with rfl | D
    ·rw [if_pos rfl];exact G r _ E.1
    exact ih _ D E.2
 exact F l none D E
theorem zut {l:List (Int×bp)} {v E:Int} (h:ii l v=some E):∃p∈l,p.1=v/\p.2.loc=E:=by
 have D:∀(r:List (Int×bp)) (A:Option Int),r.foldl (fun A q=>if q.1=v then some q.2.loc else A) A=some E->A=some E\/∃p∈r,p.1=v/\p.2.loc=E:=by
  intro r;induction r with
  | nil=>intro A h;exact Or.inl h
  | cons q r ih=>
    intro A h;rw [List.foldl_cons]at h;rcases ih _ h with h | ⟨p,F,h⟩
    ·by_cases e:q.1=v
     ·rw [if_pos e]at h;exact Or.inr ⟨q,List.mem_cons_self ..,e,ojq h⟩
     rw [if_neg e]at h;exact Or.inl h
    exact Or.inr ⟨p,List.mem_cons_of_mem _ F,h⟩
 rcases D l none h with h | h
 ·cases h
 exact h
theorem zuu {l:List (Int×bp)} {v:Int} :(ii l v).isSome=true↔v∈l.map (·.1):=by
 constructor
 ·intro h;obtain ⟨F,e⟩:=Option.isSome_iff_exists.1 h;obtain ⟨p,E,e,-⟩:=zut e;exact List.mem_map.2 ⟨p,E,e⟩
 intro h;cases e:ii l v with
 | some F=>rfl
 | none=>
   exfalso;obtain ⟨p,E,rfl⟩:=List.mem_map.1 h;have D:∀(r:List (Int×bp)) (A:Option Int),(p∈r\/A.isSome=true)->(r.foldl (fun A q=>if q.1=p.1 then some q.2.loc else A) A).isSome=true:=by
    intro r;induction r with
    | nil=>intro A h;rcases h with h | h
           ·cases h
           exact h
    | cons q r ih=>
      intro A h;rw [List.foldl_cons];refine ih _ ?_;by_cases e:q.1=p.1
      ·rw [if_pos e];exact Or.inr rfl
      rw [if_neg e];rcases h with h | h
      ·rcases List.mem_cons.1 h with rfl | h
       ·exact absurd rfl e
       exact Or.inl h
      exact Or.inr h
   have:=D l none (Or.inl E);unfold ii at e;rw [e]at this;cases this
structure YgT (d:bd) (h:bb) (t:bp):Prop where
 lo:1<=t.loc
 fin:t.fin<=h.be
 eq:t=bj h.ab t.loc
 fit:lg d t
theorem zuv {d:bd} {h:bb} {ts:List bp} (r:Right d h ts) {t:bp} (A:t∈ts) (J:t.loc<=h.ag):YgT d h t:=by
 have D:=r.sized;obtain ⟨N,L,E,F,rfl⟩:=zko r.both;have G:=D.be;have I:=D.ar;have h1:=D.ag;rcases List.mem_append.1 A with A | A
 ·have q:=zkn E t A;exact ⟨q.1,q.2.1,q.2.2.1,zkp (zki r.ok) q (by omega) (by omega)⟩
 have q:=zkn F t A;have:=q.1;omega
theorem zuw {h:bb} {v:Int} :dp h v=true↔0<v/\v<=h.ag:=by unfold dp;simp only [Bool.and_eq_true,decide_eq_true_eq]
theorem zux {ts:List bp} {v:Int} (h:dh ts v=true) (h0:v≠0):∃t∈ts,t.loc=v:=by
 unfold dh at h;rw [Bool.or_eq_true]at h;rcases h with h | h
 ·obtain ⟨t,e⟩:=Option.isSome_iff_exists.1 h;exact ⟨t,zie ts e⟩
 exact absurd (beq_iff_eq.1 h) h0
theorem zuy {f:Int->Int} :∀(m:List Int),(∀x∈m,0<=f x)->0<=(m.map f).sum
 | [],_=>Int.le_refl _
 | x::m,h0=>by have h1:=zuy m fun x A=>h0 x (List.mem_cons_of_mem _ A);have D:=h0 x (List.mem_cons_self ..);rw [List.map_cons,List.sum_cons];omega
theorem zuz {l m:List Int} (h:l.Perm m):l.sum=m.sum:=by
 induction h with
 | nil=>rfl
 | cons x _ ih=>rw [List.sum_cons,List.sum_cons,ih]
 | swap x y l=>simp only [List.sum_cons];omega
 | trans _ _ h1 h2=>exact h1.trans h2
theorem zu0 {f:Int->Int} :∀(l m:List Int),l.Nodup->(∀x∈l,x∈m)->(∀x∈m,0<=f x)->(l.map f).sum<=(m.map f).sum
 | [],m,_,_,h0=>zuy m h0
 | x::l,m,hn,hs,h0=>by
   rw [List.nodup_cons]at hn;have E:=hs x (List.mem_cons_self ..);have F:=zu0 l (m.erase x) hn.2 (fun y A=>(List.mem_erase_of_ne (fun e=>hn.1 (by rw [<-e];exact A))).2 (hs y (List.mem_cons_of_mem _ A))) (fun y A=>h0 y (List.mem_of_mem_erase A));have e:(m.map f).sum=f x+((m.erase x).map f).sum:=by have D:=(List.perm_cons_erase E).map f;have:=zuz D;rwa [List.map_cons,List.sum_cons]at this
   rw [e,List.map_cons,List.sum_cons];omega
theorem zu1 {n:Nat} {fs:List (List bg)} {ws:List Int} {A:Int} :∀(f:Nat) (lo:Int) (ts:List bp),(A - lo).toNat<=f->lo<=A->cb n fs ws lo A=some ts->(ts.map fun t=>3+t.len).sum=A - lo
 | f,lo,ts,hf,hl,e=>by
   by_cases D:lo<A
   ·by_cases E:io n fs ws lo A=true
    ·rw [zet D E]at e;cases hx:cb n fs ws (bj ws lo).fin A with
     | none=>rw [hx]at e;cases e
     | some ts'=>
       rw [hx]at e;have e:=ojq e;subst e;have h1:=zep E;match f,hf with
       | 0,hf=>omega
       | f+1,hf=>
         have F:=zu1 f (bj ws lo).fin ts' (by omega) h1.2.1 hx;rw [List.map_cons,List.sum_cons,F];have:(bj ws lo).fin=lo+3+(bj ws lo).len:=rfl;omega
    rw [zeu D E]at e;cases e
   rw [zes D]at e;have e:=ojq e;subst e;simp;omega
structure il (d:bd) (h0:bb) (ts:List bp) (s:fp) (dn:Int->Prop):Prop where
 len:s.h.ab.length=h0.ab.length
 yo:s.h.ag=h0.ag
 ol:s.h.old=h0.old
 yt:s.h.be=h0.be
 no:s.h.am=h0.am
 nx:s.h.next=h0.next
 fr:∀p∈s.mv,∃t∈ts,dp h0 t.loc=true/\p.1=t.loc/\p.2.tag=t.tag/\p.2.len=t.len/\p.2.hash=t.hash
 laid:Laid h0.ar s.mv s.h.ar
 nd:(s.mv.map (·.1)).Nodup
 yes:∀a:Int,0<=a->a<h0.ab.length->dn a->wd s.h.ab a=jl s.mv (wd h0.ab (ik s.mv a))
 nay:∀a:Int,0<=a->a<h0.ab.length->¬dn a->wd s.h.ab a=wd h0.ab (ik s.mv a)
 dn1:∀a:Int,dn a->h0.ag<a/\a<s.h.ar/\(dp h0 (wd h0.ab (ik s.mv a))=true->wd h0.ab (ik s.mv a)∈s.mv.map (·.1))
def Ext (s s':fp):Prop:=(∃e,s'.mv=s.mv++e)/\s.h.ar<=s'.h.ar/\∀a,a<s.h.ar->ik s'.mv a=ik s.mv a
theorem Ext.refl (s:fp):Ext s s:=⟨⟨[],(List.append_nil _).symm⟩,Int.le_refl _,fun _ _=>rfl⟩
theorem Ext.trans {s D A:fp} (h:Ext s D) (g:Ext D A):Ext s A:=by obtain ⟨⟨e,I⟩,N,F⟩:=h;obtain ⟨⟨f,J⟩,L,E⟩:=g;exact ⟨⟨e++f,by rw [J,I,List.append_assoc]⟩,by omega,fun a G=>(E a (by omega)).trans (F a G)⟩
theorem zu2 {d:bd} {h:bb} {ts:List bp} :il d h ts ⟨h,[]⟩ (fun _=>False):=
 ⟨rfl,rfl,rfl,rfl,rfl,rfl,(fun p A=>by cases A),rfl,List.nodup_nil,fun a _ _ h=>h.elim,fun a _ _ _=>rfl,fun a h=>h.elim⟩
section
variable {d:bd} {h0:bb} {ts:List bp} {s:fp} {dn:Int->Prop}
theorem il.lens (r:Right d h0 ts) (x:il d h0 ts s dn):∀p∈s.mv,0<=p.2.len:=fun p A=>by obtain ⟨t,D,E,-,-,e,-⟩:=x.fr p A;rw [e];exact (zuv r D (zuw.1 E).2).fit.lo
theorem il.srcLow (r:Right d h0 ts) (x:il d h0 ts s dn) {a:Int} (h:a<h0.ar):ik s.mv a=a:=
 zuo fun p A hc=>by have:=((zun x.laid (x.lens r)).2 p A).1;omega
theorem il.low (r:Right d h0 ts) (x:il d h0 ts s dn) {a:Int} (h1:0<=a) (A:a<=h0.ag):wd s.h.ab a=wd h0.ab a:=by have z:=r.sized;have D:=z.ag;have E:=z.old;have F:=z.len;have G:=z.ar;rw [x.nay a h1 (by omega) (fun h=>by have:=(x.dn1 a h).1;omega),x.srcLow r (by omega)]
theorem zu3:∀ {l:List (Int×bp)} {lo hi:Int},Laid lo l hi->(l.map fun p=>3+p.2.len).sum=hi - lo
 | [],lo,hi,h=>by simp only [List.map_nil,List.sum_nil];have:lo=hi:=h;omega
 | q::r,lo,hi,h=>by rw [List.map_cons,List.sum_cons,zu3 h.2];have h1:=h.1;have:q.2.fin=q.2.loc+3+q.2.len:=rfl;omega
theorem zu4 (r:Right d h0 ts) (l:List Int) (W:l.Nodup) (X:∀a∈l,∃t∈ts,dp h0 t.loc=true/\a=t.loc):(l.map fun a=>3+wd h0.ab (a+1)).sum<=h0.be - 1:=by
 have z:=r.sized;have Z:=z.be;have z5:=z.ar;obtain ⟨F,Y,G,V,rfl⟩:=zko r.both;have J:∀u∈F++Y,dp h0 u.loc=true->u∈F:=fun u A E=>by
  rcases List.mem_append.1 A with A | A
  ·exact A
  have:=(zkn V u A).1;have:=(zuw.1 E).2;omega
 have N:∀u∈F,3+u.len=3+wd h0.ab (u.loc+1):=fun u A=>by have:=(zkn G u A).2.2.1;exact congrArg (3+ ·) (congrArg bp.len this)
 have L:=zu1 _ 1 F (nlq _) (by omega) G;have D:=zu0 (f:=fun a=>3+wd h0.ab (a+1)) l (F.map bp.loc) W (by
  intro a I;obtain ⟨u,A,E,e⟩:=X a I;exact List.mem_map.2 ⟨u,J u A E,e.symm⟩) (by
  intro a I;obtain ⟨u,A,rfl⟩:=List.mem_map.1 I;show 0<=3+wd h0.ab (u.loc+1);rw [<-N u A];have:=zeo (zkn G u A).2.2.2.2;omega)
 rw [List.map_map]at D;have O:(F.map ((fun a=>3+wd h0.ab (a+1))∘bp.loc)).sum=h0.be - 1:=by rw [<-L];refine congrArg List.sum (List.map_congr_left fun u A=>?_);exact (N u A).symm
 rw [O]at D;exact D
theorem il.sum (r:Right d h0 ts) (x:il d h0 ts s dn):(s.mv.map ((fun a=>3+wd h0.ab (a+1))∘fun p=>p.1)).sum=s.h.ar - h0.ar:=by rw [<-zu3 x.laid];refine congrArg List.sum (List.map_congr_left fun p E=>?_);obtain ⟨u,F,A,e,-,D,-⟩:=x.fr p E;show 3+wd h0.ab (p.1+1)=3+p.2.len;rw [e,D];exact (congrArg (3+ ·) (congrArg bp.len (zuv r F (zuw.1 A).2).eq)).symm
theorem il.room (r:Right d h0 ts) (I:0<=leftD h0) (x:il d h0 ts s dn) {t:bp} (F:t∈ts) (G:dp h0 t.loc=true) (J:t.loc∉s.mv.map (·.1)):s.h.ar+3+t.len<=h0.ab.length:=by
 have D:=zu4 r (t.loc::s.mv.map (·.1)) (List.nodup_cons.2 ⟨J,x.nd⟩) (by
  intro a A;rcases List.mem_cons.1 A with rfl | A
  ·exact ⟨t,F,G,rfl⟩
  obtain ⟨p,L,rfl⟩:=List.mem_map.1 A;obtain ⟨u,N,E,e,-⟩:=x.fr p L;exact ⟨u,N,E,e⟩)
 rw [List.map_cons,List.sum_cons,List.map_map,x.sum r]at D;have O:t.len=wd h0.ab (t.loc+1):=congrArg bp.len (zuv r F (zuw.1 G).2).eq;unfold leftD at I;omega
theorem il.otopLe (r:Right d h0 ts) (F:0<=leftD h0) (x:il d h0 ts s dn):s.h.ar<=h0.ab.length:=by
 have A:=zu4 r (s.mv.map (·.1)) x.nd (by
  intro a E;obtain ⟨p,G,rfl⟩:=List.mem_map.1 E;obtain ⟨u,I,D,e,-⟩:=x.fr p G;exact ⟨u,I,D,e⟩)
 rw [List.map_map,x.sum r]at A;unfold leftD at F;omega
theorem il.ar (r:Right d h0 ts) (x:il d h0 ts s dn):h0.ar<=s.h.ar:=(zun x.laid (x.lens r)).1
theorem il.youngEq (x:il d h0 ts s dn) (v:Int):dp s.h v=dp h0 v:=by unfold dp;rw [x.yo]
theorem il.move (r:Right d h0 ts) (hl:0<=leftD h0) (x:il d h0 ts s dn) {t:bp} (ht:t∈ts) (W:dp h0 t.loc=true) (Z:t.loc∉s.mv.map (·.1)):il d h0 ts (s.move t) dn/\Ext s (s.move t):=by
 have z:=r.sized;have z1:=z.ag;have z2:=z.old;have z3:=z.len;have z4:=z.be;have z5:=z.ar;have y:=zuv r ht (zuw.1 W).2;have y1:=y.lo;have y2:=y.fin;have y3:=y.fit.lo;have y4:t.fin=t.loc+3+t.len:=rfl;have hr:=x.room r hl ht W Z;have ho:=x.ar r;have ad:=x.len;have aa:(s.h.ar.toNat:Int)=s.h.ar:=by omega
 have ac:(segL s.h.ab t.loc.toNat (t.len+3).toNat).length=(t.len+3).toNat:=zuh (by omega);have F:s.h.ar.toNat+(segL s.h.ab t.loc.toNat (t.len+3).toNat).length<=s.h.ab.length:=by omega
 have O:Laid h0.ar (s.mv++ [(t.loc,⟨s.h.ar,t.tag,t.len,t.hash⟩)]) (s.h.ar+3+t.len):=zum (p:=(t.loc,⟨s.h.ar,t.tag,t.len,t.hash⟩)) x.laid rfl;have Y:∀p∈s.mv++ [(t.loc,(⟨s.h.ar,t.tag,t.len,t.hash⟩:bp))],∃t∈ts,dp h0 t.loc=true/\p.1=t.loc/\p.2.tag=t.tag/\p.2.len=t.len/\p.2.hash=t.hash:=by
  intro p D;rcases List.mem_append.1 D with D | D
  ·exact x.fr p D
  rw [List.mem_singleton]at D;subst D;exact ⟨t,ht,W,rfl,rfl,rfl,rfl⟩
 have G:∀p∈s.mv++ [(t.loc,(⟨s.h.ar,t.tag,t.len,t.hash⟩:bp))],0<=p.2.len:=by
  intro p D;rcases List.mem_append.1 D with D | D
  ·exact x.lens r p D
  rw [List.mem_singleton]at D;subst D;exact y3
 have A:∀a,¬(s.h.ar<=a/\a<s.h.ar+3+t.len)->ik (s.mv++ [(t.loc,⟨s.h.ar,t.tag,t.len,t.hash⟩)]) a=ik s.mv a:=fun a N=>zuq N;have I:∀v,(dp h0 v=true->v∈s.mv.map (·.1))->jl (s.mv++ [(t.loc,⟨s.h.ar,t.tag,t.len,t.hash⟩)]) v=jl s.mv v:=by intro v hv;unfold jl;rw [zul,if_neg (fun e=>Z (by have e:t.loc=v:=e;rw [e];exact hv (e ▸ W)))]
 have V:∀a,0<=a->¬(s.h.ar<=a/\a<s.h.ar+3+t.len)->wd (s.move t).h.ab a=wd s.h.ab a:=fun a h0 N=>zuk F h0 (by omega);refine ⟨⟨(zug F).trans x.len,x.yo,x.ol,x.yt,x.no,x.nx,Y,O,?_,?_,?_,?_⟩,⟨_,rfl⟩,by show s.h.ar<=s.h.ar+3+t.len;omega,fun a N=>A a (by omega)⟩
 ·show ((s.mv++ [(t.loc,(⟨s.h.ar,t.tag,t.len,t.hash⟩:bp))]).map (·.1)).Nodup;rw [List.map_append,List.map_cons,List.map_nil];refine List.nodup_append.2 ⟨x.nd,by simp,?_⟩;intro a N b hb e;rw [List.mem_singleton]at hb;subst hb;subst e;exact Z N
 ·intro a L X J;have h1:=x.dn1 a J;rw [V a L (by omega),x.yes a L X J];show _=jl (s.mv++ [_]) (wd h0.ab (ik (s.mv++ [_]) a));rw [A a (by omega),I _ h1.2.2]
 ·intro a L X J;by_cases E:s.h.ar<=a/\a<s.h.ar+3+t.len
  ·have e1:ik (s.move t).mv a=t.loc+(a - s.h.ar):=zup (p:=(t.loc,⟨s.h.ar,t.tag,t.len,t.hash⟩)) E.1 E.2 O G (List.mem_append_right _ (List.mem_singleton.2 rfl));rw [e1];have e2:wd (s.move t).h.ab a=wd (segL s.h.ab t.loc.toNat (t.len+3).toNat) (a - s.h.ar.toNat):=zuj (by omega) (by omega) (by omega);rw [e2,zui (by omega) (by omega),show ((t.loc.toNat:Int)+(a - s.h.ar.toNat))=t.loc+(a - s.h.ar) by omega];exact x.low r (by omega) (by omega)
  rw [V a L E,x.nay a L X J];show _=wd h0.ab (ik (s.mv++ [_]) a);rw [A a E]
 intro a J;have h1:=x.dn1 a J;refine ⟨h1.1,by show a<s.h.ar+3+t.len;omega,?_⟩;show dp h0 (wd h0.ab (ik (s.mv++ [_]) a))=true->wd h0.ab (ik (s.mv++ [_]) a)∈(s.mv++ [(t.loc,(⟨s.h.ar,t.tag,t.len,t.hash⟩:bp))]).map (fun p:Int×bp=>p.1);rw [A a (by omega),List.map_append];exact fun h=>List.mem_append_left _ (h1.2.2 h)
structure Can (d:bd) (s:fp) (v:Int):Prop where
 lo:1<=v
 fin:(bj s.h.ab v).fin<=s.h.ag+1
 fit:lg d (bj s.h.ab v)
 room:s.h.ar+3+(bj s.h.ab v).len<=s.h.ab.length
 top:s.h.ag<s.h.ar
theorem il.thEq (r:Right d h0 ts) (x:il d h0 ts s dn) {t:bp} (A:t∈ts) (D:dp h0 t.loc=true):bj s.h.ab t.loc=t:=by
 have J:=r.sized.be;have y:=zuv r A (zuw.1 D).2;have E:=y.lo;have F:=y.fin;have G:=y.fit.lo;have I:t.fin=t.loc+3+t.len:=rfl;have e:bj s.h.ab t.loc=bj h0.ab t.loc:=by unfold bj;rw [x.low r (a:=t.loc) (by omega) (by omega),x.low r (a:=t.loc+1) (by omega) (by omega),x.low r (a:=t.loc+2) (by omega) (by omega)]
 exact e.trans y.eq.symm
theorem il.can (r:Right d h0 ts) (G:0<=leftD h0) (x:il d h0 ts s dn) {v:Int} (L:dh ts v=true) (A:dp s.h v=true) (I:ii s.mv v=none):Can d s v:=by
 rw [x.youngEq]at A;have F:=zuw.1 A;obtain ⟨t,E,rfl⟩:=zux L (by omega);have D:t.loc∉s.mv.map (·.1):=fun h=>by have:=zuu.2 h;rw [I]at this;cases this
 have y:=zuv r E F.2;have J:=x.room r G E A D;have V:=r.sized.be;have W:=r.sized.ar;have N:=x.ar r;have O:=y.fin;have e:=x.thEq r E A;exact ⟨y.lo,by rw [e,x.yo];omega,by rw [e];exact y.fit,by rw [e,x.len];exact J,by rw [x.yo];omega⟩
theorem il.lead (r:Right d h0 ts) (E:0<=leftD h0) (x:il d h0 ts s dn) {v:Int} (G:dh ts v=true):
 il d h0 ts (s.lead v) dn/\Ext s (s.lead v)/\s.dst v=jl (s.lead v).mv v/\(dp h0 v=true->v∈(s.lead v).mv.map (·.1)):=by
 unfold fp.lead fp.dst;rw [x.youngEq];cases hy:dp h0 v with
 | false=>
   simp only [Bool.false_and,Bool.false_eq_true,if_false];refine ⟨x,Ext.refl _,?_,fun h=>h.elim⟩;unfold jl;rw [zur]
   ·rfl
   intro h;obtain ⟨p,F,rfl⟩:=List.mem_map.1 h;obtain ⟨t,_,A,e,-⟩:=x.fr p F;rw [e,A]at hy;cases hy
 | true=>
   cases hn:ii s.mv v with
   | some tt=>
     simp only [Option.isNone_some,Bool.and_false,Bool.false_eq_true,if_false,if_true,Option.getD_some,forall_const];refine ⟨x,Ext.refl _,?_,zuu.1 (by rw [hn];rfl)⟩;unfold jl;rw [hn];rfl
   | none=>
     simp only [Option.isNone_none,Bool.and_self,if_true,Option.getD_none,forall_const];have I:=zuw.1 hy;obtain ⟨t,A,rfl⟩:=zux G (by omega);have D:t.loc∉s.mv.map (·.1):=fun h=>by have:=zuu.2 h;rw [hn]at this;cases this
     rw [x.thEq r A hy];have h1:=x.move r E A hy D;refine ⟨h1.1,h1.2,?_,?_⟩
     ·unfold jl fp.move;rw [zul,if_pos rfl];rfl
     show t.loc∈(s.mv++ [(t.loc,(⟨s.h.ar,t.tag,t.len,t.hash⟩:bp))]).map (fun p:Int×bp=>p.1);rw [List.map_append];exact List.mem_append_right _ (List.mem_singleton.2 rfl)
theorem il.put (r:Right d h0 ts) (x:il d h0 ts s dn) {a:Int} (h1:h0.ag<a) (J:a<s.h.ar) (N:a<h0.ab.length) (L:dp h0 (wd h0.ab (ik s.mv a))=true->wd h0.ab (ik s.mv a)∈s.mv.map (·.1)):
 il d h0 ts (s.put a (jl s.mv (wd h0.ab (ik s.mv a)))) (fun b=>dn b\/b=a):=by
 have O:=r.sized.ag;have G:=x.len;have I:((a.toNat:Nat):Int)=a:=by omega
 have D:wd (s.h.ab.set a.toNat (jl s.mv (wd h0.ab (ik s.mv a)))) a=jl s.mv (wd h0.ab (ik s.mv a)):=by have:=zsa (ws:=s.h.ab) (m:=a.toNat) (v:=jl s.mv (wd h0.ab (ik s.mv a))) (by omega);rwa [I]at this
 refine ⟨(List.length_set ..).trans x.len,x.yo,x.ol,x.yt,x.no,x.nx,x.fr,x.laid,x.nd,?_,?_,?_⟩
 ·intro b E F A;by_cases e:b=a
  ·subst e;exact D
  rcases A with A | A
  ·exact (zr9 (by omega)).trans (x.yes b E F A)
  exact absurd A e
 ·intro b E F A;rw [not_or]at A;exact (zr9 (by omega)).trans (x.nay b E F A.1)
 rintro b (A | rfl)
 ·exact x.dn1 b A
 exact ⟨h1,J,L⟩
end
section
variable {d:bd} {h0:bb} {ts:List bp} {s:fp} {dn:Int->Prop}
theorem il.iff {A:Int->Prop} (x:il d h0 ts s dn) (h:∀a,dn a↔A a):il d h0 ts s A:=by have:dn=A:=funext fun a=>propext (h a);rw [<-this];exact x
theorem il.ref (r:Right d h0 ts) (F:0<=leftD h0) (x:il d h0 ts s dn) {a:Int} (I:¬dn a) (h1:h0.ag<a) (E:a<s.h.ar) (J:dh ts (wd h0.ab (ik s.mv a))=true):
 il d h0 ts (s.ref a) (fun b=>dn b\/b=a)/\Ext s (s.ref a):=by
 have W:=r.sized.ag;have V:=x.otopLe r F;have e:=x.nay a (by omega) (by omega) I;unfold fp.ref;rw [e];obtain ⟨L,A,N,O⟩:=x.lead r F J;have D:=A.2.2 a E;rw [N];have G:=L.put r h1 (Int.lt_of_lt_of_le E A.2.1) (by omega) (by rw [D];exact O);rw [D]at G;exact ⟨G,A⟩
theorem il.refs (r:Right d h0 ts) (F:0<=leftD h0):∀(l:List Int) (s:fp) (dn:Int->Prop),il d h0 ts s dn->l.Nodup->(∀a∈l,¬dn a/\h0.ag<a/\a<s.h.ar/\dh ts (wd h0.ab (ik s.mv a))=true)->il d h0 ts (s.refs l) (fun b=>dn b\/b∈l)/\Ext s (s.refs l)
 | [],s,dn,x,_,_=>⟨x.iff fun a=>⟨Or.inl,fun h=>h.elim id fun h=>by cases h⟩,Ext.refl _⟩
 | a::l,s,dn,x,hn,h=>by
   rw [List.nodup_cons]at hn;obtain ⟨G,I,J,L⟩:=h a (List.mem_cons_self ..);obtain ⟨y,A⟩:=x.ref r F G I J L;obtain ⟨z,W⟩:=il.refs r F l (s.ref a) _ y hn.2 (fun b E=>by
    obtain ⟨N,O,D,V⟩:=h b (List.mem_cons_of_mem _ E);refine ⟨?_,O,Int.lt_of_lt_of_le D A.2.1,by rw [A.2.2 b D];exact V⟩;rintro (h | rfl)
    ·exact N h
    exact hn.1 E)
   refine ⟨z.iff fun b=>?_,A.trans W⟩;rw [List.mem_cons,or_assoc]
theorem il.refsAt (r:Right d h0 ts) (D:0<=leftD h0) {l:List Int} (x:il d h0 ts s dn) (E:l.Nodup) (h:∀a∈l,¬dn a/\h0.ag<a/\a<s.h.ar/\dh ts (wd h0.ab (ik s.mv a))=true) (k:Nat) (N:k<l.length):
 il d h0 ts (s.refs (l.take k)) (fun b=>dn b\/b∈l.take k)/\dh ts (wd (s.refs (l.take k)).h.ab l[k])=true/\0<=l[k]/\l[k]<h0.ab.length:=by
 obtain ⟨y,J⟩:=il.refs r D (l.take k) s dn x (E.sublist (List.take_sublist _ _)) fun a L=>h a (List.mem_of_mem_take L);obtain ⟨F,V,G,I⟩:=h l[k] (gm N);have Y:=r.sized.ag;have X:=x.otopLe r D;have A:l[k]∉l.take k:=by intro O;obtain ⟨j,W,e⟩:=List.mem_take_iff_getElem.1 O;have:=(List.getElem_inj (xs:=l) E).1 e;omega
 refine ⟨y,?_,by omega,by omega⟩;rw [y.nay l[k] (by omega) (by omega) (by rintro (h | h);exact F h;exact A h),J.2.2 _ G];exact I
theorem il.roots (r:Right d h0 ts) (A:0<=leftD h0):∀(rs:List Int) (s:fp) (dn:Int->Prop),il d h0 ts s dn->(∀v∈rs,dh ts v=true)->il d h0 ts (s.roots rs) dn/\Ext s (s.roots rs)
 | [],s,dn,x,_=>⟨x,Ext.refl _⟩
 | v::rs,s,dn,x,h=>by obtain ⟨y,D,-⟩:=x.lead r A (h v (List.mem_cons_self ..));obtain ⟨z,E⟩:=il.roots r A rs (s.lead v) dn y fun u F=>h u (List.mem_cons_of_mem _ F);exact ⟨z,D.trans E⟩
theorem zu5 (fs:List (List bg)) (x:bp):(refsOf fs x).Nodup:=by unfold refsOf;refine List.Pairwise.map _ (fun a b h e=>h ?_) (List.Pairwise.filter _ List.nodup_range);have e:x.loc+3+(a:Int)=x.loc+3+(b:Int):=e;omega
theorem zu6 (r:Right d h0 ts) {x:bp} (E:x∈ts) {a:Int} (D:a∈refsOf d.fields x):dh ts (wd h0.ab a)=true:=by
 have h:=r.lead;rw [List.any_eq_false]at h;have h1:=h x E;unfold gc at h1;rw [Bool.not_eq_true,List.any_eq_false]at h1;have A:¬(!dh ts (wd h0.ab a))=true:=h1 a D;cases hc:dh ts (wd h0.ab a)with
 | true=>rfl
 | false=>rw [hc]at A;exact absurd rfl A
def dnN (fs:List (List bg)) (ts:List bp) (ns:List Int) (a:Int):Prop:=∃n∈ns,∃x∈ts,x.loc=n/\a∈refsOf fs x
theorem zu7 (r:Right d h0 ts) {x:bp} (A:x∈ts) (I:h0.ag<x.loc):h0.ag<x.loc/\x.fin<=h0.ar/\x=bj h0.ab x.loc/\lg d x/\∀a∈refsOf d.fields x,x.loc+3<=a/\a<x.fin:=by
 have z:=r.sized;obtain ⟨X,W,E,F,D⟩:=zko r.both;have h1:=z.be;have J:=z.ar;have L:=z.ag;have N:=z.old;have q:ReadAt d h0 (h0.ag+1) h0.ar x:=by
  rw [D]at A;rcases List.mem_append.1 A with A | A
  ·have:=zkn E x A;have:=this.2.1;have O:=zeo (zkn E x A).2.2.2.2;have:x.fin=x.loc+3+x.len:=rfl;omega
  exact zkn F x A
 refine ⟨I,q.2.1,q.2.2.1,zkp (zki r.ok) q (by omega) (by omega),fun a G=>?_⟩;obtain ⟨n,e,V,-⟩:=zto G;have:x.fin=x.loc+3+x.len:=rfl;omega
theorem zu8 (r:Right d h0 ts) {x y:bp} (A:x∈ts) (D:y∈ts):y=x\/y.fin<=x.loc\/x.fin<=y.loc:=(zsg r.sized r.both x A).2.2.2 y D
theorem zu9 (r:Right d h0 ts) {x y:bp} (D:x∈ts) (A:y∈ts) (h:x.loc=y.loc):y=x:=by
 have h1:=zsg r.sized r.both x D;have E:=zsg r.sized r.both y A;rcases h1.2.2.2 y A with h | h | h
 ·exact h
 ·omega
 omega
theorem il.noteAt (r:Right d h0 ts) {ns:List Int} (x:il d h0 ts s (dnN d.fields ts ns)) (F:∀n∈ns,h0.ag<n) {t:bp} (G:t∈ts) (X:h0.ag<t.loc) (W:t.loc∉ns):
 bj s.h.ab t.loc=t/\(∀a∈refsOf d.fields t,¬dnN d.fields ts ns a/\h0.ag<a/\a<s.h.ar/\dh ts (wd h0.ab (ik s.mv a))=true):=by
 have q:=zu7 r G X;have z:=r.sized;have z1:=z.ag;have z3:=z.len;have z5:=z.ar;have Y:=x.ar r;have D:∀a,t.loc<=a->a<t.fin->¬dnN d.fields ts ns a:=by
  rintro a J L ⟨n,A,y,O,rfl,E⟩;have Z:=zu7 r O (F _ A);have:=Z.2.2.2.2 a E;rcases zu8 r G O with e | e | e
  ·subst e;exact W A
  ·omega
  omega
 have N:t.fin=t.loc+3+t.len:=rfl;have V:=q.2.2.2.1.lo;have I:∀a,t.loc<=a->a<t.fin->wd s.h.ab a=wd h0.ab a:=fun a J L=>by rw [x.nay a (by omega) (by omega) (D a J L),x.srcLow r (by omega)]
 refine ⟨?_,fun a E=>?_⟩
 ·have e:bj s.h.ab t.loc=bj h0.ab t.loc:=by
   unfold bj;rw [I t.loc (by omega) (by omega),I (t.loc+1) (by omega) (by omega),I (t.loc+2) (by omega) (by omega)]
  exact e.trans q.2.2.1.symm
 have:=q.2.2.2.2 a E;exact ⟨D a (by omega) (by omega),by omega,by omega,by rw [x.srcLow r (by omega)];exact zu6 r G E⟩
theorem il.noteStep (r:Right d h0 ts) (J:0<=leftD h0) {ns:List Int} (x:il d h0 ts s (dnN d.fields ts ns)) (A:∀n∈ns,h0.ag<n) {t:bp} (D:t∈ts) (N:h0.ag<t.loc) (L:t.loc∉ns):
 il d h0 ts (s.refs (refsOf d.fields (bj s.h.ab t.loc))) (dnN d.fields ts (ns++ [t.loc]))/\Ext s (s.refs (refsOf d.fields (bj s.h.ab t.loc))):=by
 obtain ⟨e,h⟩:=x.noteAt r A D N L;rw [e];obtain ⟨y,G⟩:=il.refs r J _ s _ x (zu5 _ _) h;refine ⟨y.iff fun a=>?_,G⟩;constructor
 ·rintro (⟨n,h1,I⟩ | h)
  ·exact ⟨n,List.mem_append_left _ h1,I⟩
  exact ⟨t.loc,List.mem_append_right _ (List.mem_singleton.2 rfl),t,D,rfl,h⟩
 rintro ⟨n,h1,y,F,e,E⟩;rcases List.mem_append.1 h1 with h1 | h1
 ·exact Or.inl ⟨n,h1,y,F,e,E⟩
 rw [List.mem_singleton]at h1;have:=zu9 r D F (h1.symm.trans e.symm);subst this;exact Or.inr E
def dnG (fs:List (List bg)) (ts:List bp) (ns:List Int) (i:Nat) (mv:List (Int×bp)) (a:Int):Prop:=dnN fs ts ns a\/∃j,∃p,j<i/\mv[j]? =some p/\a∈refsOf fs p.2
theorem zva {fs:List (List bg)} {x y:bp} (h:x.tag=y.tag) (n:Nat):je fs x n=je fs y n:=by unfold je;rw [h]
theorem zvb (l:List (Int×bp)):∀ {lo E:Int},Laid lo l E->(∀p∈l,0<=p.2.len)->∀ {i j:Nat} {p q:Int×bp},i<j->l[i]? =some p->l[j]? =some q->p.2.fin<=q.2.loc:=by
 induction l with
 | nil=>intro lo E _ _ i j p q _ A;cases A
 | cons x l ih=>
   intro lo E h I i j p q G A F;have D:∀p∈l,0<=p.2.len:=fun p A=>I p (List.mem_cons_of_mem _ A);cases j with
   | zero=>omega
   | succ j=>
     rw [List.getElem?_cons_succ]at F;cases i with
     | zero=>
       rw [List.getElem?_cons_zero]at A;have e:=ojq A;subst e;exact ((zun h.2 D).2 q (List.mem_of_getElem? F)).1
     | succ i=>
       rw [List.getElem?_cons_succ]at A;exact ih h.2 D (by omega) A F
theorem il.goneAt (r:Right d h0 ts) (Z:0<=leftD h0) {ns:List Int} {i:Nat} (x:il d h0 ts s (dnG d.fields ts ns i s.mv)) (I:∀n∈ns,h0.ag<n) {p:Int×bp} (N:s.mv[i]? =some p):
 lg d p.2/\p.2.fin<=h0.ab.length/\(∀a∈refsOf d.fields p.2,¬dnG d.fields ts ns i s.mv a/\h0.ag<a/\a<s.h.ar/\dh ts (wd h0.ab (ik s.mv a))=true):=by
 have A:=List.mem_of_getElem? N;have aa:=(zun x.laid (x.lens r)).2 p A;have z:=r.sized;have z1:=z.ag;have z2:=z.old;have z3:=z.len;have z5:=z.ar;have ho:=x.otopLe r Z;obtain ⟨t,O,hy,V,J,W,e4⟩:=x.fr p A;have y:=zuv r O (zuw.1 hy).2;have L:p.2.fin=p.2.loc+3+p.2.len:=rfl;have D:=x.lens r p A;refine ⟨⟨by rw [J,W];exact y.fit.tag,D,by omega,by omega⟩,by omega,fun a X=>?_⟩;obtain ⟨n,ea,hn,hr⟩:=zto X;refine ⟨?_,by omega,by omega,?_⟩
 ·rintro (⟨m,G,u,hu,rfl,F⟩ | ⟨j,q,Y,hq,E⟩)
  ·have qu:=zu7 r hu (I _ G);have:=qu.2.2.2.2 a F;omega
  have:=zvb _ x.laid (x.lens r) Y hq N;obtain ⟨m,em,A,-⟩:=zto E;have:q.2.fin=q.2.loc+3+q.2.len:=rfl;omega
 rw [zup (p:=p) (by omega) (by omega) x.laid (x.lens r) A,V,show t.loc+(a - p.2.loc)=t.loc+3+(n:Int) by omega];exact zu6 r O (ztp (by omega) (by rw [<-zva J];exact hr))
theorem il.goneStep (r:Right d h0 ts) (L:0<=leftD h0) {ns:List Int} {i:Nat} (x:il d h0 ts s (dnG d.fields ts ns i s.mv)) (I:∀n∈ns,h0.ag<n) {p:Int×bp} (E:s.mv[i]? =some p):
 il d h0 ts (s.refs (refsOf d.fields p.2)) (dnG d.fields ts ns (i+1) (s.refs (refsOf d.fields p.2)).mv)/\Ext s (s.refs (refsOf d.fields p.2)):=by
 obtain ⟨-,-,h⟩:=x.goneAt r L I E;obtain ⟨y,J⟩:=il.refs r L _ s _ x (zu5 _ _) h;refine ⟨y.iff fun a=>?_,J⟩;obtain ⟨⟨e,N⟩,-⟩:=J;have O:i<s.mv.length:=by
  rcases Nat.lt_or_ge i s.mv.length with h | h
  ·exact h
  rw [List.getElem?_eq_none h]at E;cases E
 have A:∀j,j<=i->(s.refs (refsOf d.fields p.2)).mv[j]? =s.mv[j]? :=fun j G=>by rw [N,List.getElem?_append_left (by omega)]
 constructor
 ·rintro ((h | ⟨j,q,h1,D,F⟩) | h)
  ·exact Or.inl h
  ·exact Or.inr ⟨j,q,by omega,(A j (by omega)).trans D,F⟩
  exact Or.inr ⟨i,p,by omega,(A i (nlq _)).trans E,h⟩
 rintro (h | ⟨j,q,h1,D,F⟩)
 ·exact Or.inl (Or.inl h)
 rw [A j (by omega)]at D;rcases Nat.lt_or_ge j i with G | G
 ·exact Or.inl (Or.inr ⟨j,q,G,D,F⟩)
 have:j=i:=by omega
 subst this;rw [E]at D;have:=ojq D;subst this;exact Or.inr F
theorem il.count (r:Right d h0 ts) (D:0<=leftD h0) (x:il d h0 ts s dn):s.mv.length<h0.ab.length:=by
 have J:=zu3 x.laid;have I:=x.otopLe r D;have z:=r.sized;have L:=z.ag;have N:=z.ar;have E:(s.mv.length:Int)<=(s.mv.map fun p=>3+p.2.len).sum:=by
  have A:∀l:List (Int×bp),(∀p∈l,0<=p.2.len)->(l.length:Int)<=(l.map fun p=>3+p.2.len).sum:=by
   intro l;induction l with
   | nil=>intro _;exact Int.le_refl _
   | cons q l ih=>
     intro h;have h1:=ih fun p F=>h p (List.mem_cons_of_mem _ F);have G:=h q (List.mem_cons_self ..);rw [List.map_cons,List.sum_cons,List.length_cons];omega
  exact A _ (x.lens r)
 omega
theorem il.goneAll (r:Right d h0 ts) (D:0<=leftD h0) {ns:List Int} (A:∀n∈ns,h0.ag<n):∀(f i:Nat) (s:fp),h0.ab.length<=i+f->i<=s.mv.length->il d h0 ts s (dnG d.fields ts ns i s.mv)->il d h0 ts (fp.gone d.fields f i s) (dnG d.fields ts ns (fp.gone d.fields f i s).mv.length (fp.gone d.fields f i s).mv)/\Ext s (fp.gone d.fields f i s)
 | 0,i,s,hf,hi,x=>by have:=x.count r D;omega
 | f+1,i,s,hf,hi,x=>by
   rw [fp.gone];cases hp:s.mv[i]? with
   | none=>
     have:s.mv.length<=i:=List.getElem?_eq_none_iff.1 hp;have e:i=s.mv.length:=by omega
     subst e;exact ⟨x,Ext.refl _⟩
   | some p=>
     obtain ⟨y,E⟩:=x.goneStep r D A hp;have J:i<s.mv.length:=by
      rcases Nat.lt_or_ge i s.mv.length with h | h
      ·exact h
      rw [List.getElem?_eq_none h]at hp;cases hp
     have F:s.mv.length<=(s.refs (refsOf d.fields p.2)).mv.length:=by obtain ⟨⟨e,I⟩,-⟩:=E;rw [I,List.length_append];omega
     obtain ⟨z,G⟩:=il.goneAll r D A f (i+1) _ (by omega) (by omega) y;exact ⟨z,E.trans G⟩
end
structure NwD (mv:List (Int×bp)) (D:DataW Unit):Prop where
 has:∀n,Maps.has D (ky n)=(ii mv n).isSome
 at_:∀n t z,ii mv n=some t->D.atKey (ky n) z=.lit (.int .i64 t)
 no:∀n z,ii mv n=none->D.atKey (ky n) z=z
theorem zvp:NwD [] (.map []):=⟨fun _=>rfl,(fun n t z h=>by cases h),fun n z _=>rfl⟩
theorem zvq {F:List (Int×bp)} {D:DataW Unit} (h:NwD F D) (G:Tidy D) (p:Int×bp):NwD (F++ [p]) (D.put (ky p.1) (.lit (.int .i64 p.2.loc))):=by
 have E:=G.isMap;refine ⟨fun n=>?_,fun n s z A=>?_,fun n z A=>?_⟩
 ·rw [zul];by_cases e:p.1=n
  ·subst e;rw [has_put_same E (isIKey _),if_pos rfl];rfl
  rw [has_put_other (zfg (Ne.symm e)),if_neg e,h.has]
 ·rw [zul]at A;by_cases e:p.1=n
  ·subst e;rw [if_pos rfl]at A;rw [atKey_put_same E (isIKey _),ojq A]
  rw [if_neg e]at A;rw [atKey_put_other (zfg (Ne.symm e)),h.at_ n s z A]
 rw [zul]at A;by_cases e:p.1=n
 ·rw [if_pos e]at A;cases A
 rw [if_neg e]at A;rw [atKey_put_other (zfg (Ne.symm e)),h.no n z A]
def NwMap (w:World) (b:Nat) (mv:List (Int×bp)):Prop:=∃D:DataW Unit,w.ownsMap Tryz.prog 3 (plainElem Tryz.prog 3) b mv.length D/\NwD mv D
theorem NwMap.lt {w:World} {b:Nat} {A:List (Int×bp)} (h:NwMap w b A):b<w.heap.size:=by obtain ⟨D,h,_⟩:=h;exact h.lt
theorem NwMap.kept {w w':World} {b:Nat} {E:List (Int×bp)} (h:NwMap w b E) {row:Option Nat} (G:w.grownBy w' row) (A:some b≠row):NwMap w' b E:=by obtain ⟨D,h,F⟩:=h;exact ⟨D,h.kept G A,F⟩
theorem NwMap.below {B:Nat} {w w':World} {b:Nat} {E:List (Int×bp)} (h:NwMap w b E) (I:Below B w w') (G:b<B):NwMap w' b E:=by obtain ⟨D,⟨F,A,e,h⟩,J⟩:=h;exact ⟨D,⟨F,A,(I.block b G).trans e,h⟩,J⟩
def sepB (l:List (Option Nat)):Prop:=l.Pairwise fun a b=>∀k,a=some k->b≠some k
theorem zvr {l:List (Option Nat)} (h:sepB l) {i j k:Nat} (A:i<j) (G:l[i]? =some (some k)):l[j]? ≠some (some k):=by intro I;obtain ⟨h1,D⟩:=List.getElem?_eq_some_iff.1 G;obtain ⟨F,E⟩:=List.getElem?_eq_some_iff.1 I;exact List.pairwise_iff_getElem.1 h i j h1 F A k D E
theorem zvs {l:List (Option Nat)} (h:sepB l) {i j k:Nat} (A:i<j) (E:l[j]? =some (some k)):l[i]? ≠some (some k):=fun D=>zvr h A D E
structure Mo (b B:Nat) (w:World) (T M X:Nat) (nW nO nR gv kC kS kF kN kT:Value) (h:bb) (m g:List (Int×bp)) (rs:List Int) (d:bd):Prop where
 blk:w.heap[T]? =some (.cells #[nW,.int .i64 h.ag,.int .i64 h.old,.int .i64 h.be,.int .i64 h.ar,nO,.int .i64 h.next,kC,kS,kF,kN,kT,nR] 131 (0,0))
 mvr:w.heap[M]? =some (.cells #[.pointer (some ⟨T,0,none⟩),.map (some X),gv] 196 (0,0))
 rW:w.ownsRow b 3 1 nW h.ab.length (b8 h.ab)
 rO:w.ownsRow b 3 1 nO h.am.length (b8 h.am)
 rR:w.ownsRow b 3 1 nR rs.length (b8 rs)
 rG:w.ownsRow b 101 4 gv g.length (i6 (g.map (·.2)))
 mp:NwMap w X m
 lk:j9 (· <B) w kC kS kF kN kT d
 le:B<=b
 bT:b<=T
 bM:b<=M
 bX:b<=X
 sep:sepB [some T,some M,some X,nW.ownBlock,nO.ownBlock,nR.ownBlock,gv.ownBlock]
theorem Mo.below {b B T M X:Nat} {w:World} {O L N D E I F G J:Value} {h:bb} {m g:List (Int×bp)} {rs:List Int} {d:bd} (o:Mo b B w T M X O L N D E I F G J h m g rs d) {w':World} (A:Below w.heap.size w w'):Mo b B w' T M X O L N D E I F G J h m g rs d:=
 have V:=bk o.blk
 ⟨(A.block _ V).trans o.blk,(A.block _ (bk o.mvr)).trans o.mvr,kv o.rW A,kv o.rO A,kv o.rR A,kv o.rG A,o.mp.below A o.mp.lt,o.lk.kept (Kp.below (A.mono (by have:=o.le;have:=o.bT;omega))),o.le,o.bT,o.bM,o.bX,o.sep⟩
theorem Mo.gd {b B T M X:Nat} {w:World} {L J Y N D G E F I:Value} {h:bb} {m g:List (Int×bp)} {rs:List Int} {d:bd} (o:Mo b B w T M X L J Y N D G E F I h m g rs d) (h1:h.ab.length<=1000000) (O:h.am.length<=1000000):Gd w.heap.size w T L J D G E F I h d:=
 have V:=bk o.blk;have W:∀k,k<B->k<w.heap.size:=fun k A=>by have:=o.le;have:=o.bT;omega
 ⟨V,nlq _,aw o.blk 0 rfl,aw o.blk 1 rfl,aw o.blk 2 rfl,aw o.blk 3 rfl,aw o.blk 4 rfl,aw o.blk 5 rfl,aw o.blk 6 rfl,aw o.blk 7 rfl,aw o.blk 8 rfl,aw o.blk 9 rfl,aw o.blk 10 rfl,aw o.blk 11 rfl,(zfb o.rW h1).monoI fun k A=>A.lt,(zfb o.rO O).monoI fun k A=>A.lt,o.lk.mono W⟩
theorem Mo.lkUp {b B T M X:Nat} {w:World} {W O V J D G E F I:Value} {h:bb} {m g:List (Int×bp)} {rs:List Int} {d:bd} (o:Mo b B w T M X W O V J D G E F I h m g rs d) {w':World} {k:Nat} (A:w.grownBy w' (some k)) (Y:b<=k):j9 (· <B) w' D G E F I d:=o.lk.kept ⟨A.size,fun j L N=>A.block j N (by have:=o.le;have:=L;intro e;injection e;omega)⟩
theorem Mo.ab {b B T M X:Nat} {w:World} {E G I F N W O V Y:Value} {h:bb} {m g:List (Int×bp)} {rs:List Int} {d:bd} (o:Mo b B w T M X E G I F N W O V Y h m g rs d) {w':World} {k:Nat} {ws:List Int} (L:E.ownBlock=some k) (A:w.grownBy w' (some k)) (Z:w'.ownsRow b 3 1 E ws.length (b8 ws)):Mo b B w' T M X E G I F N W O V Y ⟨ws,h.ag,h.old,h.be,h.ar,h.am,h.next⟩ m g rs d/\Below b w w':=
 have J:b<=k:=(o.rW.lt k L).1;have D: [some T,some M,some X,E.ownBlock,G.ownBlock,I.ownBlock,F.ownBlock][3]? =some (some k):=congrArg some L
 ⟨⟨(A.block T (bk o.blk) (fun e=>zvs o.sep (i:=0) (by decide) D (congrArg some e))).trans o.blk,(A.block M (bk o.mvr) (fun e=>zvs o.sep (i:=1) (by decide) D (congrArg some e))).trans o.mvr,Z,o.rO.kept A (Or.inr fun e=>zvr o.sep (j:=4) (by decide) D (congrArg some e)),o.rR.kept A (Or.inr fun e=>zvr o.sep (j:=5) (by decide) D (congrArg some e)),o.rG.kept A (Or.inr fun e=>zvr o.sep (j:=6) (by decide) D (congrArg some e)),o.mp.kept A (fun e=>zvs o.sep (i:=2) (by decide) D (congrArg some e)),o.lkUp A J,o.le,o.bT,o.bM,o.bX,o.sep⟩,(br b w).grown A (by have:=bk o.blk;have:=o.bT;omega) (fun j e=>by cases e;exact J)⟩
theorem Mo.rootsUp {b B T M X:Nat} {w:World} {I G E F N W O V Y:Value} {h:bb} {m g:List (Int×bp)} {rs:List Int} {d:bd} (o:Mo b B w T M X I G E F N W O V Y h m g rs d) {w':World} {k:Nat} {rs':List Int} (L:E.ownBlock=some k) (A:w.grownBy w' (some k)) (Z:w'.ownsRow b 3 1 E rs'.length (b8 rs')):Mo b B w' T M X I G E F N W O V Y h m g rs' d/\Below b w w':=
 have J:b<=k:=(o.rR.lt k L).1;have D: [some T,some M,some X,I.ownBlock,G.ownBlock,E.ownBlock,F.ownBlock][5]? =some (some k):=congrArg some L
 ⟨⟨(A.block T (bk o.blk) (fun e=>zvs o.sep (i:=0) (by decide) D (congrArg some e))).trans o.blk,(A.block M (bk o.mvr) (fun e=>zvs o.sep (i:=1) (by decide) D (congrArg some e))).trans o.mvr,o.rW.kept A (Or.inr fun e=>zvs o.sep (i:=3) (by decide) D (congrArg some e)),o.rO.kept A (Or.inr fun e=>zvs o.sep (i:=4) (by decide) D (congrArg some e)),Z,o.rG.kept A (Or.inr fun e=>zvr o.sep (j:=6) (by decide) D (congrArg some e)),o.mp.kept A (fun e=>zvs o.sep (i:=2) (by decide) D (congrArg some e)),o.lkUp A J,o.le,o.bT,o.bM,o.bX,o.sep⟩,(br b w).grown A (by have:=bk o.blk;have:=o.bT;omega) (fun j e=>by cases e;exact J)⟩
theorem Mo.map {b B T M X:Nat} {w:World} {I F G E J O L N V:Value} {h:bb} {m g:List (Int×bp)} {rs:List Int} {d:bd} (o:Mo b B w T M X I F G E J O L N V h m g rs d) {w':World} {W:List (Int×bp)} (A:w.grownBy w' (some X)) (Y:NwMap w' X W):Mo b B w' T M X I F G E J O L N V h W g rs d/\Below b w w':=
 have D: [some T,some M,some X,I.ownBlock,F.ownBlock,G.ownBlock,E.ownBlock][2]? =some (some X):=rfl
 ⟨⟨(A.block T (bk o.blk) (fun e=>zvs o.sep (i:=0) (by decide) D (congrArg some e))).trans o.blk,(A.block M (bk o.mvr) (fun e=>zvs o.sep (i:=1) (by decide) D (congrArg some e))).trans o.mvr,o.rW.kept A (Or.inr fun e=>zvr o.sep (j:=3) (by decide) D (congrArg some e)),o.rO.kept A (Or.inr fun e=>zvr o.sep (j:=4) (by decide) D (congrArg some e)),o.rR.kept A (Or.inr fun e=>zvr o.sep (j:=5) (by decide) D (congrArg some e)),o.rG.kept A (Or.inr fun e=>zvr o.sep (j:=6) (by decide) D (congrArg some e)),Y,o.lkUp A o.bX,o.le,o.bT,o.bM,o.bX,o.sep⟩,(br b w).grown A (by have:=bk o.blk;have:=o.bT;omega) (fun j e=>by cases e;exact o.bX)⟩
theorem Mo.task {b B T M X:Nat} {w:World} {F W E G J O L N V:Value} {h:bb} {m g:List (Int×bp)} {rs:List Int} {d:bd} (o:Mo b B w T M X F W E G J O L N V h m g rs d) {w':World} {h':bb} {nO':Value} (A:w.grownBy w' (some T)) (Y:w'.heap[T]? =some (.cells #[F,.int .i64 h'.ag,.int .i64 h'.old,.int .i64 h'.be,.int .i64 h'.ar,nO',.int .i64 h'.next,J,O,L,N,V,E] 131 (0,0))) (hw:h'.ab=h.ab) (Z:w'.ownsRow b 3 1 nO' h'.am.length (b8 h'.am)) (I:nO'=W\/nO'.ownBlock=none):Mo b B w' T M X F nO' E G J O L N V h' m g rs d/\Below b w w':=
 have D: [some T,some M,some X,F.ownBlock,W.ownBlock,E.ownBlock,G.ownBlock][0]? =some (some T):=rfl
 have hs:sepB [some T,some M,some X,F.ownBlock,nO'.ownBlock,E.ownBlock,G.ownBlock]:=by
  rcases I with rfl | I
  ·exact o.sep
  have:=o.sep;unfold sepB at this ⊢;rw [I];simp only [List.pairwise_cons,List.mem_cons,List.not_mem_nil,or_false,forall_eq_or_imp,forall_eq,List.Pairwise.nil,and_true,false_implies,implies_true]at this ⊢;refine ⟨⟨this.1.1,this.1.2.1,this.1.2.2.1,fun _ _ e=>(by cases e),this.1.2.2.2.2⟩,⟨this.2.1.1,this.2.1.2.1,fun _ _ e=>(by cases e),this.2.1.2.2.2⟩,⟨this.2.2.1.1,fun _ _ e=>(by cases e),this.2.2.1.2.2⟩,⟨fun _ _ e=>(by cases e),this.2.2.2.1.2⟩,⟨fun _ e=>(by cases e),fun _ e=>(by cases e)⟩,this.2.2.2.2.2⟩
 ⟨⟨Y,(A.block M (bk o.mvr) (fun e=>zvr o.sep (j:=1) (by decide) D (congrArg some e))).trans o.mvr,hw ▸ o.rW.kept A (Or.inr fun e=>zvr o.sep (j:=3) (by decide) D (congrArg some e)),Z,o.rR.kept A (Or.inr fun e=>zvr o.sep (j:=5) (by decide) D (congrArg some e)),o.rG.kept A (Or.inr fun e=>zvr o.sep (j:=6) (by decide) D (congrArg some e)),o.mp.kept A (fun e=>zvr o.sep (j:=2) (by decide) D (congrArg some e)),o.lkUp A o.bT,o.le,o.bT,o.bM,o.bX,hs⟩,(br b w).grown A (by have:=bk o.blk;have:=o.bT;omega) (fun j e=>by cases e;exact o.bT)⟩
structure jc (L T M X:Nat) (nW gv:Value) (w:World) (gv':Value) (w':World):Prop where
 os:w'.os=w.os
 tape:w'.tape=w.tape
 output:w'.output=w.output
 size:w.heap.size<=w'.heap.size
 block:∀k,k<L->k<w.heap.size->k≠T->k≠M->k≠X->nW.ownBlock≠some k->gv.ownBlock≠some k->w'.heap[k]? =w.heap[k]?
 gv:∀j,gv'.ownBlock=some j->gv.ownBlock=some j\/L<=j
theorem jc.trans {L T M X:Nat} {A D E F:Value} {J N O:World} (h:jc L T M X A D J E N) (k:jc L T M X A E N F O):jc L T M X A D J F O:=
 ⟨k.os.trans h.os,k.tape.trans h.tape,k.output.trans h.output,lt3 h.size k.size,fun j G I a b c e f=>(k.block j G (ll3 I h.size) a b c e (fun q=>by
  rcases h.gv j q with q | q
  ·exact f q
  ·omega)).trans (h.block j G I a b c e f),fun j e=>by
  rcases k.gv j e with e | e
  ·exact h.gv j e
  exact Or.inr e⟩
theorem jc.mono {L A T M X:Nat} {F D E:Value} {G I:World} (h:jc L T M X F D G E I) (N:A<=L):jc A T M X F D G E I:=
 ⟨h.os,h.tape,h.output,h.size,fun j J=>h.block j (by omega),fun j e=>(h.gv j e).imp id fun e=>by omega⟩
theorem jc.ofBelow {L T M X:Nat} {E A:Value} {w w':World} (h:Below L w w'):jc L T M X E A w A w':=⟨h.os,h.tape,h.output,h.size,fun j D _ _ _ _ _ _=>h.block j D,fun _ e=>Or.inl e⟩
theorem jc.ofGrown {L T M X k:Nat} {D A:Value} {w w':World} (h:w.grownBy w' (some k)) (E:k=T\/k=M\/k=X\/D.ownBlock=some k\/L<=k):jc L T M X D A w A w':=
 ⟨h.os,h.tape,h.output,h.size,fun j G F a b c e _=>h.block j F (fun q=>by
  have q:=ojq q;subst q;rcases E with q | q | q | q | q
  ·exact a q
  ·exact b q
  ·exact c q
  ·exact e q
  omega),fun _ e=>Or.inl e⟩
theorem jc.toBelow {b B T M X:Nat} {w w':World} {E O V D A F J G I N:Value} {h:bb} {m g:List (Int×bp)} {rs:List Int} {d:bd} (o:Mo b B w T M X E O V D F J G I N h m g rs d) {L:Nat} (k:jc L T M X E D w A w') (Y:b<=L):Below b w w':=
 ⟨k.os,k.tape,k.output,k.size,fun j W=>k.block j (by omega) (by have:=bk o.blk;have:=o.bT;omega) (by have:=o.bT;omega) (by have:=o.bM;omega) (by have:=o.bX;omega) (fun e=>by have:=(o.rW.lt j e).1;omega) (fun e=>by have:=(o.rG.lt j e).1;omega)⟩
theorem Mo.more {b B T M X:Nat} {w:World} {N O V E kC kS kF kN kT:Value} {h:bb} {m g:List (Int×bp)} {rs:List Int} {d:bd} (o:Mo b B w T M X N O V E kC kS kF kN kT h m g rs d) {w1 w':World} {q:Int×bp} {F cA:Nat} (G:w.grownBy w1 E.ownBlock) (hr:w1.ownsRow b 101 4 (.slice (some ⟨F,0,none⟩) (g.length+1) cA) (g.length+1) (i6 (g.map (·.2))++ [.int .i64 q.2.loc,.int .i64 q.2.tag,.int .i64 q.2.len,.int .i64 q.2.hash])) (hA:E.ownBlock=some F\/w.heap.size<=F) (hw:w'=w1.setCell ⟨M,2,none⟩ (.slice (some ⟨F,0,none⟩) (g.length+1) cA)):
 Mo b B w' T M X N O V (.slice (some ⟨F,0,none⟩) (g.length+1) cA) kC kS kF kN kT h m (g++ [q]) rs d/\Below b w w'/\∀L,L<=w.heap.size->jc L T M X N E w (.slice (some ⟨F,0,none⟩) (g.length+1) cA) w':=by
 have lT:=bk o.blk;have lM:=bk o.mvr;have lX:=o.mp.lt;have I:∀(k i:Nat),i<6-> [some T,some M,some X,N.ownBlock,O.ownBlock,V.ownBlock,E.ownBlock][i]? =some (some k)->E.ownBlock≠some k:=fun k i W e Z=>zvr o.sep (j:=6) W e (congrArg some Z);have Y:∀(k i:Nat),i<6-> [some T,some M,some X,N.ownBlock,O.ownBlock,V.ownBlock,E.ownBlock][i]? =some (some k)->k<w.heap.size->F≠k:=fun k i W e hk Z=>by
  rcases hA with h1 | h1
  ·exact I k i W e (by rw [h1,Z])
  omega
 have k1:w1.heap[M]? =some (.cells #[.pointer (some ⟨T,0,none⟩),.map (some X),E] 196 (0,0)):=(G.block M lM (fun e=>I M 1 (by decide) rfl e.symm)).trans o.mvr;have A:w1.grownBy w' (some M):=hw ▸ mf (World.grownBy.refl _ _) _ _ (Or.inl rfl);have k2:w'.heap[M]? =some (.cells #[.pointer (some ⟨T,0,none⟩),.map (some X),.slice (some ⟨F,0,none⟩) (g.length+1) cA] 196 (0,0)):=hw ▸ mu k1 _;have ao:=G.size;have ah:N.ownBlock≠some M:=fun e=>zvr o.sep (i:=1) (j:=3) (by decide) rfl (congrArg some e);have ad:O.ownBlock≠some M:=fun e=>zvr o.sep (i:=1) (j:=4) (by decide) rfl (congrArg some e);have af:V.ownBlock≠some M:=fun e=>zvr o.sep (i:=1) (j:=5) (by decide) rfl (congrArg some e);have ag:T≠M:=fun e=>zvr o.sep (i:=0) (j:=1) (by decide) rfl (by rw [e];rfl);have ai:X≠M:=fun e=>zvr o.sep (i:=1) (j:=2) (by decide) rfl (by rw [e];rfl);have J:∀ {v:Value} {l:List Int} (i:Nat),i<6-> [some T,some M,some X,N.ownBlock,O.ownBlock,V.ownBlock,E.ownBlock][i]? =some v.ownBlock->w.ownsRow b 3 1 v l.length (b8 l)->v.ownBlock≠some M->w'.ownsRow b 3 1 v l.length (b8 l):=fun {v l} i W e ho hm=>by
  refine World.ownsRow.kept (World.ownsRow.kept ho G ?_) A (Or.inr hm);cases hv:v.ownBlock with
  | none=>exact Or.inl rfl
  | some k=>exact Or.inr fun Z=>I k i W (by rw [e,hv]) Z.symm
 have aj:b<=w.heap.size:=by have:=o.bT;omega
 have ak:∀k,E.ownBlock=some k->b<=k:=fun k e=>(o.rG.lt k e).1;have aa:Below b w w1:=(br b w).grown G aj ak;have an:=hr.lt F rfl;refine ⟨⟨(A.block T (by omega) (fun e=>ag (ojq e))).trans ((G.block T lT (fun e=>I T 0 (by decide) rfl e.symm)).trans o.blk),k2,J 3 (by decide) rfl o.rW ah,J 4 (by decide) rfl o.rO ad,J 5 (by decide) rfl o.rR af,?_,(o.mp.kept G (fun e=>I X 2 (by decide) rfl e.symm)).kept A (fun e=>ai (ojq e)),o.lk.kept (Kp.below ((aa.grown A (by omega) (fun j e=>by cases e;exact o.bM)).mono o.le)),o.le,o.bT,o.bM,o.bX,?_⟩,aa.grown A (by omega) (fun j e=>by cases e;exact o.bM),fun L hL=>⟨A.os.trans G.os,A.tape.trans G.tape,A.output.trans G.output,lt3 G.size A.size,fun j hj hl _ b _ _ f=>(A.block j (by omega) (fun e=>b (ojq e))).trans (G.block j hl (fun e=>f e.symm)),fun j e=>by
  have e:F=j:=ojq e;rcases hA with q | q
  ·exact Or.inl (by rw [q,e])
  exact Or.inr (by omega)⟩⟩
 ·have e1:(g++ [q]).length=g.length+1:=by simp
  rw [e1,List.map_append,List.map_cons,List.map_nil,zhk];exact hr.kept A (Or.inr fun e=>Y M 1 (by decide) rfl lM (ojq e))
 have hp:sepB ([some T,some M,some X,N.ownBlock,O.ownBlock,V.ownBlock]++ [E.ownBlock]):=o.sep;show sepB ([some T,some M,some X,N.ownBlock,O.ownBlock,V.ownBlock]++ [some F]);unfold sepB at hp ⊢;rw [List.pairwise_append]at hp ⊢;refine ⟨hp.1,List.pairwise_singleton ..,fun a ha c hc k hk=>?_⟩;rw [List.mem_singleton]at hc;subst hc;subst hk;intro e;obtain ⟨i,W,Z⟩:=List.getElem_of_mem ha;have ac:i<6:=W;have D: [some T,some M,some X,N.ownBlock,O.ownBlock,V.ownBlock,E.ownBlock][i]? =some (some k):=by
  have:([some T,some M,some X,N.ownBlock,O.ownBlock,V.ownBlock]++ [E.ownBlock])[i]? =some (some k):=by rw [List.getElem?_append_left W,List.getElem?_eq_getElem W,Z]
  exact this
 have al:k<w.heap.size:=by
  match i,ac,D with
  | 0,_,D=>have:=ojq (ojq D);omega
  | 1,_,D=>have:=ojq (ojq D);omega
  | 2,_,D=>have:=ojq (ojq D);omega
  | 3,_,D=>exact (o.rW.lt k (ojq D)).2
  | 4,_,D=>exact (o.rO.lt k (ojq D)).2
  | 5,_,D=>exact (o.rR.lt k (ojq D)).2
 exact Y k i ac D al (ojq e)
theorem zvt {A:List Value} {ws l:List Int} {off:Nat} (hc:A.take ws.length=b8 ws) (h:off+l.length<=ws.length):
 (A.take off++(b8 l++A.drop (off+l.length))).take ws.length=b8 (ni ws off l):=by
 have F:ws.length<=A.length:=by have:=congrArg List.length hc;rw [List.length_take,zir]at this;omega
 have D:A.take off=b8 (ws.take off):=by
  have:(A.take ws.length).take off=(b8 ws).take off:=by rw [hc]
  rw [List.take_take,Nat.min_eq_left (by omega)]at this;rw [this,b8,b8,List.map_take]
 have E:(A.drop (off+l.length)).take (ws.length - (off+l.length))=b8 (ws.drop (off+l.length)):=by
  have:(A.take ws.length).drop (off+l.length)=(b8 ws).drop (off+l.length):=by rw [hc]
  rw [List.drop_take]at this;rw [this,b8,b8,List.map_drop]
 rw [List.take_append,List.take_append,List.length_take,Nat.min_eq_left (by omega),List.take_of_length_le (by rw [List.length_take];omega)];rw [List.take_of_length_le (l:=b8 l) (by rw [zir];omega)];rw [show ws.length - off - (b8 l).length=ws.length - (off+l.length) by rw [zir];omega,D,E,ni,ziq,ziq]
theorem zvu {ops:Array Oper} {o:Oper} {a:Act} {w:World} {K:Act->World->Prop} {Q:Exit->Act->World->Prop} {E:Prop} (ag:o.guard=none) (dd s:Operand)
 (ho:o.op=.call { callee:=.builtin .copy,args:=#[dd,s],argTypes:=#[22,22] }) (b g off A n D G L cap:Nat) (ws:List Int) (I:w.ownsRow b 3 1 (.slice (some ⟨g,0,none⟩) ws.length cap) ws.length (b8 ws))
 (hd:a.eval dd=.slice (some ⟨g,off,none⟩) D G) (hs:a.eval s=.slice (some ⟨g,A,none⟩) n L) (al:off+n<=ws.length) (aj:A+n<=ws.length) (af:n<=D)
 (h:∀w',w.grownBy w' (some g)->w'.ownsRow b 3 1 (.slice (some ⟨g,0,none⟩) ws.length cap) (ni ws off (segL ws A n)).length (b8 (ni ws off (segL ws A n)))->K (a.put o.dst (goInt n)) w'):
 if Region.wanted o (yielded ops a.tmps)=true then Oper.wp Tryz.prog o a w K Q else E:=by
 have hw:Region.wanted o (yielded ops a.tmps)=true:=by simp [Region.wanted,ag]
 rw [if_pos hw];have F:(segL ws A n).length=n:=zuh aj;have W:=I;obtain ⟨h1,h2⟩:=I;rcases h2 with ⟨e,h0⟩ | ⟨g',ak,N,e,aa,hg,ai,ac,ad,X⟩
 ·cases e
 cases e;rw [Nat.mul_one]at X ad;have an:ws.length<=N.size:=by omega
 have J:=run_copy_row (P:=Tryz.prog) w 22 22 o.type 3 g off D G ⟨g,A,none⟩ n L N 3 (b8 (segL ws A n)) Tryz.underlying22 (by kernel_rfl) hg (by rw [zir,F];exact (Nat.min_eq_left af).symm) (by
  intro j v O;rw [b8,List.getElem?_map]at O;cases hx:(segL ws A n)[j]? with
  | none=>rw [hx]at O;cases O
  | some x=>
    rw [hx]at O;have O:=ojq O;subst O;have ah:j<n:=by have:=(List.getElem?_eq_some_iff.1 hx).1;omega
    have Z:ws[A+j]? =some x:=by unfold segL at hx;rw [List.getElem?_take_of_lt ah,List.getElem?_drop]at hx;exact hx
    have V:A+j<ws.length:=by omega
    have:=W.cellAt (A+j) (by rw [Nat.mul_one];exact V);rw [zmp V]at this;rw [List.getElem?_eq_getElem V]at Z;rw [<-ojq Z];rw [zg1];exact this) (by rw [zir,F];omega) (by
  intro v hv;obtain ⟨x,-,rfl⟩:=List.mem_map.1 hv;rfl)
 rw [zir,F]at J;unfold Oper.wp;simp [execOp,ho,resolve,invoke,builtin,hd,hs,J,Result.andThen];have Y:(ni ws off (segL ws A n)).length=ws.length:=zug (by omega);refine h _ ⟨rfl,rfl,rfl,by simp [World.setRow],fun k _ hk=>setRow_other w g k _ (fun e=>hk (by rw [e]))⟩ ?_;rw [Y];refine ⟨by rw [zir,Y];simp,Or.inr ⟨g,cap,_,rfl,aa,setRow_heap w g N _ 3 _ hg,ai,ac,?_,?_⟩⟩
 ·simp [zir,F];omega
 rw [Nat.mul_one];have:=zvt (l:=segL ws A n) (off:=off) X (by omega);rw [F]at this;exact this
end Go.Proofs.YtjdnmblggdobgaaGreat
