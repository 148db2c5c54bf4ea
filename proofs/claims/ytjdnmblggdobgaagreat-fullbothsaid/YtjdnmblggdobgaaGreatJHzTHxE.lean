import Derived.Test.YtjdnmblggdobgaaGreatJHzBHzR
namespace Go.Proofs.YtjdnmblggdobgaaGreat
open Go.Maps Go.RowKit List Or
def Fj (d:ax) (h:ar) (ns o:List Int):List Int:=ns.foldl (fun o n=>(ev d.fields h.ab n).foldl (pg (yg h)) o) o
def ma (d:ax) (h:ar) (rs:List Int):List Int:=wb (yg h) (ev d.fields h.ab) h.ab.length 0 (Fj d h h.ap (rs.foldl (pg (yg h)) []))
theorem zwr (l:List (Int×bq)) (v:Int):(io l v).isNone= !(l.map (·.1)).contains v:=by
 have e:(io l v).isSome=(l.map (·.1)).contains v:=by rw [Bool.eq_iff_iff,zuk,contains_iff_mem]
 rw [<-e];cases io l v<;>rfl
theorem zws {m:List (Int×bq)} {v:Int} :∀ {e:List (Int×bq)},v∉e.map (·.1)->io (m++e) v=io m v:=by
 intro e h;unfold io;rw [foldl_append];generalize foldl _ none m=acc;induction e generalizing acc with
 | nil=>rfl
 | cons p e ih=>
   rw [map_cons,mem_cons,not_or]at h;rw [foldl_cons,if_neg (fun q=>h.1 q.symm)];exact ih h.2 acc
section
variable {d:ax} {h0:ar} {ts:List bq} {s:ge} {dn:Int->Prop}
theorem zwt {m e:List (Int×bq)} {v:Int} (A:((m++e).map (·.1)).Nodup) (F:∀p∈e,dw h0 p.1=true) (E:dw h0 v=true->v∈m.map (·.1)):jv (m++e) v=jv m v:=by unfold jv;rw [zws];intro hc;obtain ⟨p,D,rfl⟩:=mem_map.1 hc;rw [map_append,nodup_append]at A;exact A.2.2 _ (E (F p D)) _ (mem_map.2 ⟨p,D,rfl⟩) rfl
theorem zwu (x:jl d h0 ts s dn) (v:Int):(s.lead v).mv.map (·.1)=pg (yg h0) (s.mv.map (·.1)) v:=by
 unfold ge.lead pg;rw [x.youngEq,zvy,zwr];by_cases hc:(dw h0 v&& !(s.mv.map (·.1)).contains v)=true
 ·rw [if_pos hc,if_pos hc];show (s.mv++ [((v:Int),(⟨s.h.be,(bp s.h.ab v).tag,(bp s.h.ab v).len,(bp s.h.ab v).hash⟩:bq))]).map (fun p:Int×bq=>p.1)=s.mv.map (fun p:Int×bq=>p.1)++ [v];rw [map_append];rfl
 rw [if_neg hc,if_neg hc]
theorem zwv (r:Right d h0 ts) (A:0<=leftD h0):∀(rs:List Int) (s:ge) (dn:Int->Prop),jl d h0 ts s dn->(∀v∈rs,cq ts v=true)->(s.roots rs).mv.map (·.1)=rs.foldl (pg (yg h0)) (s.mv.map (·.1))
 | [],_,_,_,_=>rfl
 | v::rs,s,dn,x,h=>by obtain ⟨y,-,-⟩:=x.lead r A (h v (mem_cons_self ..));have D:=zwv r A rs _ dn y fun u E=>h u (mem_cons_of_mem _ E);rw [zwu x]at D;exact D
theorem zww (r:Right d h0 ts) (E:0<=leftD h0):∀(rs:List Int) (s:ge) (dn:Int->Prop),jl d h0 ts s dn->(∀v∈rs,cq ts v=true)->∀(s':ge),Ext (s.roots rs) s'->(s'.mv.map (·.1)).Nodup->(∀p∈s'.mv,dw h0 p.1=true)->s.tos rs=rs.map (jv s'.mv)
 | [],_,_,_,_,_,_,_,_=>rfl
 | v::rs,s,dn,x,h,s',he,hn,hy=>by
   obtain ⟨y,-,V,W⟩:=x.lead r E (h v (mem_cons_self ..));have G:=fun u N=>h u (mem_cons_of_mem _ N);have O:=zww r E rs _ dn y G s' he hn hy;obtain ⟨-,⟨I,D⟩,-⟩:=jl.roots r E rs _ dn y G;obtain ⟨⟨F,A⟩,-⟩:=he;have A:s'.mv=((s.lead v).roots rs).mv++F:=A;have L:s'.mv=(s.lead v).mv++(I++F):=by rw [A,D,append_assoc]
   show s.dst v::(s.lead v).tos rs=jv s'.mv v::rs.map (jv s'.mv);rw [O,V];congr 1;rw [L]at hn hy ⊢;exact (zwt hn (fun p J=>hy p (mem_append_right _ J)) W).symm
theorem zwx (r:Right d h0 ts) (E:0<=leftD h0):∀(l:List Int) (s:ge) (dn:Int->Prop),jl d h0 ts s dn->l.Nodup->(∀a∈l,¬dn a/\h0.ae<a/\a<s.h.be/\cq ts (wd h0.ab (jk s.mv a))=true)->(s.refs l).mv.map (·.1)=(l.map fun a=>wd h0.ab (jk s.mv a)).foldl (pg (yg h0)) (s.mv.map (·.1))
 | [],_,_,_,_,_=>rfl
 | a::l,s,dn,x,hn,h=>by
   rw [nodup_cons]at hn;obtain ⟨F,J,L,N⟩:=h a (mem_cons_self ..);obtain ⟨y,D⟩:=x.ref r E F J L N;have z1:=r.sized.ae;have Z:=x.otopLe r E;have e:=x.B1 a (by omega) (by omega) F;have I:=zwx r E l (s.ref a) _ y hn.2 (fun b A=>by
    obtain ⟨O,V,G,W⟩:=h b (mem_cons_of_mem _ A);refine ⟨?_,V,Int.lt_of_lt_of_le G D.2.1,by rw [D.2.2 b G];exact W⟩;rintro (h | rfl)
    ·exact O h
    exact hn.1 A)
   have X:(s.ref a).mv.map (·.1)=pg (yg h0) (s.mv.map (·.1)) (wd h0.ab (jk s.mv a)):=by show (s.lead (wd s.h.ab a)).mv.map (·.1)=_;rw [e];exact zwu x _
   have Y:(l.map fun b=>wd h0.ab (jk (s.ref a).mv b))=l.map fun b=>wd h0.ab (jk s.mv b):=map_congr_left fun b A=>by rw [D.2.2 b (h b (mem_cons_of_mem _ A)).2.2.1]
   rw [X,Y]at I;exact I
theorem zwy (r:Right d h0 ts) (F:0<=leftD h0):∀(l ns:List Int) (s:ge),jl d h0 ts s (Cu d.fields ts ns)->(∀n∈ns,h0.ae<n)->(∀n∈l,∃t∈ts,t.loc=n/\h0.ae<n)->(ns++l).Nodup->jl d h0 ts (ge.ap d.fields s l) (Cu d.fields ts (ns++l))/\Ext s (ge.ap d.fields s l)/\(ge.ap d.fields s l).mv.map (·.1)=Fj d h0 l (s.mv.map (·.1))
 | [],ns,s,x,_,_,_=>⟨by rw [append_nil];exact x,Ext.refl _,rfl⟩
 | n::l,ns,s,x,h1,h2,h3=>by
   obtain ⟨t,G,rfl,D⟩:=h2 n (mem_cons_self ..);have E:t.loc∉ns:=fun hc=>(nodup_append.1 h3).2.2 _ hc _ (mem_cons_self ..) rfl;obtain ⟨e,V⟩:=x.noteAt r h1 G D E;obtain ⟨y,N⟩:=x.noteStep r F h1 G D E;have L:=zwx r F (refsOf d.fields t) s _ x (Fz _ _) V;have q:=Bw r G D;have J:(refsOf d.fields t).map (fun a=>wd h0.ab (jk s.mv a))=ev d.fields h0.ab t.loc:=by unfold ev;rw [<-q.2.2.1];exact map_congr_left fun a O=>by rw [x.srcLow r (by have:=q.2.2.2.2 a O;have:=q.2.1;omega)]
   obtain ⟨I,W,X⟩:=zwy r F l (ns++ [t.loc]) _ y (by
    intro m A;rcases mem_append.1 A with A | A
    ·exact h1 m A
    rw [mem_singleton]at A;rw [A];exact D) (fun n D=>h2 n (mem_cons_of_mem _ D)) (by rw [append_assoc];exact h3)
   rw [append_assoc]at I;refine ⟨I,N.trans W,?_⟩;refine Eq.trans X ?_;rw [e,L,J];rfl
theorem zwz (r:Right d h0 ts) (x:jl d h0 ts s dn) {p:Int×bq} (E:p∈s.mv):(refsOf d.fields p.2).map (fun a=>wd h0.ab (jk s.mv a))=ev d.fields h0.ab p.1:=by obtain ⟨t,I,J,D,F,G,-⟩:=x.fr p E;have y:=ze r I (vj.1 J).2;unfold ev;rw [D,<-y.eq];unfold refsOf;rw [map_map,map_map,G,show jw d.fields p.2=jw d.fields t from funext fun n=>C7 F n];refine map_congr_left fun n A=>?_;obtain ⟨A,-⟩:=mem_filter.1 A;have A:=mem_range.1 A;show wd h0.ab (jk s.mv (p.2.loc+3+(n:Int)))=wd h0.ab (t.loc+3+(n:Int));have L:p.2.fin=p.2.loc+3+p.2.len:=rfl;rw [zuf (p:=p) (by omega) (by omega) x.laid (x.lens r) E,D,show t.loc+(p.2.loc+3+(n:Int) - p.2.loc)=t.loc+3+(n:Int) by omega]
theorem zw0 (r:Right d h0 ts) (D:0<=leftD h0) {ns:List Int} (A:∀n∈ns,h0.ae<n):∀(f i:Nat) (s:ge),jl d h0 ts s (Bp d.fields ts ns i s.mv)->(ge.gone d.fields f i s).mv.map (·.1)=wb (yg h0) (ev d.fields h0.ab) f i (s.mv.map (·.1))
 | 0,_,_,_=>rfl
 | f+1,i,s,x=>by
   rw [ge.gone,wb,getElem?_map];cases hp:s.mv[i]? with
   | none=>rfl
   | some p=>
     obtain ⟨y,-⟩:=x.goneStep r D A hp;obtain ⟨-,-,F⟩:=x.goneAt r D A hp;have E:=zwx r D (refsOf d.fields p.2) s _ x (Fz _ _) F;rw [zwz r x (mem_of_getElem? hp)]at E;show (ge.gone d.fields f (i+1) (s.refs (refsOf d.fields p.2))).mv.map (·.1)=wb (yg h0) (ev d.fields h0.ab) f (i+1) ((ev d.fields h0.ab p.1).foldl (pg (yg h0)) (s.mv.map (·.1)));rw [zw0 r D A f (i+1) _ y,E]
theorem zw1 (r:Right d h0 ts) (D:0<=leftD h0) (rs:List Int) (G:∀v∈rs,cq ts v=true):
 jl d h0 ts (ij d h0 rs) (Bp d.fields ts h0.ap (ij d h0 rs).mv.length (ij d h0 rs).mv)/\(ij d h0 rs).mv.map (·.1)=ma d h0 rs/\cb h0 rs=rs.map (jv (ij d h0 rs).mv):=by
 have E:∀n∈h0.ap,h0.ae<n:=fun n A=>by obtain ⟨_,_,_,q⟩:=F0 r A;exact q
 obtain ⟨N,a2⟩:=jl.roots r D rs ⟨h0,[]⟩ _ zus G;have O:=zwv r D rs ⟨h0,[]⟩ _ zus G;obtain ⟨V,W,I⟩:=zwy r D h0.ap [] _ (N.iff fun a=>⟨False.elim,fun ⟨n,A,_⟩=>by cases A⟩) (fun n A=>by cases A) (fun n A=>F0 r A) (zwp r);rw [O]at I;have J:jl d h0 ts (ge.ap d.fields (ge.roots ⟨h0,[]⟩ rs) h0.ap) (Bp d.fields ts h0.ap 0 (ge.ap d.fields (ge.roots ⟨h0,[]⟩ rs) h0.ap).mv):=V.iff fun a=>⟨inl,fun h=>h.elim id fun ⟨j,_,hj,_⟩=>by omega⟩;obtain ⟨F,X⟩:=jl.goneAll r D E h0.ab.length 0 _ (by omega) (n0q _) J;have L:=zw0 r D E h0.ab.length 0 _ J;rw [I]at L;refine ⟨F,L,?_⟩;refine zww r D rs ⟨h0,[]⟩ _ zus G _ (W.trans X) F.nd fun p Y=>?_;obtain ⟨t,-,Z,e,-⟩:=F.fr p Y;rw [e];exact Z
end
theorem zw2 {ws:List Int} :∀ {l:List (Int×bq)} {lo hi:Int},Laid lo l hi->(∀p∈l,p.2.len=wd ws (p.1+1))->ia ws lo (l.map (·.1))=l.map (·.2.loc)/\toR ws lo (l.map (·.1))=hi
 | [],_,_,h,_=>⟨rfl,h⟩
 | p::l,lo,hi,h,hs=>by
   have D:=hs p (mem_cons_self ..);have h1:=h.1;have e:lo+(3+wd ws (p.1+1))=p.2.fin:=by rw [<-D];unfold bq.fin;omega
   have A:=zw2 h.2 fun q E=>hs q (mem_cons_of_mem _ E);constructor
   ·show lo::ia ws (lo+(3+wd ws (p.1+1))) (l.map (·.1))=p.2.loc::l.map (·.2.loc);rw [e,A.1,h1]
   show toR ws (lo+(3+wd ws (p.1+1))) (l.map (·.1))=hi;rw [e];exact A.2
theorem zw3 (ws:List Int):∀(l:List Int) (lo:Int) (k:Nat),k<l.length->(ia ws lo l)[k]? =some (toR ws lo (l.take k))
 | [],_,_,h=>by cases h
 | a::l,lo,0,_=>rfl
 | a::l,lo,k+1,h=>by show (lo::ia ws (lo+(3+wd ws (a+1))) l)[k+1]? =_;rw [getElem?_cons_succ,zw3 ws l _ k (by simpa using h)];rfl
theorem zw4 (l:List Int) (v:Int):(v∉l/\mh l v= -1)\/∃k:Nat,l[k]? =some v/\mh l v=k:=by
 unfold mh idx;cases e:l.findIdx? (fun x=>decide (x=v))with
 | none=>
   refine inl ⟨fun E=>?_,rfl⟩;have:=findIdx?_eq_none_iff.1 e v E;simp at this
 | some k=>
   obtain ⟨A,D,-⟩:=findIdx?_eq_some_iff_getElem.1 e;refine inr ⟨k,?_,rfl⟩;rw [getElem?_eq_getElem A,of_decide_eq_true D]
theorem zw5 {l:List (Int×bq)} (D:(l.map (·.1)).Nodup) (F:(0:Int)∉l.map (·.1)) (v:Int):nj (l.map (·.1)) (l.map (·.2.loc)) v=jv l v:=by
 unfold nj jv;rcases zw4 (l.map (·.1)) v with ⟨h1,A⟩ | ⟨k,h1,A⟩
 ·rw [if_pos (inr (by omega)),zuh h1];rfl
 have E:v≠0:=fun e=>F (by rw [<-e];exact mem_of_getElem? h1);rw [if_neg (by rintro (q | q);exact E q;omega),A];rw [getElem?_map]at h1;cases hp:l[k]? with
 | none=>rw [hp]at h1;cases h1
 | some p=>
   rw [hp]at h1;have h1:p.1=v:=ojq h1;subst h1;rw [zui (mem_of_getElem? hp) D];unfold wd;rw [show ((k:Int)).toNat=k by omega,getElem?_map,hp];rfl
section
variable {d:ax} {gw order news:List Int}
theorem zw6 (A new:Nat):∀(n:Nat) (ws:List Int),new+n<=ws.length->∀a:Int,0<=a->wd (Br d gw order news A new n ws) a=if (new:Int)<=a/\a<new+n then ve d gw order news A (a - new).toNat else wd ws a
 | 0,ws,_,a,_=>by rw [if_neg (by omega)];rfl
 | n+1,ws,h,a,h0=>by
   show wd ((Br d gw order news A new n ws).set (new+n) (ve d gw order news A n)) a=_;by_cases e:a=((new+n:Nat):Int)
   ·subst e;rw [zr0 (by rw [zv3];omega),if_pos (by omega),show (((new+n:Nat):Int) - new).toNat=n by omega]
   rw [zrz (by omega),zw6 A new n ws (by omega) a h0];by_cases c:(new:Int)<=a/\a<new+n
   ·rw [if_pos c,if_pos (by omega)]
   rw [if_neg c,if_neg (by omega)]
structure t8 (gw:List Int) (n:Nat) (p:Int×Int):Prop where
 src:0<=p.1
 dst:0<=p.2
 len:0<=(bp gw p.1).len
 fin:p.2+3+(bp gw p.1).len<=n
theorem zw7 {ws:List Int} {p:Int×Int} (h:t8 gw ws.length p) {a:Int} (h0:0<=a):wd (xp d gw order news ws p.1 p.2) a=if p.2<=a/\a<p.2+3+(bp gw p.1).len then ve d gw order news p.1.toNat (a - p.2).toNat else wd ws a:=by
 have h1:=h.dst;have A:=h.len;have D:=h.fin;have e:((p.2.toNat:Nat):Int)=p.2:=by omega
 unfold xp;rw [zw6 _ _ _ _ (by omega) _ h0,e];by_cases c:p.2<=a/\a<p.2+3+(bp gw p.1).len
 ·rw [if_pos (by omega),if_pos c]
 rw [if_neg (by omega),if_neg c]
theorem E2:∀(l:List (Int×Int)) (ws:List Int) (a:Int),0<=a->(∀p∈l,t8 gw ws.length p)->(∀p∈l,¬(p.2<=a/\a<p.2+3+(bp gw p.1).len))->wd (me d gw order news l ws) a=wd ws a
 | [],_,_,_,_,_=>rfl
 | p::l,ws,a,h0,h1,h2=>by show wd (me d gw order news l (xp d gw order news ws p.1 p.2)) a=_;rw [E2 l _ a h0 (fun q A=>by rw [zv8];exact h1 q (mem_cons_of_mem _ A)) fun q A=>h2 q (mem_cons_of_mem _ A),zw7 (h1 p (mem_cons_self ..)) h0,if_neg (h2 p (mem_cons_self ..))]
theorem zw9:∀(l:List (Int×Int)) (ws:List Int) (a:Int),0<=a->(∀p∈l,t8 gw ws.length p)->l.Pairwise (fun p q=>p.2+3+(bp gw p.1).len<=q.2)->∀p∈l,p.2<=a->a<p.2+3+(bp gw p.1).len->wd (me d gw order news l ws) a=ve d gw order news p.1.toNat (a - p.2).toNat
 | [],_,_,_,_,_,_,A,_,_=>by cases A
 | q::l,ws,a,h0,h1,h2,p,A,h3,h4=>by
   rw [pairwise_cons]at h2;show wd (me d gw order news l (xp d gw order news ws q.1 q.2)) a=_;have D:∀p∈l,t8 gw (xp d gw order news ws q.1 q.2).length p:=fun p A=>by rw [zv8];exact h1 p (mem_cons_of_mem _ A)
   rcases mem_cons.1 A with rfl | A
   ·rw [E2 l _ a h0 D fun q E=>by have:=h2.1 q E;omega,zw7 (h1 p (mem_cons_self ..)) h0,if_pos ⟨h3,h4⟩]
   exact zw9 l _ a h0 D h2.2 p A h3 h4
theorem zxa (ts:List bq) (ws:List Int):xf d gw order news ts ws=me d gw order news (ts.map fun t=>(t.loc,t.loc)) ws:=by unfold xf me;rw [foldl_map]
end
variable {d:ax} {h:ar} {ts:List bq}
theorem zxb {l m:List Int} (D:l.length=m.length) (h:∀i:Nat,i<l.length->wd l i=wd m i):l=m:=by refine ext_getElem D fun i h1 A=>?_;have:=h i h1;rwa [qm h1,qm A]at this
theorem zxc (n:Nat) (a:Int):wd (replicate n 0) a=0:=by unfold wd;rw [getElem?_replicate];split<;>rfl
theorem zxd {α β γ:Type} (f:α->β) (g:α->γ):∀l:List α,(l.map f).zip (l.map g)=l.map fun x=>(f x,g x)
 | []=>rfl
 | x::l=>by show (f x,g x)::(l.map f).zip (l.map g)=_;rw [zxd f g l];rfl
theorem zxe (r:Right d h ts):wd h.ab 0=0/\∀a:Int,h.be<=a->wd h.ab a=0:=by
 have I:=r.sized.ae;have J:=r.sized.len;have L:=r.sized.be;have F:=any_eq_false.1 r.rest;have A:∀x∈lj h,x=0:=fun x E=>by have:=F x E;simpa using this
 unfold lj at A;constructor
 ·rw [show (0:Int)=((0:Nat):Int) from rfl,qm (by omega)];exact A _ (mem_append_left _ (mem_take_iff_getElem.2 ⟨0,by omega,rfl⟩))
 intro a G;by_cases D:a.toNat<h.ab.length
 ·rw [show a=((a.toNat:Nat):Int) by omega,qm D];exact A _ (mem_append_right _ (mem_append_right _ (mem_drop_iff_getElem.2 ⟨a.toNat - h.be.toNat,by omega,by congr 1;omega⟩)))
 unfold wd;rw [getElem?_eq_none (by omega)];rfl
theorem zxf {n:Nat} {fs:List (List bv)} {ws:List Int} {A:Int} :∀(f:Nat) (lo:Int) (ts:List bq),(A - lo).toNat<=f->cw n fs ws lo A=some ts->∀a,lo<=a->a<A->∃t∈ts,t.loc<=a/\a<t.fin
 | f,lo,ts,hf,e,a,h1,h2=>by
   have D:lo<A:=by omega
   by_cases E:je n fs ws lo A=true
   ·rw [Ep D E]at e;cases hx:cw n fs ws (bp ws lo).fin A with
    | none=>rw [hx]at e;cases e
    | some ts'=>
      rw [hx]at e;have e:=ojq e;subst e;have G:=Cs E;by_cases hc:a<(bp ws lo).fin
      ·exact ⟨_,mem_cons_self ..,h1,hc⟩
      match f,hf with
      | 0,hf=>omega
      | f+1,hf=>
        obtain ⟨t,F,q⟩:=zxf f _ ts' (by omega) hx a (by omega) h2;exact ⟨t,mem_cons_of_mem _ F,q⟩
   rw [Cy D E]at e;cases e
theorem F4 {n:Nat} {fs:List (List bv)} {ws:List Int} {A:Int} :∀(f:Nat) (lo:Int) (ts:List bq),(A - lo).toNat<=f->cw n fs ws lo A=some ts->ts.Pairwise (fun t u=>t.fin<=u.loc)
 | f,lo,ts,hf,e=>by
   by_cases D:lo<A
   ·by_cases E:je n fs ws lo A=true
    ·rw [Ep D E]at e;cases hx:cw n fs ws (bp ws lo).fin A with
     | none=>rw [hx]at e;cases e
     | some ts'=>
       rw [hx]at e;have e:=ojq e;subst e;have G:=Cs E;match f,hf with
       | 0,hf=>omega
       | f+1,hf=>
         refine pairwise_cons.2 ⟨fun u F=>?_,F4 f _ ts' (by omega) hx⟩;exact (zr5 f _ ts' (by omega) hx u F).1
    rw [Cy D E]at e;cases e
   rw [Dw D]at e;have e:=ojq e;subst e;exact Pairwise.nil
theorem zxh:∀ {l:List (Int×bq)} {lo hi:Int},Laid lo l hi->∀a,lo<=a->a<hi->∃p∈l,p.2.loc<=a/\a<p.2.fin
 | [],lo,hi,h,a,h1,h2=>by have h:lo=hi:=h;omega
 | q::l,lo,hi,h,a,h1,h2=>by
   by_cases hc:a<q.2.fin
   ·exact ⟨q,mem_cons_self ..,by rw [h.1];exact h1,hc⟩
   obtain ⟨p,A,e⟩:=zxh h.2 a (by omega) h2;exact ⟨p,mem_cons_of_mem _ A,e⟩
theorem zxi:∀ {l:List (Int×bq)} {lo hi:Int},Laid lo l hi->(∀p∈l,0<=p.2.len)->l.Pairwise (fun p q=>p.2.fin<=q.2.loc)
 | [],_,_,_,_=>Pairwise.nil
 | q::l,lo,hi,h,hl=>by have A:∀p∈l,0<=p.2.len:=fun p D=>hl p (mem_cons_of_mem _ D);exact pairwise_cons.2 ⟨fun p D=>((C9 h.2 A).2 p D).1,zxi h.2 A⟩
theorem zxj {E:List bq} (r:Right d h ts) (hl:0<=leftD h) (e2:cw d.am.length d.fields h.ab (h.ae+1) h.be=some E) {s:ge} (x:jl d h ts s (Bp d.fields ts h.ap s.mv.length s.mv)):
 rq s.h=pc d h E (s.mv.map (·.1)) h.be:=by
 have z:=r.sized;have z1:=z.ae;have z2:=z.old;have z3:=z.len;have z4:=z.bk;have z5:=z.be;have a9:=x.len;have bc:=x.otopLe r hl;have I:=C9 x.laid (x.lens r);have av:∀p∈s.mv,p.2.len=wd h.ab (p.1+1):=fun p A=>by obtain ⟨t,D,hy,q1,q2,q3,-⟩:=x.fr p A;rw [q3,q1];exact congrArg bq.len (ze r D (vj.1 hy).2).eq
 obtain ⟨n1,n2⟩:=zw2 (ws:=h.ab) x.laid av;have Y:∀v∈s.mv.map (·.1),dw h v=true:=fun v hv=>by obtain ⟨p,A,rfl⟩:=mem_map.1 hv;obtain ⟨t,-,hy,e,-⟩:=x.fr p A;rw [e];exact hy
 have bb:(0:Int)∉s.mv.map (·.1):=fun hc=>by have:=(vj.1 (Y _ hc)).1;omega
 have a2:=zw5 x.nd bb;have ai:∀t∈E,t∈ts:=fun t D=>by obtain ⟨ys,bh,f1,f2,rfl⟩:=Ab r.both;rw [e2]at f2;have f2:=ojq f2;subst f2;exact mem_append_right _ D
 have V:∀t∈E,h.ae<t.loc/\t.fin<=h.be/\t=bp h.ab t.loc/\0<=t.len:=fun t D=>by have q:=td e2 t D;have q1:=q.1;exact ⟨by omega,q.2.1,q.2.2.1,yb q.2.2.2.2⟩
 have aw:∀p∈E.map (fun t=>(t.loc,t.loc)),t8 h.ab h.ab.length p:=fun p A=>by obtain ⟨t,D,rfl⟩:=mem_map.1 A;obtain ⟨q1,q2,q3,q4⟩:=V t D;have q5:t.fin=t.loc+3+t.len:=rfl;exact ⟨by show 0<=t.loc;omega,by show 0<=t.loc;omega,by show 0<=(bp h.ab t.loc).len;rw [<-q3];exact q4,by show t.loc+3+(bp h.ab t.loc).len<=_;rw [<-q3];omega⟩
 have W:∀p∈s.mv,bp h.ab p.1=⟨p.1,p.2.tag,p.2.len,p.2.hash⟩:=fun p A=>by obtain ⟨t,D,hy,q1,q2,q3,q4⟩:=x.fr p A;rw [q1,q2,q3,q4];exact (ze r D (vj.1 hy).2).eq.symm
 have O:∀p∈s.mv.map (fun p=>(p.1,p.2.loc)),t8 h.ab h.ab.length p:=fun p A=>by obtain ⟨t,D,rfl⟩:=mem_map.1 A;have q1:=I.2 t D;have q2:=(vj.1 (Y _ (mem_map.2 ⟨t,D,rfl⟩))).1;have q3:=x.lens r t D;have q4:t.2.fin=t.2.loc+3+t.2.len:=rfl;exact ⟨by show 0<=t.1;omega,by show 0<=t.2.loc;omega,by show 0<=(bp h.ab t.1).len;rw [W t D];exact q3,by show t.2.loc+3+(bp h.ab t.1).len<=_;rw [W t D];show t.2.loc+3+t.2.len<=_;omega⟩
 have ay:(E.map fun t=>(t.loc,t.loc)).Pairwise (fun p q=>p.2+3+(bp h.ab p.1).len<=q.2):=by refine pairwise_map.2 (Pairwise.imp_of_mem (fun {a b} L hb ad=>?_) (F4 _ _ E (nlq _) e2));show a.loc+3+(bp h.ab a.loc).len<=b.loc;rw [<-(V a L).2.2.1];exact ad
 have az:(s.mv.map fun p=>(p.1,p.2.loc)).Pairwise (fun p q=>p.2+3+(bp h.ab p.1).len<=q.2):=by refine pairwise_map.2 (Pairwise.imp_of_mem (fun {a b} L hb ad=>?_) (zxi x.laid (x.lens r)));show a.2.loc+3+(bp h.ab a.1).len<=b.2.loc;rw [W a L];exact ad
 have hw:(rq s.h).ab=(pc d h E (s.mv.map (·.1)) h.be).ab:=by
  show mx s.h.ab 1 (replicate s.h.ae.toNat 0)=me d h.ab (s.mv.map (·.1)) (ia h.ab h.be (s.mv.map (·.1))) ((s.mv.map (·.1)).zip (ia h.ab h.be (s.mv.map (·.1)))) (xf d h.ab (s.mv.map (·.1)) (ia h.ab h.be (s.mv.map (·.1))) E (replicate h.ab.length 0));rw [n1,zxd,zxa];have bf:=x.yo;have aa:1+(replicate s.h.ae.toNat (0:Int)).length<=s.h.ab.length:=by rw [length_replicate];omega
  have X:(me d h.ab (s.mv.map (·.1)) (s.mv.map (·.2.loc)) (E.map fun t=>(t.loc,t.loc)) (replicate h.ab.length 0)).length=h.ab.length:=by rw [zwc,length_replicate]
  refine zxb (by rw [C5 aa,zwc,X,a9]) fun i hi=>?_;rw [C5 aa]at hi;have au:∀a:Int,0<=a->a<h.be->wd (me d h.ab (s.mv.map (·.1)) (s.mv.map (·.2.loc)) (s.mv.map fun p=>(p.1,p.2.loc)) (me d h.ab (s.mv.map (·.1)) (s.mv.map (·.2.loc)) (E.map fun t=>(t.loc,t.loc)) (replicate h.ab.length 0))) a=wd (me d h.ab (s.mv.map (·.1)) (s.mv.map (·.2.loc)) (E.map fun t=>(t.loc,t.loc)) (replicate h.ab.length 0)) a:=fun a a0 a1=>E2 _ _ a a0 (by rw [X];exact O) fun p A hc=>by obtain ⟨t,D,rfl⟩:=mem_map.1 A;have q1:=(I.2 t D).1;have F:t.2.loc<=a:=hc.1;omega
  have G:∀p∈E.map (fun t=>(t.loc,t.loc)),t8 h.ab (replicate h.ab.length (0:Int)).length p:=by rw [length_replicate];exact aw
  by_cases c1:(i:Int)<=h.ae
  ·rw [au i (by omega) (by omega),E2 _ _ _ (by omega) G (fun p A hc=>by
    obtain ⟨t,D,rfl⟩:=mem_map.1 A;have q1:=(V t D).1;have F:t.loc<=(i:Int):=hc.1;omega),zxc]
   by_cases c0:i=0
   ·subst c0;rw [zua aa (by omega) (by omega),x.low r (by omega) (by omega)];exact (zxe r).1
   rw [zt9 (by omega) (by omega) (by rw [length_replicate];omega),zxc]
  rw [zua aa (by omega) (by rw [length_replicate];omega)];by_cases c2:(i:Int)<h.be
  ·obtain ⟨t,D,t1,t2⟩:=zxf _ _ E (nlq _) e2 i (by omega) c2;obtain ⟨q1,q2,q3,q4⟩:=V t D;have q5:t.fin=t.loc+3+t.len:=rfl;have af:=zw9 (d:=d) (order:=s.mv.map (·.1)) (news:=s.mv.map (·.2.loc)) _ _ (i:Int) (by omega) G ay (t.loc,t.loc) (mem_map.2 ⟨t,D,rfl⟩) t1 (by show (i:Int)<t.loc+3+(bp h.ab t.loc).len;rw [<-q3];omega);rw [au i (by omega) c2,af];show _=ve d h.ab _ _ t.loc.toNat ((i:Int) - t.loc).toNat;unfold ve;rw [show ((t.loc.toNat:Nat):Int)=t.loc by omega,<-q3,show ((t.loc.toNat+((i:Int) - t.loc).toNat:Nat):Int)=(i:Int) by omega];have J:=x.srcLow r c2;have an:Bp d.fields ts h.ap s.mv.length s.mv (i:Int)->t.loc∈h.ap/\(i:Int)∈refsOf d.fields t:=by
    rintro (⟨n,Z,u,hu,rfl,L⟩ | ⟨j,p,hj,A,L⟩)
    ·obtain ⟨_,_,_,al⟩:=F0 r Z;have qu:=(Bw r hu al).2.2.2.2 _ L;rcases zuy r (ai t D) hu with e | e | e
     ·subst e;exact ⟨Z,L⟩
     ·omega
     omega
    obtain ⟨n,e,hn,-⟩:=Bb L;have:=(I.2 p (mem_of_getElem? A)).1;omega
   by_cases N:(decide (3<=((i:Int) - t.loc).toNat)&&jw d.fields t (((i:Int) - t.loc).toNat - 3))=true
   ·rw [if_pos N,a2];rw [Bool.and_eq_true,decide_eq_true_eq]at N;have ac:(i:Int)∈refsOf d.fields t:=by
     have:=C6 (x:=t) (n:=((i:Int) - t.loc).toNat - 3) (by omega) N.2;rwa [show t.loc+3+((((i:Int) - t.loc).toNat - 3:Nat):Int)=(i:Int) by omega]at this
    by_cases cn:t.loc∈h.ap
    ·rw [x.yes i (by omega) (by omega) (inl ⟨t.loc,cn,t,ai t D,rfl,ac⟩),J]
    rw [x.B1 i (by omega) (by omega) (fun hc=>cn (an hc).1),J];unfold jv;rw [zuh]
    ·rfl
    intro hc;have ba:=Y _ hc;have a8:=any_eq_false.1 r.un t (ai t D);refine a8 ?_;unfold iv fx;rw [Bool.and_eq_true,Bool.and_eq_true,decide_eq_true_eq];refine ⟨⟨q1,?_⟩,any_eq_true.2 ⟨_,ac,ba⟩⟩;cases hcc:h.ap.contains t.loc
    ·rfl
    exact absurd (contains_iff_mem.1 hcc) cn
   rw [if_neg N,x.B1 i (by omega) (by omega) (fun hc=>N (by
    obtain ⟨n,e,hn,ak⟩:=Bb (an hc).2;rw [show ((i:Int) - t.loc).toNat - 3=n by omega,ak,decide_eq_true (by omega:3<=((i:Int) - t.loc).toNat)];rfl)),J]
  by_cases c3:(i:Int)<s.h.be
  ·obtain ⟨p,A,t1,t2⟩:=zxh x.laid i (by omega) c3;have q3:=W p A;have q4:=x.lens r p A;have q5:p.2.fin=p.2.loc+3+p.2.len:=rfl;have q6:=I.2 p A;have q7:=(vj.1 (Y _ (mem_map.2 ⟨p,A,rfl⟩))).1;have af:=zw9 (d:=d) (order:=s.mv.map (·.1)) (news:=s.mv.map (·.2.loc)) (s.mv.map fun p=>(p.1,p.2.loc)) (me d h.ab (s.mv.map (·.1)) (s.mv.map (·.2.loc)) (E.map fun t=>(t.loc,t.loc)) (replicate h.ab.length 0)) (i:Int) (by omega) (by rw [X];exact O) az (p.1,p.2.loc) (mem_map.2 ⟨p,A,rfl⟩) t1 (by show (i:Int)<p.2.loc+3+(bp h.ab p.1).len;rw [q3];exact t2);rw [af];show _=ve d h.ab _ _ p.1.toNat ((i:Int) - p.2.loc).toNat;unfold ve;rw [show ((p.1.toNat:Nat):Int)=p.1 by omega,show ((p.1.toNat+((i:Int) - p.2.loc).toNat:Nat):Int)=p.1+((i:Int) - p.2.loc) by omega,C7 (x:=bp h.ab p.1) (y:=p.2) (by rw [q3])];have J:=zuf (p:=p) t1 t2 x.laid (x.lens r) A;by_cases N:(decide (3<=((i:Int) - p.2.loc).toNat)&&jw d.fields p.2 (((i:Int) - p.2.loc).toNat - 3))=true
   ·rw [if_pos N,a2];rw [Bool.and_eq_true,decide_eq_true_eq]at N;have ac:(i:Int)∈refsOf d.fields p.2:=by
     have:=C6 (x:=p.2) (n:=((i:Int) - p.2.loc).toNat - 3) (by omega) N.2;rwa [show p.2.loc+3+((((i:Int) - p.2.loc).toNat - 3:Nat):Int)=(i:Int) by omega]at this
    obtain ⟨j,hj,ej⟩:=mem_iff_getElem.1 A;rw [x.yes i (by omega) (by omega) (inr ⟨j,p,hj,by rw [getElem?_eq_getElem hj,ej],ac⟩),J]
   rw [if_neg N,x.B1 i (by omega) (by omega),J];rintro (⟨n,Z,u,hu,rfl,L⟩ | ⟨j,q,hj,hq,L⟩)
   ·obtain ⟨_,_,_,al⟩:=F0 r Z;have qu:=Bw r hu al;have:=qu.2.2.2.2 _ L;omega
   obtain ⟨n,e,hn,ak⟩:=Bb L;have bd:=mem_of_getElem? hq;have hf:q.2.fin=q.2.loc+3+q.2.len:=rfl;obtain ⟨k,hk,ek⟩:=mem_iff_getElem.1 A;have ah:s.mv[k]? =some p:=by rw [getElem?_eq_getElem hk,ek]
   have a5:j=k:=by
    rcases Nat.lt_trichotomy j k with a6 | a3 | a4
    ·have:=zu1 _ x.laid (x.lens r) a6 hq ah;omega
    ·exact a3
    have:=zu1 _ x.laid (x.lens r) a4 ah hq;omega
   subst a5;rw [ah]at hq;have hq:=ojq hq;subst hq;refine N ?_;rw [show ((i:Int) - p.2.loc).toNat - 3=n by omega,ak,decide_eq_true (by omega:3<=((i:Int) - p.2.loc).toNat)];rfl
  rw [E2 _ _ (i:Int) (by omega) (by rw [X];exact O) (fun p A hc=>by
   obtain ⟨t,D,rfl⟩:=mem_map.1 A;have q1:=(I.2 t D).2;have q5:t.2.fin=t.2.loc+3+t.2.len:=rfl;have F:(i:Int)<t.2.loc+3+(bp h.ab t.1).len:=hc.2;rw [W t D]at F;have F:(i:Int)<t.2.loc+3+t.2.len:=F;omega),E2 _ _ _ (by omega) G (fun p A hc=>by
   obtain ⟨t,D,rfl⟩:=mem_map.1 A;obtain ⟨q1,q2,q3,q4⟩:=V t D;have q5:t.fin=t.loc+3+t.len:=rfl;have F:(i:Int)<t.loc+3+(bp h.ab t.loc).len:=hc.2;rw [<-q3]at F;omega),zxc,x.B1 i (by omega) (by omega) (fun hc=>by have:=(x.Fe _ hc).2.1;omega),zue fun p A hc=>by have:=(I.2 p A).2;omega]
  exact (zxe r).2 _ (by omega)
 have a7:pc d h E (s.mv.map (·.1)) h.be=⟨(pc d h E (s.mv.map (·.1)) h.be).ab,h.ae,h.old,1,s.h.be,[],h.next⟩:=by show ar.mk _ _ _ _ (toR h.ab h.be (s.mv.map (·.1))) _ _=_;rw [n2];rfl
 rw [a7,<-hw];show ar.mk (rq s.h).ab s.h.ae s.h.old 1 s.h.be [] s.h.next=_;rw [x.yo,x.ol,x.nx]
theorem zxk {X:List bq} (r:Right d h ts) (J:0<=leftD h) (Y:cw d.am.length d.fields h.ab (h.ae+1) h.be=some X) (rs:List Int) (hr:∀v∈rs,cq ts v=true):
 bw d h rs=pc d h X (ma d h rs) h.be/\cb h rs=Ar h (ma d h rs) h.be rs/\(ma d h rs).length<h.ab.length/\∀k,(E:k<(ma d h rs).length)->∃a:Nat,(ma d h rs)[k]=a/\a+2<h.ab.length/\(a:Int)+3+(bp h.ab a).len<=h.ab.length/\qf d (bp h.ab a)/\0<=toR h.ab h.be ((ma d h rs).take k)/\toR h.ab h.be ((ma d h rs).take k)+3+(bp h.ab a).len<=h.ab.length:=by
 obtain ⟨x,e,Z⟩:=zw1 r J rs hr;have z:=r.sized;have z1:=z.ae;have z2:=z.old;have z3:=z.len;have z4:=z.bk;have z5:=z.be;have F:∀p∈(ij d h rs).mv,p.2.len=wd h.ab (p.1+1):=fun p D=>by obtain ⟨t,O,I,q1,q2,q3,-⟩:=x.fr p D;rw [q3,q1];exact congrArg bq.len (ze r O (vj.1 I).2).eq
 obtain ⟨W,n2⟩:=zw2 (ws:=h.ab) x.laid F;have ad:=x.otopLe r J;have N:=C9 x.laid (x.lens r);have L:=x.count r J;rw [<-e];refine ⟨zxj r J Y x,?_,by rw [length_map];exact L,fun k E=>?_⟩
 ·rw [Z];unfold Ar;rw [W];refine map_congr_left fun v _=>(zw5 x.nd (fun hc=>?_) v).symm;obtain ⟨p,D,e0⟩:=mem_map.1 hc;obtain ⟨t,-,I,q,-⟩:=x.fr p D;have:=(vj.1 I).1;omega
 rw [length_map]at E;have D:=gm E;obtain ⟨t,O,I,q1,q2,q3,q4⟩:=x.fr _ D;have y:=ze r O (vj.1 I).2;have y1:=y.lo;have y2:=y.fin;have y3:=y.fit.lo;have y4:t.fin=t.loc+3+t.len:=rfl;have A:((t.loc.toNat:Nat):Int)=t.loc:=by omega
 have aa:=N.2 _ D;have ac:(ij d h rs).mv[k].2.fin=(ij d h rs).mv[k].2.loc+3+(ij d h rs).mv[k].2.len:=rfl;have G:toR h.ab h.be (((ij d h rs).mv.map (·.1)).take k)=(ij d h rs).mv[k].2.loc:=by have V:=zw3 h.ab ((ij d h rs).mv.map (·.1)) h.be k (by rw [length_map];exact E);rw [W,getElem?_map,getElem?_eq_getElem E]at V;exact (ojq V).symm
 refine ⟨t.loc.toNat,by rw [getElem_map,q1];exact A.symm,by omega,?_,?_,?_,?_⟩
 ·rw [A,<-y.eq];omega
 ·rw [A,<-y.eq];exact y.fit
 ·rw [G];omega
 rw [G,A,<-y.eq];omega
def od (gw:List Int):Int->List (Int×Int)->Int->Prop
 | lo,[],hi=>lo=hi
 | lo,p::r,hi=>p.2=lo/\od gw (lo+3+(bp gw p.1).len) r hi
def oe (gw:List Int) (p:Int×Int):bq:=⟨p.2,(bp gw p.1).tag,(bp gw p.1).len,(bp gw p.1).hash⟩
structure Kept (d:ax) (h:ar) (ts:List bq) (l:List (Int×Int)) (tau:Int->Int) (hi:Int):Prop where
 src:∀p∈l,∃t∈ts,t.loc=p.1
 laid:od h.ab (h.ae+1) l hi
 nd:(l.map (·.1)).Nodup
 refs:∀p∈l,∀a∈refsOf d.fields (bp h.ab p.1),wd h.ab a=0\/∃q∈l,q.1=wd h.ab a
 tq:∀q∈l,tau q.1=q.2
 zero:tau 0=0
 top:hi<=h.ab.length
structure Into (d:ax) (h:ar) (l:List (Int×Int)) (tau:Int->Int) (hi:Int) (x:ar):Prop where
 len:x.ab.length=h.ab.length
 yo:x.ae=h.ae
 ol:x.old=h.old
 yt:x.bk=1
 ot:x.be=hi
 no:x.ap= []
 nx:x.next=h.next
 word:∀p∈l,∀i:Nat,(i:Int)<3+(bp h.ab p.1).len->wd x.ab (p.2+i)=if (decide (3<=i)&&jw d.fields (bp h.ab p.1) (i - 3))=true then tau (wd h.ab (p.1+i)) else wd h.ab (p.1+i)
 rest:∀a:Int,0<=a->(a<=h.ae\/hi<=a)->wd x.ab a=0
theorem D0 {gw:List Int} :∀ {l:List (Int×Int)} {lo hi:Int},od gw lo l hi->(∀p∈l,0<=(bp gw p.1).len)->lo<=hi/\∀p∈l,lo<=p.2/\p.2+3+(bp gw p.1).len<=hi
 | [],lo,hi,h,_=>⟨Int.le_of_eq h,fun p A=>by cases A⟩
 | q::r,lo,hi,h,hl=>by
   have D:=D0 h.2 fun p A=>hl p (mem_cons_of_mem _ A);have h0:=hl q (mem_cons_self ..);have E:=h.1;refine ⟨by omega,fun p A=>?_⟩;rcases mem_cons.1 A with rfl | A
   ·exact ⟨by omega,by omega⟩
   have:=D.2 p A;exact ⟨by omega,this.2⟩
theorem zxm {α β:Type} {f:α->β} :∀ {l:List α},(l.map f).Nodup->∀ {x y:α},x∈l->y∈l->f x=f y->x=y
 | [],_,_,_,hx,_,_=>by cases hx
 | a::l,hn,x,y,hx,hy,e=>by
   rw [map_cons,nodup_cons]at hn;rcases mem_cons.1 hx with D | D
   ·rcases mem_cons.1 hy with A | A
    ·rw [D,A]
    exact absurd (mem_map.2 ⟨y,A,by rw [<-e,D]⟩) hn.1
   rcases mem_cons.1 hy with A | A
   ·exact absurd (mem_map.2 ⟨x,D,by rw [e,A]⟩) hn.1
   exact zxm hn.2 D A e
section
variable {d:ax} {h x:ar} {ts:List bq} {l:List (Int×Int)} {tau:Int->Int} {hi:Int}
theorem zxn (r:Right d h ts) {t:bq} (A:t∈ts):t=bp h.ab t.loc/\dx d.am.length t.tag=true/\da d.fields t.tag t.len=true/\1<=t.loc:=by
 have z:=r.sized;have I:=z.ae;obtain ⟨G,F,D,E,rfl⟩:=Ab r.both;rcases mem_append.1 A with A | A
 ·have q:=td D t A;exact ⟨q.2.2.1,q.2.2.2.1,q.2.2.2.2,q.1⟩
 have q:=td E t A;have:=q.1;exact ⟨q.2.2.1,q.2.2.2.1,q.2.2.2.2,by omega⟩
theorem Kept.at (k:Kept d h ts l tau hi) (r:Right d h ts) {p:Int×Int} (D:p∈l):∃t∈ts,t.loc=p.1/\bp h.ab p.1=t/\dx d.am.length t.tag=true/\da d.fields t.tag t.len=true/\1<=p.1/\0<=t.len:=by obtain ⟨t,A,e⟩:=k.src p D;obtain ⟨q1,q2,q3,q4⟩:=zxn r A;exact ⟨t,A,e,by rw [<-e];exact q1.symm,q2,q3,by omega,yb q3⟩
theorem Kept.lens (k:Kept d h ts l tau hi) (r:Right d h ts):∀p∈l,0<=(bp h.ab p.1).len:=fun p A=>by obtain ⟨t,-,-,e,-,-,-,q⟩:=k.at r A;rw [e];exact q
theorem Into.head (n:Into d h l tau hi x) (k:Kept d h ts l tau hi) (r:Right d h ts) {p:Int×Int} (A:p∈l):bp x.ab p.2=oe h.ab p:=by have h0:=k.lens r p A;have D:=n.word p A 0 (by omega);have E:=n.word p A 1 (by omega);have F:=n.word p A 2 (by omega);simp at D E F;unfold bp oe;rw [D,E,F];rfl
theorem Into.walk (n:Into d h l tau hi x) (k:Kept d h ts l tau hi) (r:Right d h ts):∀(m:List (Int×Int)) (lo:Int),(∀p∈m,p∈l)->od h.ab lo m hi->cw d.am.length d.fields x.ab lo hi=some (m.map (oe h.ab))
 | [],lo,_,A=>by have A:lo=hi:=A;rw [Dw (by omega)];rfl
 | p::m,lo,hs,A=>by
   have F:=hs p (mem_cons_self ..);have N:=A.1;have E:=D0 A fun q G=>k.lens r q (hs q G);have X:=E.2 p (mem_cons_self ..);obtain ⟨t,-,-,L,q1,q2,-,q3⟩:=k.at r F;have D:=n.head k r F;rw [N]at D;have W:=k.lens r p F;have J:(bp x.ab lo).fin=lo+3+(bp h.ab p.1).len:=by show lo+3+(bp x.ab lo).len=_;rw [D];rfl
   have I:je d.am.length d.fields x.ab lo hi=true:=by
    unfold je;have O:wd x.ab lo=t.tag:=by rw [<-L];exact congrArg bq.tag D
    have V:wd x.ab (lo+1)=t.len:=by rw [<-L];exact congrArg bq.len D
    rw [J,O,V,q1,q2,decide_eq_true (by omega:lo+3<=hi),decide_eq_true (by omega:lo+3+(bp h.ab p.1).len<=hi)];rfl
   rw [Ep (by omega) I,J,Into.walk n k r m _ (fun q G=>hs q (mem_cons_of_mem _ G)) A.2,D];rfl
theorem Into.ref (n:Into d h l tau hi x) (k:Kept d h ts l tau hi) {p:Int×Int} (A:p∈l) {m:Nat} (G:(m:Int)<(bp h.ab p.1).len) (D:jw d.fields (bp h.ab p.1) m=true):wd x.ab (p.2+3+m)=tau (wd h.ab (p.1+3+m))/\(wd h.ab (p.1+3+m)=0\/∃q∈l,q.1=wd h.ab (p.1+3+m)):=by
 have w:=n.word p A (3+m) (by omega);rw [show 3+m - 3=m by omega,D,decide_eq_true (by omega:3<=3+m),Bool.and_true,if_pos rfl]at w;have E:p.2+((3+m:Nat):Int)=p.2+3+m:=by omega
 have F:p.1+((3+m:Nat):Int)=p.1+3+m:=by omega
 rw [E,F]at w;refine ⟨w,k.refs p A _ ?_⟩;exact C6 (x:=bp h.ab p.1) G D
theorem Into.right (n:Into d h l tau hi x) (k:Kept d h ts l tau hi) (r:Right d h ts):Right d x (l.map (oe h.ab)):=by
 have z:=r.sized;have z1:=z.ae;have z2:=z.old;have z3:=z.len;have W:=D0 k.laid (k.lens r);have ac:=k.top;have G:=r.Fl;unfold lq at G;simp only [Bool.and_eq_true,decide_eq_true_eq]at G;have F:∀p∈l,∀a∈refsOf d.fields (oe h.ab p),wd x.ab a=0\/∃q∈l,q.2=wd x.ab a:=fun p A a J=>by
  obtain ⟨m,e,X,hr⟩:=Bb J;rw [C7 (x:=oe h.ab p) (y:=bp h.ab p.1) rfl]at hr;obtain ⟨f1,I⟩:=n.ref k A X hr;have e:a=p.2+3+m:=e;rw [e,f1];rcases I with I | ⟨q,D,I⟩
  ·rw [I,k.zero];exact inl rfl
  rw [<-I,k.tq q D];exact inr ⟨q,D,rfl⟩
 refine ⟨r.ok,?_,?_,?_,?_,?_,?_,?_,?_,?_,?_,?_⟩
 ·have:=r.parts;unfold kj at this ⊢;rw [n.yo,n.ol];exact this
 ·have:=r.ab;unfold ju at this ⊢;rw [n.yo,n.ol,n.len];exact this
 ·unfold lq;rw [n.yt,n.yo,n.ot,n.ol,n.nx,decide_eq_true (by omega:(1:Int)<=1),decide_eq_true (by omega:(1:Int)<=h.ae+1),decide_eq_true (by omega:h.ae+1<=hi),decide_eq_true (by omega:hi<=h.ae+h.old+1),decide_eq_true G.2];rfl
 ·unfold jh;rw [n.yt,Dw (by omega),n.yo,n.ot,n.walk k r l _ (fun p A=>A) k.laid];rfl
 ·rw [any_map,any_eq_false];intro p A;obtain ⟨t,ht,-,e,-⟩:=k.at r A;have:=any_eq_false.1 r.hash t ht;unfold jx at this;show ¬(decide ((bp h.ab p.1).hash<1)||decide (x.next<=(bp h.ab p.1).hash))=true;rw [e,n.nx];exact this
 ·rw [map_map];have N:∀m:List (Int×Int),(∀p∈m,p∈l)->(m.map (·.1)).Nodup->(m.map (bq.hash∘oe h.ab)).Nodup:=by
   intro m;induction m with
   | nil=>intro _ _;exact nodup_nil
   | cons p m ih=>
     intro Z Y;rw [map_cons,nodup_cons]at Y;rw [map_cons,nodup_cons];refine ⟨fun hc=>?_,ih (fun q D=>Z q (mem_cons_of_mem _ D)) Y.2⟩;obtain ⟨q,D,e⟩:=mem_map.1 hc;obtain ⟨t,ht,et,O,-⟩:=k.at r (Z p (mem_cons_self ..));obtain ⟨u,hu,eu,V,-⟩:=k.at r (Z q (mem_cons_of_mem _ D));have e:(bp h.ab q.1).hash=(bp h.ab p.1).hash:=e;rw [O,V]at e;have:=zxm r.dup hu ht e;subst this;exact Y.1 (mem_map.2 ⟨q,D,by rw [<-eu,et]⟩)
  exact N l (fun p A=>A) k.nd
 ·rw [any_map,any_eq_false];intro p A;show ¬(fx d.fields x.ab (oe h.ab p) fun n=>!cq (l.map (oe h.ab)) n)=true;unfold fx;rw [Bool.not_eq_true,any_eq_false];intro a J;show ¬(!cq (l.map (oe h.ab)) (wd x.ab a))=true;rw [zt3];rcases F p A a J with e | ⟨q,D,e⟩
  ·rw [e];simp
  have X:wd x.ab a∈(l.map (oe h.ab)).map bq.loc:=by rw [map_map];exact mem_map.2 ⟨q,D,e⟩
  rw [contains_iff_mem.2 X];simp
 ·rw [any_eq_false];intro v E;have hz:∀i:Nat,(hl:i<x.ab.length)->((i:Int)<=h.ae\/hi<=(i:Int))->x.ab[i]=0:=fun i hl hc=>by
   have:=n.rest i (by omega) hc;rwa [qm hl]at this
  have aa:v=0:=by
   unfold lj at E;rw [n.yo,n.yt,n.ot]at E;rcases mem_append.1 E with E | E
   ·obtain ⟨i,L,e⟩:=mem_take_iff_getElem.1 E;rw [<-e];exact hz i (by omega) (by omega)
   rcases mem_append.1 E with E | E
   ·obtain ⟨i,L,e⟩:=mem_take_iff_getElem.1 (mem_of_mem_drop E);rw [<-e];exact hz i (by omega) (by omega)
   obtain ⟨i,L,e⟩:=mem_drop_iff_getElem.1 E;rw [<-e];exact hz _ (by omega) (by omega)
  rw [aa];simp
 ·rw [n.no];rfl
 ·rw [n.no];rfl
 rw [any_map,any_eq_false];intro p A;show ¬iv d x (oe h.ab p)=true;unfold iv fx;rw [Bool.not_eq_true,Bool.and_eq_false_iff];refine inr (any_eq_false.2 fun a J hc=>?_);have hc:=vj.1 hc;rw [n.yo]at hc;rcases F p A a J with e | ⟨q,D,e⟩
 ·omega
 have:=(W.2 q D).1;omega
theorem Kept.leads (k:Kept d h ts l tau hi) {rs:List Int} (E:∀v∈rs,v=0\/∃q∈l,q.1=v):∀v∈rs.map tau,cq (l.map (oe h.ab)) v=true:=fun v G=>by
 obtain ⟨u,F,rfl⟩:=mem_map.1 G;have:=zt3 (l.map (oe h.ab)) (tau u);rcases E u F with e | ⟨q,A,e⟩
 ·rw [e,k.zero];unfold cq;simp
 rw [<-e,k.tq q A]at this ⊢;have D:q.2∈(l.map (oe h.ab)).map bq.loc:=by rw [map_map];exact mem_map.2 ⟨q,A,rfl⟩
 rw [contains_iff_mem.2 D]at this;simpa using this
end
def uo (met:List Int) (v:Int):List Int:=if v=0 then met else if met.contains v then met else met++ [v]
def xi (met:List Int) (v:Int):Int:=if v=0 then 0 else mh (uo met v) v+1
structure kf where
 met:List Int
 o:List Int
def kf.turn (s:kf) (v:Int):kf:=⟨uo s.met v,s.o++ [xi s.met v]⟩
def kf.word (d:ax) (ws:List Int) (t:bq) (s:kf) (n:Nat):kf:=if jw d.fields t n then s.turn (wd ws (t.loc+3+n)) else ⟨s.met,s.o++ [wd ws (t.loc+3+n)]⟩
def kf.thing (d:ax) (ws:List Int) (s:kf) (a:Int):kf:=(range (bp ws a).len.toNat).foldl (kf.word d ws (bp ws a)) ⟨s.met,s.o++ [(bp ws a).tag,(bp ws a).len,(bp ws a).hash]⟩
def kf.all (d:ax) (ws:List Int):Nat->Nat->kf->kf
 | 0,_,s=>s
 | f+1,i,s=>match s.met[i]? with
   | none=>s
   | some a=>kf.all d ws f (i+1) (s.thing d ws a)
def ko (d:ax) (h:ar) (rs:List Int):List Int:=(kf.all d h.ab (h.ab.length+1) 0 (rs.foldl kf.turn ⟨[],[]⟩)).o
theorem zxo {α:Type} {p q:α->Bool} :∀(l:List α),(∀x∈l,p x=q x)->l.findIdx? p=l.findIdx? q
 | [],_=>rfl
 | x::l,h=>by rw [findIdx?_cons,findIdx?_cons,h x (mem_cons_self ..),zxo l fun y A=>h y (mem_cons_of_mem _ A)]
theorem zxp {tau:Int->Int} {v:Int} (m:List Int) (h:∀u∈m,tau u=tau v->u=v):mh (m.map tau) (tau v)=mh m v:=by
 unfold mh idx;rw [findIdx?_map,zxo (q:=fun x=>decide (x=v)) m fun u A=>?_];show decide (tau u=tau v)=decide (u=v);by_cases e:u=v
 ·rw [e];simp
 rw [decide_eq_false e,decide_eq_false fun q=>e (h u A q)]
section
variable {d:ax} {h x:ar} {ts:List bq} {l:List (Int×Int)} {tau:Int->Int} {hi:Int}
theorem zxq {gw:List Int} :∀ {l:List (Int×Int)} {lo hi:Int},od gw lo l hi->(∀p∈l,0<=(bp gw p.1).len)->(l.map (·.2)).Nodup
 | [],_,_,_,_=>nodup_nil
 | q::r,lo,hi,h,hl=>by have A:∀p∈r,0<=(bp gw p.1).len:=fun p D=>hl p (mem_cons_of_mem _ D);have h0:=hl q (mem_cons_self ..);have E:=h.1;rw [map_cons,nodup_cons];refine ⟨fun hc=>?_,zxq h.2 A⟩;obtain ⟨p,D,e⟩:=mem_map.1 hc;have:=((D0 h.2 A).2 p D).1;omega
theorem Kept.inj (k:Kept d h ts l tau hi) (r:Right d h ts) {u v:Int} (E:∃q∈l,q.1=u) (F:∃q∈l,q.1=v) (e:tau u=tau v):u=v:=by obtain ⟨p,A,rfl⟩:=E;obtain ⟨q,D,rfl⟩:=F;rw [k.tq p A,k.tq q D]at e;rw [zxm (zxq k.laid (k.lens r)) A D e]
theorem Kept.pos (k:Kept d h ts l tau hi) (r:Right d h ts) {v:Int} (D:∃q∈l,q.1=v):tau v≠0/\v≠0:=by obtain ⟨q,A,rfl⟩:=D;have h1:=((D0 k.laid (k.lens r)).2 q A).1;have F:=r.sized.ae;obtain ⟨t,-,-,-,-,-,E,-⟩:=k.at r A;rw [k.tq q A];exact ⟨by omega,by omega⟩
structure vc (l:List (Int×Int)) (tau:Int->Int) (s s':kf):Prop where
 met:s'.met=s.met.map tau
 o:s'.o=s.o
 kept:∀v∈s.met,∃q∈l,q.1=v
theorem vc.turn (k:Kept d h ts l tau hi) (r:Right d h ts) {s D:kf} (m:vc l tau s D) {v:Int} (E:v=0\/∃q∈l,q.1=v):vc l tau (s.turn v) (D.turn (tau v)):=by
 rcases E with rfl | E
 ·rw [k.zero];have F:∀m:List Int,uo m 0=m:=fun m=>by unfold uo;rw [if_pos rfl]
  have I:∀m:List Int,xi m 0=0:=fun m=>by unfold xi;rw [if_pos rfl]
  unfold kf.turn;rw [F,F,I,I];exact ⟨m.met,by show D.o++ [0]=s.o++ [0];rw [m.o],m.kept⟩
 have G:=k.pos r E;have hc:(s.met.map tau).contains (tau v)=s.met.contains v:=by
  rw [Bool.eq_iff_iff,contains_iff_mem,contains_iff_mem];constructor
  ·intro J;obtain ⟨u,A,e⟩:=mem_map.1 J;rw [<-k.inj r (m.kept u A) E e];exact A
  exact fun J=>mem_map.2 ⟨v,J,rfl⟩
 have F:uo D.met (tau v)=(uo s.met v).map tau:=by
  unfold uo;rw [if_neg G.1,if_neg G.2,m.met,hc];split
  ·rfl
  rw [map_append];rfl
 have L:∀u∈uo s.met v,∃q∈l,q.1=u:=by
  intro u A;unfold uo at A;rw [if_neg G.2]at A;split at A
  ·exact m.kept u A
  rcases mem_append.1 A with A | A
  ·exact m.kept u A
  rw [mem_singleton]at A;rw [A];exact E
 have I:xi D.met (tau v)=xi s.met v:=by unfold xi;rw [if_neg G.1,if_neg G.2,F,zxp _ fun u A e=>k.inj r (L u A) E e]
 exact ⟨F,by show D.o++ [xi D.met (tau v)]=s.o++ [xi s.met v];rw [m.o,I],L⟩
theorem vc.roots (k:Kept d h ts l tau hi) (r:Right d h ts):∀(rs:List Int) {s s':kf},vc l tau s s'->(∀v∈rs,v=0\/∃q∈l,q.1=v)->vc l tau (rs.foldl kf.turn s) ((rs.map tau).foldl kf.turn s')
 | [],_,_,m,_=>m
 | v::rs,_,_,m,h=>vc.roots k r rs (m.turn k r (h v (mem_cons_self ..))) fun u A=>h u (mem_cons_of_mem _ A)
theorem vc.word (n:Into d h l tau hi x) (k:Kept d h ts l tau hi) (r:Right d h ts) {s A:kf} (m:vc l tau s A) {p:Int×Int} (D:p∈l) {i:Nat} (hi:(i:Int)<(bp h.ab p.1).len):vc l tau (s.word d h.ab (bp h.ab p.1) i) (A.word d x.ab (oe h.ab p) i):=by
 unfold kf.word;rw [C7 (x:=oe h.ab p) (y:=bp h.ab p.1) rfl];cases hr:jw d.fields (bp h.ab p.1) i
 ·have w:=n.word p D (3+i) (by omega);rw [show 3+i - 3=i by omega,hr,Bool.and_false]at w;simp only [Bool.false_eq_true,if_false]at w ⊢;refine ⟨m.met,?_,m.kept⟩;show A.o++ [wd x.ab (p.2+3+i)]=s.o++ [wd h.ab (p.1+3+i)];rw [m.o,show p.2+3+(i:Int)=p.2+((3+i:Nat):Int) by omega,w,show p.1+((3+i:Nat):Int)=p.1+3+(i:Int) by omega]
 obtain ⟨E,F⟩:=n.ref k D hi hr;simp only [if_true];show vc l tau (s.turn (wd h.ab (p.1+3+i))) (A.turn (wd x.ab (p.2+3+i)));rw [E];exact m.turn k r F
theorem vc.ab (n:Into d h l tau hi x) (k:Kept d h ts l tau hi) (r:Right d h ts) {p:Int×Int} (A:p∈l):∀(is:List Nat) {s s':kf},vc l tau s s'->(∀i∈is,(i:Int)<(bp h.ab p.1).len)->vc l tau (is.foldl (kf.word d h.ab (bp h.ab p.1)) s) (is.foldl (kf.word d x.ab (oe h.ab p)) s')
 | [],_,_,m,_=>m
 | i::is,_,_,m,h=>vc.ab n k r A is (m.word n k r A (h i (mem_cons_self ..))) fun j D=>h j (mem_cons_of_mem _ D)
theorem vc.thing (n:Into d h l tau hi x) (k:Kept d h ts l tau hi) (r:Right d h ts) {s D:kf} (m:vc l tau s D) {a:Int} (E:∃q∈l,q.1=a):vc l tau (s.thing d h.ab a) (D.thing d x.ab (tau a)):=by
 obtain ⟨p,A,rfl⟩:=E;rw [k.tq p A];unfold kf.thing;rw [n.head k r A];refine vc.ab n k r A _ ⟨m.met,?_,m.kept⟩ fun i hi=>?_
 ·show D.o++ [(bp h.ab p.1).tag,(bp h.ab p.1).len,(bp h.ab p.1).hash]=_;rw [m.o]
 have:=mem_range.1 hi;have h0:(oe h.ab p).len=(bp h.ab p.1).len:=rfl;omega
theorem vc.all (n:Into d h l tau hi x) (k:Kept d h ts l tau hi) (r:Right d h ts):∀(f i:Nat) {s s':kf},vc l tau s s'->vc l tau (kf.all d h.ab f i s) (kf.all d x.ab f i s')
 | 0,_,_,_,m=>m
 | f+1,i,s,s',m=>by
   rw [kf.all,kf.all,m.met,getElem?_map];cases ha:s.met[i]? with
   | none=>exact m
   | some a=>exact vc.all n k r f (i+1) (m.thing n k r (m.kept a (mem_of_getElem? ha)))
theorem Into.shape (n:Into d h l tau hi x) (k:Kept d h ts l tau hi) (r:Right d h ts) {rs:List Int} (A:∀v∈rs,v=0\/∃q∈l,q.1=v):ko d x (rs.map tau)=ko d h rs:=by unfold ko;rw [n.len];exact (vc.all n k r (h.ab.length+1) 0 (vc.roots k r rs ⟨rfl,rfl,fun v D=>by cases D⟩ A)).o
end
theorem zxr (d:ax) (h:ar) (A:List bq) (order:List Int) (lo:Int):(pc d h A order lo).ab.length=h.ab.length:=by unfold pc;rw [zwc,zwb,length_replicate]
theorem zxs {n:Nat} {fs:List (List bv)} {ws:List Int} {lo A:Int} {rest:List bq} (D:lo<A) (e:cw n fs ws lo A=some rest):∃rest',rest=bp ws lo::rest'/\cw n fs ws (bp ws lo).fin A=some rest'/\(bp ws lo).fin<=A/\lo+3<=(bp ws lo).fin:=by
 by_cases E:je n fs ws lo A=true
 ·rw [Ep D E]at e;cases hx:cw n fs ws (bp ws lo).fin A with
  | none=>rw [hx]at e;cases e
  | some ts'=>
    rw [hx]at e;exact ⟨ts',(ojq e).symm,rfl,(Cs E).2.1,(Cs E).1⟩
 rw [Cy D E]at e;cases e
theorem zxt {gw:List Int} :∀ {l:List (Int×Int)} {lo hi:Int},od gw lo l hi->(∀p∈l,0<=(bp gw p.1).len)->l.Pairwise (fun p q=>p.2+3+(bp gw p.1).len<=q.2)
 | [],_,_,_,_=>Pairwise.nil
 | q::l,lo,hi,h,hl=>by have A:∀p∈l,0<=(bp gw p.1).len:=fun p D=>hl p (mem_cons_of_mem _ D);have h1:=h.1;refine pairwise_cons.2 ⟨fun p D=>?_,zxt h.2 A⟩;have:=((D0 h.2 A).2 p D).1;omega
theorem zxu {gw:List Int} :∀ {l m:List (Int×Int)} {lo mid hi:Int},od gw lo l mid->od gw mid m hi->od gw lo (l++m) hi
 | [],_,_,_,_,h,g=>by have h:=h;unfold od at h;rw [h];exact g
 | _::_,_,_,_,_,h,g=>⟨h.1,zxu h.2 g⟩
theorem zxv {n:Nat} {fs:List (List bv)} {ws:List Int} {A:Int} :∀(f:Nat) (lo:Int) (ts:List bq),(A - lo).toNat<=f->lo<=A->cw n fs ws lo A=some ts->od ws lo (ts.map fun t=>(t.loc,t.loc)) A
 | f,lo,ts,hf,hl,e=>by
   by_cases D:lo<A
   ·obtain ⟨rest,rfl,E,F,G⟩:=zxs D e;match f,hf with
    | 0,hf=>omega
    | f+1,hf=>exact ⟨rfl,zxv f (bp ws lo).fin rest (by omega) F E⟩
   rw [Dw D]at e;have e:=ojq e;subst e;show lo=A;omega
theorem zxw {ws:List Int} :∀(l:List Int) (lo:Int),od ws lo (l.zip (ia ws lo l)) (toR ws lo l)
 | [],_=>rfl
 | a::l,lo=>by
   have A:=zxw (ws:=ws) l (lo+(3+wd ws (a+1)));refine ⟨rfl,?_⟩;have e:lo+3+(bp ws a).len=lo+(3+wd ws (a+1)):=by show lo+3+wd ws (a+1)=_;omega
   show od ws (lo+3+(bp ws a).len) (l.zip (ia ws (lo+(3+wd ws (a+1))) l)) (toR ws (lo+(3+wd ws (a+1))) l);rw [e];exact A
theorem zxx:∀(l m:List Int),l.length=m.length->(l.zip m).map (·.1)=l
 | [],_,_=>by simp
 | a::l,[],h=>by simp at h
 | a::l,b::m,h=>by show a::(l.zip m).map (·.1)=a::l;rw [zxx l m (by simpa using h)]
theorem zxy {P:Int->Bool} {next:Int->List Int} {v:Int} :∀(f i:Nat) (o:List Int),v∈o->v∈wb P next f i o
 | 0,_,_,h=>h
 | f+1,i,o,h=>by
   rw [wb];cases o[i]? with
   | none=>exact h
   | some a=>exact zxy f (i+1) _ ((C8 _ _).2 (inl h))
theorem zxz {d:ax} {h:ar} {v:Int} :∀(ns o:List Int),v∈o->v∈Fj d h ns o
 | [],_,hv=>hv
 | n::ns,o,hv=>zxz ns ((ev d.fields h.ab n).foldl (pg (yg h)) o) ((C8 _ _).2 (inl hv))
theorem zx0 {d:ax} {h:ar} {rs:List Int} {v:Int} (A:v∈rs) (D:yg h v=true):v∈ma d h rs:=
 zxy _ _ _ (zxz _ _ ((C8 _ _).2 (inr ⟨A,D⟩)))
def jm (h:ar) (stay:List bq) (order:List Int) (lo:Int):List (Int×Int):=(stay.map fun t=>(t.loc,t.loc))++order.zip (ia h.ab lo order)
section
variable {d:ax} {h:ar} {ts:List bq}
theorem zx1 {A:List bq} {order:List Int} {lo:Int} (r:Right d h ts) (k:Kept d h ts (jm h A order lo) (nj order (ia h.ab lo order)) (toR h.ab lo order)):Into d h (jm h A order lo) (nj order (ia h.ab lo order)) (toR h.ab lo order) (pc d h A order lo):=by
 have V:=r.sized.ae;have E:=D0 k.laid (k.lens r);have I:=k.top;have F:∀p∈jm h A order lo,t8 h.ab (replicate h.ab.length (0:Int)).length p:=fun p D=>by obtain ⟨t,-,-,G,-,-,q1,q2⟩:=k.at r D;have:=E.2 p D;rw [length_replicate];exact ⟨by omega,by omega,by rw [G];exact q2,by omega⟩
 have J:(pc d h A order lo).ab=me d h.ab order (ia h.ab lo order) (jm h A order lo) (replicate h.ab.length 0):=by show me d h.ab order (ia h.ab lo order) (order.zip (ia h.ab lo order)) (xf d h.ab order (ia h.ab lo order) A (replicate h.ab.length 0))=_;rw [zxa];unfold me jm;rw [foldl_append]
 refine ⟨zxr d h A order lo,rfl,rfl,rfl,rfl,rfl,rfl,fun p D i hi=>?_,fun a L O=>?_⟩
 ·obtain ⟨t,-,-,G,-,-,q1,q2⟩:=k.at r D;have N:=E.2 p D;rw [J,zw9 _ _ (p.2+i) (by omega) F (zxt k.laid (k.lens r)) p D (by omega) (by omega)];unfold ve;rw [show (p.2+(i:Int) - p.2).toNat=i by omega,show ((p.1.toNat:Nat):Int)=p.1 by omega,show ((p.1.toNat+i:Nat):Int)=p.1+i by omega]
 rw [J,E2 _ _ a L F (fun p D hc=>by have:=E.2 p D;omega),zxc]
theorem Into.small {l:List (Int×Int)} {tau:Int->Int} {hi:Int} {x:ar} (n:Into d h l tau hi x) (k:Kept d h ts l tau hi) (r:Right d h ts) (Z:∀v∈h.ab,(Lit.int .i64 v).wf=true):∀v∈x.ab,(Lit.int .i64 v).wf=true:=by
 have z:=r.sized;have z1:=z.ae;have z2:=z.old;have z3:=z.len;have I:=D0 k.laid (k.lens r);have V:=k.top;have N:(Lit.int .i64 0).wf=true:=by decide
 have L:∀a:Int,(Lit.int .i64 (wd h.ab a)).wf=true:=fun a=>by
  unfold wd;cases e:h.ab[a.toNat]? with
  | none=>exact N
  | some v=>exact Z v (mem_of_getElem? e)
 have A:∀(m:List (Int×Int)) (lo:Int),od h.ab lo m hi->∀a:Int,lo<=a->a<hi->∃p∈m,p.2<=a/\a<p.2+3+(bp h.ab p.1).len:=by
  intro m;induction m with
  | nil=>intro lo E a h1 O;have E:lo=hi:=E;omega
  | cons q m ih=>
    intro lo E a h1 O;have e1:=E.1;by_cases hc:a<q.2+3+(bp h.ab q.1).len
    ·exact ⟨q,mem_cons_self ..,by omega,hc⟩
    obtain ⟨p,F,e⟩:=ih _ E.2 a (by omega) O;exact ⟨p,mem_cons_of_mem _ F,e⟩
 intro v Y;obtain ⟨i,G,e⟩:=mem_iff_getElem.1 Y;rw [<-qm G]at e;rw [<-e];by_cases W:(i:Int)<=h.ae\/hi<=(i:Int)
 ·rw [n.rest i (by omega) W];exact N
 obtain ⟨p,F,q1,q2⟩:=A l _ k.laid i (by omega) (by omega);have w:=n.word p F ((i:Int) - p.2).toNat (by omega);rw [show p.2+((((i:Int) - p.2).toNat:Nat):Int)=(i:Int) by omega]at w;rw [w];split
 ·rename_i hc;rw [Bool.and_eq_true,decide_eq_true_eq]at hc;obtain ⟨-,D⟩:=n.ref k F (m:=((i:Int) - p.2).toNat - 3) (by omega) hc.2;rw [show p.1+((((i:Int) - p.2).toNat:Nat):Int)=p.1+3+((((i:Int) - p.2).toNat - 3:Nat):Int) by omega];rcases D with D | ⟨q,J,D⟩
  ·rw [D,k.zero];exact N
  rw [<-D,k.tq q J];have:=I.2 q J;obtain ⟨t,-,-,X,-,-,-,q3⟩:=k.at r J;rw [X]at this;exact (Lit.wf_int_iff _ _).2 ⟨by show (-9223372036854775808:Int)<=_;omega,by show _<=(9223372036854775807:Int);omega⟩
 exact L _
theorem zx2 {I:List bq} (r:Right d h ts) (hl:0<=leftD h) (e2:cw d.am.length d.fields h.ab (h.ae+1) h.be=some I) (rs:List Int) (hr:∀v∈rs,cq ts v=true):
 Kept d h ts (jm h I (ma d h rs) h.be) (nj (ma d h rs) (ia h.ab h.be (ma d h rs))) (toR h.ab h.be (ma d h rs))/\∀v∈rs,v=0\/∃q∈jm h I (ma d h rs) h.be,q.1=v:=by
 obtain ⟨x,J,-⟩:=zw1 r hl rs hr;obtain ⟨-,-,-,aw⟩:=zxk r hl e2 rs hr;obtain ⟨s,hs⟩:∃s,ij d h rs=s:=⟨_,rfl⟩;rw [hs]at x J;have z:=r.sized;have z1:=z.ae;have z2:=z.old;have z3:=z.len;have z4:=z.bk;have z5:=z.be;have aa:∀p∈s.mv,p.2.len=wd h.ab (p.1+1):=fun p F=>by obtain ⟨t,A,G,q1,q2,q3,-⟩:=x.fr p F;rw [q3,q1];exact congrArg bq.len (ze r A (vj.1 G).2).eq
 obtain ⟨n1,n2⟩:=zw2 (ws:=h.ab) x.laid aa;rw [J]at n1 n2;have Y:∀v∈ma d h rs,dw h v=true:=fun v Z=>by rw [<-J]at Z;obtain ⟨p,F,rfl⟩:=mem_map.1 Z;obtain ⟨t,-,G,e,-⟩:=x.fr p F;rw [e];exact G
 have ah:(0:Int)∉ma d h rs:=fun hc=>by have:=(vj.1 (Y _ hc)).1;omega
 have ai:(ma d h rs).Nodup:=by rw [<-J];exact x.nd
 have ak:(ma d h rs).length=(ia h.ab h.be (ma d h rs)).length:=(zv7 _ _ _).symm;have W:(jm h I (ma d h rs) h.be).map (·.1)=I.map bq.loc++ma d h rs:=by unfold jm;rw [map_append,zxx _ _ ak,map_map];rfl
 have N:∀t,t∈I↔t∈ts/\h.ae<t.loc:=fun t=>by
  obtain ⟨ys,ay,f1,f2,rfl⟩:=Ab r.both;rw [e2]at f2;have f2:=ojq f2;subst f2;constructor
  ·intro A;have:=(td e2 t A).1;exact ⟨mem_append_right _ A,by omega⟩
  rintro ⟨A,G⟩;rcases mem_append.1 A with A | A
  ·have q:=td f1 t A;have q1:=q.2.1;have q2:=yb q.2.2.2.2;have q3:t.fin=t.loc+3+t.len:=rfl;omega
  exact A
 have X:∀v,cq ts v=true->(dw h v=true->v∈ma d h rs)->v=0\/∃q∈jm h I (ma d h rs) h.be,q.1=v:=fun v Z G=>by
  by_cases h0:v=0
  ·exact inl h0
  obtain ⟨t,A,rfl⟩:=Fy Z h0;have hm:t.loc∈(jm h I (ma d h rs) h.be).map (·.1):=by
   rw [W];by_cases af:dw h t.loc=true
   ·exact mem_append_right _ (G af)
   obtain ⟨-,-,-,q4⟩:=zxn r A;refine mem_append_left _ (mem_map.2 ⟨t,(N t).2 ⟨A,?_⟩,rfl⟩);have:¬(0<t.loc/\t.loc<=h.ae):=fun hc=>af (vj.2 hc);omega
  obtain ⟨q,E,e⟩:=mem_map.1 hm;exact inr ⟨q,E,e⟩
 have L:∀q∈jm h I (ma d h rs) h.be,(∃t∈I,q=(t.loc,t.loc))\/∃p∈s.mv,q=(p.1,p.2.loc):=fun q E=>by
  unfold jm at E;rcases mem_append.1 E with E | E
  ·obtain ⟨t,A,e⟩:=mem_map.1 E;exact inl ⟨t,A,e.symm⟩
  rw [n1,<-J,zxd]at E;obtain ⟨p,F,e⟩:=mem_map.1 E;exact inr ⟨p,F,e.symm⟩
 have ad:∀v,nj (ma d h rs) (ia h.ab h.be (ma d h rs)) v=jv s.mv v:=fun v=>by rw [n1,<-J];exact zw5 x.nd (by rw [J];exact ah) v
 have al:=x.otopLe r hl;refine ⟨⟨?_,?_,?_,?_,?_,?_,by rw [n2];exact al⟩,fun v Z=>X v (hr v Z) fun G=>?_⟩
 ·intro q E;rcases L q E with ⟨t,A,rfl⟩ | ⟨p,F,rfl⟩
  ·exact ⟨t,((N t).1 A).1,rfl⟩
  obtain ⟨t,A,-,e,-⟩:=x.fr p F;exact ⟨t,A,e.symm⟩
 ·exact zxu (zxv _ _ I (nlq _) (by omega) e2) (zxw _ _)
 ·rw [W,nodup_append];refine ⟨?_,ai,?_⟩
  ·refine Pairwise.map _ (fun a b O e=>?_) (Pairwise.imp_of_mem (fun {a b} D hb O=>And.intro D O) (F4 _ _ I (nlq _) e2));have q:=yb (td e2 a O.1).2.2.2.2;have q1:a.fin=a.loc+3+a.len:=rfl;have:=O.2;omega
  intro a D b hb e;obtain ⟨t,A,rfl⟩:=mem_map.1 D;have h1:=((N t).1 A).2;have h2:=(vj.1 (Y b hb)).2;omega
 ·intro q E a D;rcases L q E with ⟨t,A,rfl⟩ | ⟨p,F,rfl⟩
  ·obtain ⟨V,ac⟩:=(N t).1 A;have qo:=Bw r V ac;have D:a∈refsOf d.fields t:=by have D:a∈refsOf d.fields (bp h.ab t.loc):=D;rwa [<-qo.2.2.1]at D
   refine X _ (zuw r V D) fun G=>?_;by_cases cn:t.loc∈h.ap
   ·have hd:=(x.Fe a (inl ⟨t.loc,cn,t,V,rfl,D⟩)).2.2;have:=qo.2.2.2.2 a D;have:=qo.2.1;rw [x.srcLow r (by omega)]at hd;rw [<-J];exact hd G
   exfalso;have au:=any_eq_false.1 r.un t V;refine au ?_;unfold iv fx;rw [Bool.and_eq_true,Bool.and_eq_true,decide_eq_true_eq];refine ⟨⟨ac,?_⟩,any_eq_true.2 ⟨_,D,G⟩⟩;cases hcc:h.ap.contains t.loc
   ·rfl
   exact absurd (contains_iff_mem.1 hcc) cn
  obtain ⟨t,A,av,e1,e3,e4,-⟩:=x.fr p F;have y:=ze r A (vj.1 av).2;have D:a∈refsOf d.fields (bp h.ab p.1):=D;rw [e1,<-y.eq]at D;refine X _ (zuw r A D) fun G=>?_;obtain ⟨n,ea,hn,an⟩:=Bb D;have hf:p.2.fin=p.2.loc+3+p.2.len:=rfl;have hm:p.2.loc+3+(n:Int)∈refsOf d.fields p.2:=C6 (by omega) (by rw [C7 e3];exact an);obtain ⟨j,hj,ej⟩:=mem_iff_getElem.1 F;have hd:=(x.Fe (p.2.loc+3+n) (inr ⟨j,p,hj,by rw [getElem?_eq_getElem hj,ej],hm⟩)).2.2;rw [zuf (p:=p) (by omega) (by omega) x.laid (x.lens r) F,e1,show t.loc+(p.2.loc+3+(n:Int) - p.2.loc)=a by omega]at hd;rw [<-J];exact hd G
 ·intro q E;rw [ad];rcases L q E with ⟨t,A,rfl⟩ | ⟨p,F,rfl⟩
  ·unfold jv;rw [zuh]
   ·rfl
   intro hc;rw [J]at hc;have h1:=((N t).1 A).2;have h2:=(vj.1 (Y _ hc)).2;have h2:t.loc<=h.ae:=h2;omega
  unfold jv;show (io s.mv p.1).getD p.1=p.2.loc;rw [zui F x.nd];rfl
 ·rw [ad];unfold jv;rw [zuh (by rw [J];exact ah)];rfl
 exact zx0 Z (by rw [zvy];exact G)
end
def gi (live:List Int) (ys os:List bq):List Int:=((os.map bq.loc).filter (live.contains ·))++((ys.map bq.loc).filter (live.contains ·))
theorem zx3 {order news:List Int} (N:order.Nodup) (V:(0:Int)∉order) (X:order.length=news.length):∀q∈order.zip news,nj order news q.1=q.2:=by
 intro q O;obtain ⟨k,L,e⟩:=mem_iff_getElem.1 O;rw [length_zip]at L;have h1:order[k]'(by omega)=q.1:=by rw [<-e,getElem_zip]
 have I:news[k]'(by omega)=q.2:=by rw [<-e,getElem_zip]
 have E:q.1∈order:=h1 ▸ gm _;rcases zw4 order q.1 with ⟨D,-⟩ | ⟨j,D,J⟩
 ·exact absurd E D
 obtain ⟨W,G⟩:=List.getElem?_eq_some_iff.1 D;have A:j=k:=(getElem_inj (xs:=order) N).1 (G.trans h1.symm);subst A;unfold nj;have h0:q.1≠0:=fun F=>V (by rw [<-F];exact E);rw [if_neg (by rintro (c | c);exact h0 c;omega),J,qm (by omega),I]
theorem zx4 (ws:List Int):∀(l:List Int) (lo:Int),toR ws lo l=lo+(l.map fun a=>3+wd ws (a+1)).sum
 | [],lo=>by show lo=lo+0;omega
 | a::l,lo=>by show toR ws (lo+(3+wd ws (a+1))) l=_;rw [zx4 ws l,map_cons,sum_cons];omega
section
variable {d:ax} {h:ar} {ts:List bq}
theorem zx5 {D A:List bq} (r:Right d h ts) (e1:cw d.am.length d.fields h.ab 1 h.bk=some D) (e2:cw d.am.length d.fields h.ab (h.ae+1) h.be=some A) (rs:List Int) (hr:∀v∈rs,cq ts v=true) (hl:ic d h rs<=h.old):
 Kept d h ts (jm h [] (gi (de d h rs) D A) (h.ae+1)) (nj (gi (de d h rs) D A) (ia h.ab (h.ae+1) (gi (de d h rs) D A))) (toR h.ab (h.ae+1) (gi (de d h rs) D A))/\(∀v∈rs,v=0\/∃q∈jm h [] (gi (de d h rs) D A) (h.ae+1),q.1=v)/\toR h.ab (h.ae+1) (gi (de d h rs) D A)=h.ae+1+ic d h rs/\(gi (de d h rs) D A).Nodup/\(∀v,v∈gi (de d h rs) D A↔ld nz (ev d.fields h.ab) rs v):=by
 obtain ⟨l1,l2⟩:=zvd r hr;have z1:=r.sized.ae;have z2:=r.sized.old;have z3:=r.sized.len;have z4:=r.sized.bk;have ai:ts=D++A:=by obtain ⟨an,al,f1,f2,rfl⟩:=Ab r.both;rw [e1]at f1;rw [e2]at f2;rw [ojq f1,ojq f2]
 have aa:∀ {v:Int},nz v=true->v≠0:=fun {v} h e=>by subst e;cases h
 have ac:∀v,ld nz (ev d.fields h.ab) rs v->v≠0:=fun v O=>by
  apply ld.ind O
  ·intro _ _ h2
   exact aa h2
  intro _ _ _ _ h2 _
  exact aa h2
 have E:∀v,v∈gi (de d h rs) D A↔ld nz (ev d.fields h.ab) rs v:=fun v=>by
  unfold gi;rw [mem_append,mem_filter,mem_filter,contains_iff_mem,l2];constructor
  ·rintro (h | h)<;>exact h.2
  intro O;obtain ⟨t,F,rfl⟩:=zvb r hr O;rw [ai]at F;rcases mem_append.1 F with F | F
  ·exact inr ⟨mem_map.2 ⟨t,F,rfl⟩,O⟩
  exact inl ⟨mem_map.2 ⟨t,F,rfl⟩,O⟩
 have J:∀(l:List bq),l.Pairwise (fun t u=>t.fin<=u.loc)->(∀t∈l,0<=t.len)->(l.map bq.loc).Nodup:=fun l hp h0=>by refine Pairwise.map _ (fun a b L e=>?_) (Pairwise.imp_of_mem (fun {a b} X hb L=>And.intro X L) hp);have q:=h0 a L.1;have q1:a.fin=a.loc+3+a.len:=rfl;have:=L.2;omega
 have ah:=J D (F4 _ _ D (nlq _) e1) fun t F=>yb (td e1 t F).2.2.2.2;have af:=J A (F4 _ _ A (nlq _) e2) fun t F=>yb (td e2 t F).2.2.2.2;have N:(gi (de d h rs) D A).Nodup:=by unfold gi;refine nodup_append.2 ⟨af.sublist filter_sublist,ah.sublist filter_sublist,?_⟩;intro a X b hb e;obtain ⟨t,F,rfl⟩:=mem_map.1 (mem_filter.1 X).1;obtain ⟨u,hu,rfl⟩:=mem_map.1 (mem_filter.1 hb).1;have q1:=(td e2 t F).1;have q2:=td e1 u hu;have q3:=q2.2.1;have q4:=yb q2.2.2.2.2;have q5:u.fin=u.loc+3+u.len:=rfl;omega
 have ad:toR h.ab (h.ae+1) (gi (de d h rs) D A)=h.ae+1+ic d h rs:=by rw [zx4,zve r hr N E]
 have Z:(gi (de d h rs) D A).length=(ia h.ab (h.ae+1) (gi (de d h rs) D A)).length:=(zv7 _ _ _).symm;have V:jm h [] (gi (de d h rs) D A) (h.ae+1)=(gi (de d h rs) D A).zip (ia h.ab (h.ae+1) (gi (de d h rs) D A)):=by unfold jm;rw [map_nil,nil_append]
 have I:(jm h [] (gi (de d h rs) D A) (h.ae+1)).map (·.1)=gi (de d h rs) D A:=by rw [V,zxx _ _ Z]
 have ak:(0:Int)∉gi (de d h rs) D A:=fun hc=>ac 0 ((E 0).1 hc) rfl;have Y:∀v,ld nz (ev d.fields h.ab) rs v->∃q∈jm h [] (gi (de d h rs) D A) (h.ae+1),q.1=v:=fun v O=>by
  have hm:v∈(jm h [] (gi (de d h rs) D A) (h.ae+1)).map (·.1):=by rw [I];exact (E v).2 O
  obtain ⟨q,W,e⟩:=mem_map.1 hm;exact ⟨q,W,e⟩
 have G:∀q∈jm h [] (gi (de d h rs) D A) (h.ae+1),ld nz (ev d.fields h.ab) rs q.1:=fun q W=>(E q.1).1 (by rw [<-I];exact mem_map.2 ⟨q,W,rfl⟩);refine ⟨⟨fun q W=>zvb r hr (G q W),?_,by rw [I];exact N,?_,?_,?_,by rw [ad];omega⟩,fun v O=>?_,ad,N,E⟩
 ·rw [V];exact zxw _ _
 ·intro q W a X;by_cases h0:wd h.ab a=0
  ·exact inl h0
  refine inr (Y _ (ld.step (G q W) ?_ ?_))
  ·unfold ev;exact mem_map.2 ⟨a,X,rfl⟩
  unfold nz;simpa using h0
 ·rw [V];exact zx3 N ak Z
 ·unfold nj;rw [if_pos (inl rfl)]
 by_cases h0:v=0
 ·exact inl h0
 exact inr (Y v (ld.root O (by unfold nz;simpa using h0)))
end
end Go.Proofs.YtjdnmblggdobgaaGreat
