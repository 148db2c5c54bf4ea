import Derived.Test.YtjdnmblggdobgaaGreatJHzBHzR
namespace Go.Proofs.YtjdnmblggdobgaaGreat
open Go.RowKit Go.Maps
def Fd (d:bd) (h:ar) (ns o:List Int):List Int:=ns.foldl (fun o n=>(ed d.fields h.ab n).foldl (oo (yg h)) o) o
def kv (d:bd) (h:ar) (rs:List Int):List Int:=uo (yg h) (ed d.fields h.ab) h.ab.length 0 (Fd d h h.am (rs.foldl (oo (yg h)) []))
theorem zw1 (l:List (Int×bk)) (v:Int):(ij l v).isNone= !(l.map (·.1)).contains v:=by
 have e:(ij l v).isSome=(l.map (·.1)).contains v:=by rw [Bool.eq_iff_iff,zuu,List.contains_iff_mem]
 rw [<-e];cases ij l v<;>rfl
theorem zw2 {m:List (Int×bk)} {v:Int} :∀ {e:List (Int×bk)},v∉e.map (·.1)->ij (m++e) v=ij m v:=by
 intro e h;unfold ij;rw [List.foldl_append];generalize List.foldl _ none m=acc;induction e generalizing acc with
 | nil=>rfl
 | cons p e ih=>
   rw [List.map_cons,List.mem_cons,not_or]at h;rw [List.foldl_cons,if_neg (fun q=>h.1 q.symm)];exact ih h.2 acc
section
variable {d:bd} {h0:ar} {ts:List bk} {s:ga} {dn:Int->Prop}
theorem zw3 {m e:List (Int×bk)} {v:Int} (A:((m++e).map (·.1)).Nodup) (F:∀p∈e,dm h0 p.1=true) (E:dm h0 v=true->v∈m.map (·.1)):jo (m++e) v=jo m v:=by unfold jo;rw [zw2];intro hc;obtain ⟨p,D,rfl⟩:=List.mem_map.1 hc;rw [List.map_append,List.nodup_append]at A;exact A.2.2 _ (E (F p D)) _ (List.mem_map.2 ⟨p,D,rfl⟩) rfl
theorem zw4 (x:jh d h0 ts s dn) (v:Int):(s.lead v).mv.map (·.1)=oo (yg h0) (s.mv.map (·.1)) v:=by
 unfold ga.lead oo;rw [x.youngEq,zv8,zw1];by_cases hc:(dm h0 v&& !(s.mv.map (·.1)).contains v)=true
 ·rw [if_pos hc,if_pos hc];show (s.mv++ [((v:Int),(⟨s.h.ba,(bj s.h.ab v).tag,(bj s.h.ab v).len,(bj s.h.ab v).hash⟩:bk))]).map (fun p:Int×bk=>p.1)=s.mv.map (fun p:Int×bk=>p.1)++ [v];rw [List.map_append];rfl
 rw [if_neg hc,if_neg hc]
theorem zw5 (r:Right d h0 ts) (A:0<=leftD h0):∀(rs:List Int) (s:ga) (dn:Int->Prop),jh d h0 ts s dn->(∀v∈rs,b8 ts v=true)->(s.roots rs).mv.map (·.1)=rs.foldl (oo (yg h0)) (s.mv.map (·.1))
 | [],_,_,_,_=>rfl
 | v::rs,s,dn,x,h=>by obtain ⟨y,-,-⟩:=x.lead r A (h v (List.mem_cons_self ..));have D:=zw5 r A rs _ dn y fun u E=>h u (List.mem_cons_of_mem _ E);rw [zw4 x]at D;exact D
theorem zw6 (r:Right d h0 ts) (E:0<=leftD h0):∀(rs:List Int) (s:ga) (dn:Int->Prop),jh d h0 ts s dn->(∀v∈rs,b8 ts v=true)->∀(s':ga),Ext (s.roots rs) s'->(s'.mv.map (·.1)).Nodup->(∀p∈s'.mv,dm h0 p.1=true)->s.tos rs=rs.map (jo s'.mv)
 | [],_,_,_,_,_,_,_,_=>rfl
 | v::rs,s,dn,x,h,s',he,hn,hy=>by
   obtain ⟨y,-,V,W⟩:=x.lead r E (h v (List.mem_cons_self ..));have G:=fun u N=>h u (List.mem_cons_of_mem _ N);have O:=zw6 r E rs _ dn y G s' he hn hy;obtain ⟨-,⟨I,D⟩,-⟩:=jh.roots r E rs _ dn y G;obtain ⟨⟨F,A⟩,-⟩:=he;have A:s'.mv=((s.lead v).roots rs).mv++F:=A;have L:s'.mv=(s.lead v).mv++(I++F):=by rw [A,D,List.append_assoc]
   show s.dst v::(s.lead v).tos rs=jo s'.mv v::rs.map (jo s'.mv);rw [O,V];congr 1;rw [L]at hn hy ⊢;exact (zw3 hn (fun p J=>hy p (List.mem_append_right _ J)) W).symm
theorem zw7 (r:Right d h0 ts) (E:0<=leftD h0):∀(l:List Int) (s:ga) (dn:Int->Prop),jh d h0 ts s dn->l.Nodup->(∀a∈l,¬dn a/\h0.ae<a/\a<s.h.ba/\b8 ts (wd h0.ab (jf s.mv a))=true)->(s.refs l).mv.map (·.1)=(l.map fun a=>wd h0.ab (jf s.mv a)).foldl (oo (yg h0)) (s.mv.map (·.1))
 | [],_,_,_,_,_=>rfl
 | a::l,s,dn,x,hn,h=>by
   rw [List.nodup_cons]at hn;obtain ⟨F,J,L,N⟩:=h a (List.mem_cons_self ..);obtain ⟨y,D⟩:=x.ref r E F J L N;have z1:=r.sized.ae;have Z:=x.otopLe r E;have e:=x.A3 a (by omega) (by omega) F;have I:=zw7 r E l (s.ref a) _ y hn.2 (fun b A=>by
    obtain ⟨O,V,G,W⟩:=h b (List.mem_cons_of_mem _ A);refine ⟨?_,V,Int.lt_of_lt_of_le G D.2.1,by rw [D.2.2 b G];exact W⟩;rintro (h | rfl)
    ·exact O h
    exact hn.1 A)
   have X:(s.ref a).mv.map (·.1)=oo (yg h0) (s.mv.map (·.1)) (wd h0.ab (jf s.mv a)):=by show (s.lead (wd s.h.ab a)).mv.map (·.1)=_;rw [e];exact zw4 x _
   have Y:(l.map fun b=>wd h0.ab (jf (s.ref a).mv b))=l.map fun b=>wd h0.ab (jf s.mv b):=List.map_congr_left fun b A=>by rw [D.2.2 b (h b (List.mem_cons_of_mem _ A)).2.2.1]
   rw [X,Y]at I;exact I
theorem zw8 (r:Right d h0 ts) (F:0<=leftD h0):∀(l ns:List Int) (s:ga),jh d h0 ts s (Ce d.fields ts ns)->(∀n∈ns,h0.ae<n)->(∀n∈l,∃t∈ts,t.loc=n/\h0.ae<n)->(ns++l).Nodup->jh d h0 ts (ga.am d.fields s l) (Ce d.fields ts (ns++l))/\Ext s (ga.am d.fields s l)/\(ga.am d.fields s l).mv.map (·.1)=Fd d h0 l (s.mv.map (·.1))
 | [],ns,s,x,_,_,_=>⟨by rw [List.append_nil];exact x,Ext.refl _,rfl⟩
 | n::l,ns,s,x,h1,h2,h3=>by
   obtain ⟨t,G,rfl,D⟩:=h2 n (List.mem_cons_self ..);have E:t.loc∉ns:=fun hc=>(List.nodup_append.1 h3).2.2 _ hc _ (List.mem_cons_self ..) rfl;obtain ⟨e,V⟩:=x.noteAt r h1 G D E;obtain ⟨y,N⟩:=x.noteStep r F h1 G D E;have L:=zw7 r F (refsOf d.fields t) s _ x (Fq _ _) V;have q:=A0 r G D;have J:(refsOf d.fields t).map (fun a=>wd h0.ab (jf s.mv a))=ed d.fields h0.ab t.loc:=by unfold ed;rw [<-q.2.2.1];exact List.map_congr_left fun a O=>by rw [x.srcLow r (by have:=q.2.2.2.2 a O;have:=q.2.1;omega)]
   obtain ⟨I,W,X⟩:=zw8 r F l (ns++ [t.loc]) _ y (by
    intro m A;rcases List.mem_append.1 A with A | A
    ·exact h1 m A
    rw [List.mem_singleton]at A;rw [A];exact D) (fun n D=>h2 n (List.mem_cons_of_mem _ D)) (by rw [List.append_assoc];exact h3)
   rw [List.append_assoc]at I;refine ⟨I,N.trans W,?_⟩;refine Eq.trans X ?_;rw [e,L,J];rfl
theorem zw9 (r:Right d h0 ts) (x:jh d h0 ts s dn) {p:Int×bk} (E:p∈s.mv):(refsOf d.fields p.2).map (fun a=>wd h0.ab (jf s.mv a))=ed d.fields h0.ab p.1:=by obtain ⟨t,I,J,D,F,G,-⟩:=x.fr p E;have y:=xw r I (uj.1 J).2;unfold ed;rw [D,<-y.eq];unfold refsOf;rw [List.map_map,List.map_map,G,show jp d.fields p.2=jp d.fields t from funext fun n=>Cr F n];refine List.map_congr_left fun n A=>?_;obtain ⟨A,-⟩:=List.mem_filter.1 A;have A:=List.mem_range.1 A;show wd h0.ab (jf s.mv (p.2.loc+3+(n:Int)))=wd h0.ab (t.loc+3+(n:Int));have L:p.2.fin=p.2.loc+3+p.2.len:=rfl;rw [zup (p:=p) (by omega) (by omega) x.laid (x.lens r) E,D,show t.loc+(p.2.loc+3+(n:Int) - p.2.loc)=t.loc+3+(n:Int) by omega]
theorem zxa (r:Right d h0 ts) (D:0<=leftD h0) {ns:List Int} (A:∀n∈ns,h0.ae<n):∀(f i:Nat) (s:ga),jh d h0 ts s (As d.fields ts ns i s.mv)->(ga.gone d.fields f i s).mv.map (·.1)=uo (yg h0) (ed d.fields h0.ab) f i (s.mv.map (·.1))
 | 0,_,_,_=>rfl
 | f+1,i,s,x=>by
   rw [ga.gone,uo,List.getElem?_map];cases hp:s.mv[i]? with
   | none=>rfl
   | some p=>
     obtain ⟨y,-⟩:=x.goneStep r D A hp;obtain ⟨-,-,F⟩:=x.goneAt r D A hp;have E:=zw7 r D (refsOf d.fields p.2) s _ x (Fq _ _) F;rw [zw9 r x (List.mem_of_getElem? hp)]at E;show (ga.gone d.fields f (i+1) (s.refs (refsOf d.fields p.2))).mv.map (·.1)=uo (yg h0) (ed d.fields h0.ab) f (i+1) ((ed d.fields h0.ab p.1).foldl (oo (yg h0)) (s.mv.map (·.1)));rw [zxa r D A f (i+1) _ y,E]
theorem zxb (r:Right d h0 ts) (D:0<=leftD h0) (rs:List Int) (G:∀v∈rs,b8 ts v=true):
 jh d h0 ts (ie d h0 rs) (As d.fields ts h0.am (ie d h0 rs).mv.length (ie d h0 rs).mv)/\(ie d h0 rs).mv.map (·.1)=kv d h0 rs/\j8 h0 rs=rs.map (jo (ie d h0 rs).mv):=by
 have E:∀n∈h0.am,h0.ae<n:=fun n A=>by obtain ⟨_,_,_,q⟩:=Fu r A;exact q
 obtain ⟨N,a2⟩:=jh.roots r D rs ⟨h0,[]⟩ _ zu2 G;have O:=zw5 r D rs ⟨h0,[]⟩ _ zu2 G;obtain ⟨V,W,I⟩:=zw8 r D h0.am [] _ (N.iff fun a=>⟨False.elim,fun ⟨n,A,_⟩=>by cases A⟩) (fun n A=>by cases A) (fun n A=>Fu r A) (zwz r);rw [O]at I;have J:jh d h0 ts (ga.am d.fields (ga.roots ⟨h0,[]⟩ rs) h0.am) (As d.fields ts h0.am 0 (ga.am d.fields (ga.roots ⟨h0,[]⟩ rs) h0.am).mv):=V.iff fun a=>⟨Or.inl,fun h=>h.elim id fun ⟨j,_,hj,_⟩=>by omega⟩;obtain ⟨F,X⟩:=jh.goneAll r D E h0.ab.length 0 _ (by omega) (n0q _) J;have L:=zxa r D E h0.ab.length 0 _ J;rw [I]at L;refine ⟨F,L,?_⟩;refine zw6 r D rs ⟨h0,[]⟩ _ zu2 G _ (W.trans X) F.nd fun p Y=>?_;obtain ⟨t,-,Z,e,-⟩:=F.fr p Y;rw [e];exact Z
end
theorem zxc {ws:List Int} :∀ {l:List (Int×bk)} {lo hi:Int},Laid lo l hi->(∀p∈l,p.2.len=wd ws (p.1+1))->gq ws lo (l.map (·.1))=l.map (·.2.loc)/\toR ws lo (l.map (·.1))=hi
 | [],_,_,h,_=>⟨rfl,h⟩
 | p::l,lo,hi,h,hs=>by
   have D:=hs p (List.mem_cons_self ..);have h1:=h.1;have e:lo+(3+wd ws (p.1+1))=p.2.fin:=by rw [<-D];unfold bk.fin;omega
   have A:=zxc h.2 fun q E=>hs q (List.mem_cons_of_mem _ E);constructor
   ·show lo::gq ws (lo+(3+wd ws (p.1+1))) (l.map (·.1))=p.2.loc::l.map (·.2.loc);rw [e,A.1,h1]
   show toR ws (lo+(3+wd ws (p.1+1))) (l.map (·.1))=hi;rw [e];exact A.2
theorem zxd (ws:List Int):∀(l:List Int) (lo:Int) (k:Nat),k<l.length->(gq ws lo l)[k]? =some (toR ws lo (l.take k))
 | [],_,_,h=>by cases h
 | a::l,lo,0,_=>rfl
 | a::l,lo,k+1,h=>by show (lo::gq ws (lo+(3+wd ws (a+1))) l)[k+1]? =_;rw [List.getElem?_cons_succ,zxd ws l _ k (by simpa using h)];rfl
theorem zxe (l:List Int) (v:Int):(v∉l/\jv l v= -1)\/∃k:Nat,l[k]? =some v/\jv l v=k:=by
 unfold jv idx;cases e:l.findIdx? (fun x=>decide (x=v))with
 | none=>
   refine Or.inl ⟨fun E=>?_,rfl⟩;have:=List.findIdx?_eq_none_iff.1 e v E;simp at this
 | some k=>
   obtain ⟨A,D,-⟩:=List.findIdx?_eq_some_iff_getElem.1 e;refine Or.inr ⟨k,?_,rfl⟩;rw [List.getElem?_eq_getElem A,of_decide_eq_true D]
theorem zxf {l:List (Int×bk)} (D:(l.map (·.1)).Nodup) (F:(0:Int)∉l.map (·.1)) (v:Int):mr (l.map (·.1)) (l.map (·.2.loc)) v=jo l v:=by
 unfold mr jo;rcases zxe (l.map (·.1)) v with ⟨h1,A⟩ | ⟨k,h1,A⟩
 ·rw [if_pos (Or.inr (by omega)),zur h1];rfl
 have E:v≠0:=fun e=>F (by rw [<-e];exact List.mem_of_getElem? h1);rw [if_neg (by rintro (q | q);exact E q;omega),A];rw [List.getElem?_map]at h1;cases hp:l[k]? with
 | none=>rw [hp]at h1;cases h1
 | some p=>
   rw [hp]at h1;have h1:p.1=v:=ojq h1;subst h1;rw [zus (List.mem_of_getElem? hp) D];unfold wd;rw [show ((k:Int)).toNat=k by omega,List.getElem?_map,hp];rfl
section
variable {d:bd} {gp order news:List Int}
theorem zxg (A new:Nat):∀(n:Nat) (ws:List Int),new+n<=ws.length->∀a:Int,0<=a->wd (At d gp order news A new n ws) a=if (new:Int)<=a/\a<new+n then ug d gp order news A (a - new).toNat else wd ws a
 | 0,ws,_,a,_=>by rw [if_neg (by omega)];rfl
 | n+1,ws,h,a,h0=>by
   show wd ((At d gp order news A new n ws).set (new+n) (ug d gp order news A n)) a=_;by_cases e:a=((new+n:Nat):Int)
   ·subst e;rw [zsa (by rw [zwd];omega),if_pos (by omega),show (((new+n:Nat):Int) - new).toNat=n by omega]
   rw [Cn (by omega),zxg A new n ws (by omega) a h0];by_cases c:(new:Int)<=a/\a<new+n
   ·rw [if_pos c,if_pos (by omega)]
   rw [if_neg c,if_neg (by omega)]
structure so (gp:List Int) (n:Nat) (p:Int×Int):Prop where
 src:0<=p.1
 dst:0<=p.2
 len:0<=(bj gp p.1).len
 fin:p.2+3+(bj gp p.1).len<=n
theorem zxh {ws:List Int} {p:Int×Int} (h:so gp ws.length p) {a:Int} (h0:0<=a):wd (vw d gp order news ws p.1 p.2) a=if p.2<=a/\a<p.2+3+(bj gp p.1).len then ug d gp order news p.1.toNat (a - p.2).toNat else wd ws a:=by
 have h1:=h.dst;have A:=h.len;have D:=h.fin;have e:((p.2.toNat:Nat):Int)=p.2:=by omega
 unfold vw;rw [zxg _ _ _ _ (by omega) _ h0,e];by_cases c:p.2<=a/\a<p.2+3+(bj gp p.1).len
 ·rw [if_pos (by omega),if_pos c]
 rw [if_neg (by omega),if_neg c]
theorem Et:∀(l:List (Int×Int)) (ws:List Int) (a:Int),0<=a->(∀p∈l,so gp ws.length p)->(∀p∈l,¬(p.2<=a/\a<p.2+3+(bj gp p.1).len))->wd (ld d gp order news l ws) a=wd ws a
 | [],_,_,_,_,_=>rfl
 | p::l,ws,a,h0,h1,h2=>by show wd (ld d gp order news l (vw d gp order news ws p.1 p.2)) a=_;rw [Et l _ a h0 (fun q A=>by rw [zwi];exact h1 q (List.mem_cons_of_mem _ A)) fun q A=>h2 q (List.mem_cons_of_mem _ A),zxh (h1 p (List.mem_cons_self ..)) h0,if_neg (h2 p (List.mem_cons_self ..))]
theorem zxj:∀(l:List (Int×Int)) (ws:List Int) (a:Int),0<=a->(∀p∈l,so gp ws.length p)->l.Pairwise (fun p q=>p.2+3+(bj gp p.1).len<=q.2)->∀p∈l,p.2<=a->a<p.2+3+(bj gp p.1).len->wd (ld d gp order news l ws) a=ug d gp order news p.1.toNat (a - p.2).toNat
 | [],_,_,_,_,_,_,A,_,_=>by cases A
 | q::l,ws,a,h0,h1,h2,p,A,h3,h4=>by
   rw [List.pairwise_cons]at h2;show wd (ld d gp order news l (vw d gp order news ws q.1 q.2)) a=_;have D:∀p∈l,so gp (vw d gp order news ws q.1 q.2).length p:=fun p A=>by rw [zwi];exact h1 p (List.mem_cons_of_mem _ A)
   rcases List.mem_cons.1 A with rfl | A
   ·rw [Et l _ a h0 D fun q E=>by have:=h2.1 q E;omega,zxh (h1 p (List.mem_cons_self ..)) h0,if_pos ⟨h3,h4⟩]
   exact zxj l _ a h0 D h2.2 p A h3 h4
theorem zxk (ts:List bk) (ws:List Int):vb d gp order news ts ws=ld d gp order news (ts.map fun t=>(t.loc,t.loc)) ws:=by unfold vb ld;rw [List.foldl_map]
end
theorem zxl {l m:List Int} (D:l.length=m.length) (h:∀i:Nat,i<l.length->wd l i=wd m i):l=m:=by refine List.ext_getElem D fun i h1 A=>?_;have:=h i h1;rwa [pi h1,pi A]at this
theorem zxm (n:Nat) (a:Int):wd (List.replicate n 0) a=0:=by unfold wd;rw [List.getElem?_replicate];split<;>rfl
theorem zxn {α β γ:Type} (f:α->β) (g:α->γ):∀l:List α,(l.map f).zip (l.map g)=l.map fun x=>(f x,g x)
 | []=>rfl
 | x::l=>by show (f x,g x)::(l.map f).zip (l.map g)=_;rw [zxn f g l];rfl
theorem zxo {d:bd} {h:ar} {ts:List bk} (r:Right d h ts):wd h.ab 0=0/\∀a:Int,h.ba<=a->wd h.ab a=0:=by
 have I:=r.sized.ae;have J:=r.sized.len;have L:=r.sized.ba;have F:=List.any_eq_false.1 r.rest;have A:∀x∈km h,x=0:=fun x E=>by have:=F x E;simpa using this
 unfold km at A;constructor
 ·rw [show (0:Int)=((0:Nat):Int) from rfl,pi (by omega)];exact A _ (List.mem_append_left _ (List.mem_take_iff_getElem.2 ⟨0,by omega,rfl⟩))
 intro a G;by_cases D:a.toNat<h.ab.length
 ·rw [show a=((a.toNat:Nat):Int) by omega,pi D];exact A _ (List.mem_append_right _ (List.mem_append_right _ (List.mem_drop_iff_getElem.2 ⟨a.toNat - h.ba.toNat,by omega,by congr 1;omega⟩)))
 unfold wd;rw [List.getElem?_eq_none (by omega)];rfl
theorem zxp {n:Nat} {fs:List (List bq)} {ws:List Int} {A:Int} :∀(f:Nat) (lo:Int) (ts:List bk),(A - lo).toNat<=f->b9 n fs ws lo A=some ts->∀a,lo<=a->a<A->∃t∈ts,t.loc<=a/\a<t.fin
 | f,lo,ts,hf,e,a,h1,h2=>by
   have D:lo<A:=by omega
   by_cases E:gr n fs ws lo A=true
   ·rw [Cb D E]at e;cases hx:b9 n fs ws (bj ws lo).fin A with
    | none=>rw [hx]at e;cases e
    | some ts'=>
      rw [hx]at e;have e:=ojq e;subst e;have G:=Ay E;by_cases hc:a<(bj ws lo).fin
      ·exact ⟨_,List.mem_cons_self ..,h1,hc⟩
      match f,hf with
      | 0,hf=>omega
      | f+1,hf=>
        obtain ⟨t,F,q⟩:=zxp f _ ts' (by omega) hx a (by omega) h2;exact ⟨t,List.mem_cons_of_mem _ F,q⟩
   rw [Cc D E]at e;cases e
theorem Fv {n:Nat} {fs:List (List bq)} {ws:List Int} {A:Int} :∀(f:Nat) (lo:Int) (ts:List bk),(A - lo).toNat<=f->b9 n fs ws lo A=some ts->ts.Pairwise (fun t u=>t.fin<=u.loc)
 | f,lo,ts,hf,e=>by
   by_cases D:lo<A
   ·by_cases E:gr n fs ws lo A=true
    ·rw [Cb D E]at e;cases hx:b9 n fs ws (bj ws lo).fin A with
     | none=>rw [hx]at e;cases e
     | some ts'=>
       rw [hx]at e;have e:=ojq e;subst e;have G:=Ay E;match f,hf with
       | 0,hf=>omega
       | f+1,hf=>
         refine List.pairwise_cons.2 ⟨fun u F=>?_,Fv f _ ts' (by omega) hx⟩;exact (zsf f _ ts' (by omega) hx u F).1
    rw [Cc D E]at e;cases e
   rw [A6 D]at e;have e:=ojq e;subst e;exact List.Pairwise.nil
theorem zxr:∀ {l:List (Int×bk)} {lo hi:Int},Laid lo l hi->∀a,lo<=a->a<hi->∃p∈l,p.2.loc<=a/\a<p.2.fin
 | [],lo,hi,h,a,h1,h2=>by have h:lo=hi:=h;omega
 | q::l,lo,hi,h,a,h1,h2=>by
   by_cases hc:a<q.2.fin
   ·exact ⟨q,List.mem_cons_self ..,by rw [h.1];exact h1,hc⟩
   obtain ⟨p,A,e⟩:=zxr h.2 a (by omega) h2;exact ⟨p,List.mem_cons_of_mem _ A,e⟩
theorem zxs:∀ {l:List (Int×bk)} {lo hi:Int},Laid lo l hi->(∀p∈l,0<=p.2.len)->l.Pairwise (fun p q=>p.2.fin<=q.2.loc)
 | [],_,_,_,_=>List.Pairwise.nil
 | q::l,lo,hi,h,hl=>by have A:∀p∈l,0<=p.2.len:=fun p D=>hl p (List.mem_cons_of_mem _ D);exact List.pairwise_cons.2 ⟨fun p D=>((Cq h.2 A).2 p D).1,zxs h.2 A⟩
theorem zxt {d:bd} {h:ar} {ts E:List bk} (r:Right d h ts) (hl:0<=leftD h) (e2:b9 d.aj.length d.fields h.ab (h.ae+1) h.ba=some E) {s:ga} (x:jh d h ts s (As d.fields ts h.am s.mv.length s.mv)):
 qw s.h=ny d h E (s.mv.map (·.1)) h.ba:=by
 have z:=r.sized;have z1:=z.ae;have z2:=z.old;have z3:=z.len;have z4:=z.bo;have z5:=z.ba;have a6:=x.len;have a9:=x.otopLe r hl;have I:=Cq x.laid (x.lens r);have ap:∀p∈s.mv,p.2.len=wd h.ab (p.1+1):=fun p A=>by obtain ⟨t,D,hy,q1,q2,q3,-⟩:=x.fr p A;rw [q3,q1];exact congrArg bk.len (xw r D (uj.1 hy).2).eq
 obtain ⟨n1,n2⟩:=zxc (ws:=h.ab) x.laid ap;have Y:∀v∈s.mv.map (·.1),dm h v=true:=fun v hv=>by obtain ⟨p,A,rfl⟩:=List.mem_map.1 hv;obtain ⟨t,-,hy,e,-⟩:=x.fr p A;rw [e];exact hy
 have a8:(0:Int)∉s.mv.map (·.1):=fun hc=>by have:=(uj.1 (Y _ hc)).1;omega
 have ax:=zxf x.nd a8;have ai:∀t∈E,t∈ts:=fun t D=>by obtain ⟨ys,be,f1,f2,rfl⟩:=xu r.both;rw [e2]at f2;have f2:=ojq f2;subst f2;exact List.mem_append_right _ D
 have V:∀t∈E,h.ae<t.loc/\t.fin<=h.ba/\t=bj h.ab t.loc/\0<=t.len:=fun t D=>by have q:=sc e2 t D;have q1:=q.1;exact ⟨by omega,q.2.1,q.2.2.1,vd q.2.2.2.2⟩
 have au:∀p∈E.map (fun t=>(t.loc,t.loc)),so h.ab h.ab.length p:=fun p A=>by obtain ⟨t,D,rfl⟩:=List.mem_map.1 A;obtain ⟨q1,q2,q3,q4⟩:=V t D;have q5:t.fin=t.loc+3+t.len:=rfl;exact ⟨by show 0<=t.loc;omega,by show 0<=t.loc;omega,by show 0<=(bj h.ab t.loc).len;rw [<-q3];exact q4,by show t.loc+3+(bj h.ab t.loc).len<=_;rw [<-q3];omega⟩
 have W:∀p∈s.mv,bj h.ab p.1=⟨p.1,p.2.tag,p.2.len,p.2.hash⟩:=fun p A=>by obtain ⟨t,D,hy,q1,q2,q3,q4⟩:=x.fr p A;rw [q1,q2,q3,q4];exact (xw r D (uj.1 hy).2).eq.symm
 have O:∀p∈s.mv.map (fun p=>(p.1,p.2.loc)),so h.ab h.ab.length p:=fun p A=>by obtain ⟨t,D,rfl⟩:=List.mem_map.1 A;have q1:=I.2 t D;have q2:=(uj.1 (Y _ (List.mem_map.2 ⟨t,D,rfl⟩))).1;have q3:=x.lens r t D;have q4:t.2.fin=t.2.loc+3+t.2.len:=rfl;exact ⟨by show 0<=t.1;omega,by show 0<=t.2.loc;omega,by show 0<=(bj h.ab t.1).len;rw [W t D];exact q3,by show t.2.loc+3+(bj h.ab t.1).len<=_;rw [W t D];show t.2.loc+3+t.2.len<=_;omega⟩
 have av:(E.map fun t=>(t.loc,t.loc)).Pairwise (fun p q=>p.2+3+(bj h.ab p.1).len<=q.2):=by refine List.pairwise_map.2 (List.Pairwise.imp_of_mem (fun {a b} L hb ad=>?_) (Fv _ _ E (nlq _) e2));show a.loc+3+(bj h.ab a.loc).len<=b.loc;rw [<-(V a L).2.2.1];exact ad
 have aw:(s.mv.map fun p=>(p.1,p.2.loc)).Pairwise (fun p q=>p.2+3+(bj h.ab p.1).len<=q.2):=by refine List.pairwise_map.2 (List.Pairwise.imp_of_mem (fun {a b} L hb ad=>?_) (zxs x.laid (x.lens r)));show a.2.loc+3+(bj h.ab a.1).len<=b.2.loc;rw [W a L];exact ad
 have hw:(qw s.h).ab=(ny d h E (s.mv.map (·.1)) h.ba).ab:=by
  show ma s.h.ab 1 (List.replicate s.h.ae.toNat 0)=ld d h.ab (s.mv.map (·.1)) (gq h.ab h.ba (s.mv.map (·.1))) ((s.mv.map (·.1)).zip (gq h.ab h.ba (s.mv.map (·.1)))) (vb d h.ab (s.mv.map (·.1)) (gq h.ab h.ba (s.mv.map (·.1))) E (List.replicate h.ab.length 0));rw [n1,zxn,zxk];have bc:=x.yo;have aa:1+(List.replicate s.h.ae.toNat (0:Int)).length<=s.h.ab.length:=by rw [List.length_replicate];omega
  have X:(ld d h.ab (s.mv.map (·.1)) (s.mv.map (·.2.loc)) (E.map fun t=>(t.loc,t.loc)) (List.replicate h.ab.length 0)).length=h.ab.length:=by rw [zwm,List.length_replicate]
  refine zxl (by rw [Cp aa,zwm,X,a6]) fun i hi=>?_;rw [Cp aa]at hi;have ao:∀a:Int,0<=a->a<h.ba->wd (ld d h.ab (s.mv.map (·.1)) (s.mv.map (·.2.loc)) (s.mv.map fun p=>(p.1,p.2.loc)) (ld d h.ab (s.mv.map (·.1)) (s.mv.map (·.2.loc)) (E.map fun t=>(t.loc,t.loc)) (List.replicate h.ab.length 0))) a=wd (ld d h.ab (s.mv.map (·.1)) (s.mv.map (·.2.loc)) (E.map fun t=>(t.loc,t.loc)) (List.replicate h.ab.length 0)) a:=fun a a0 a1=>Et _ _ a a0 (by rw [X];exact O) fun p A hc=>by obtain ⟨t,D,rfl⟩:=List.mem_map.1 A;have q1:=(I.2 t D).1;have F:t.2.loc<=a:=hc.1;omega
  have G:∀p∈E.map (fun t=>(t.loc,t.loc)),so h.ab (List.replicate h.ab.length (0:Int)).length p:=by rw [List.length_replicate];exact au
  by_cases c1:(i:Int)<=h.ae
  ·rw [ao i (by omega) (by omega),Et _ _ _ (by omega) G (fun p A hc=>by
    obtain ⟨t,D,rfl⟩:=List.mem_map.1 A;have q1:=(V t D).1;have F:t.loc<=(i:Int):=hc.1;omega),zxm]
   by_cases c0:i=0
   ·subst c0;rw [zuk aa (by omega) (by omega),x.low r (by omega) (by omega)];exact (zxo r).1
   rw [zuj (by omega) (by omega) (by rw [List.length_replicate];omega),zxm]
  rw [zuk aa (by omega) (by rw [List.length_replicate];omega)];by_cases c2:(i:Int)<h.ba
  ·obtain ⟨t,D,t1,t2⟩:=zxp _ _ E (nlq _) e2 i (by omega) c2;obtain ⟨q1,q2,q3,q4⟩:=V t D;have q5:t.fin=t.loc+3+t.len:=rfl;have af:=zxj (d:=d) (order:=s.mv.map (·.1)) (news:=s.mv.map (·.2.loc)) _ _ (i:Int) (by omega) G av (t.loc,t.loc) (List.mem_map.2 ⟨t,D,rfl⟩) t1 (by show (i:Int)<t.loc+3+(bj h.ab t.loc).len;rw [<-q3];omega);rw [ao i (by omega) c2,af];show _=ug d h.ab _ _ t.loc.toNat ((i:Int) - t.loc).toNat;unfold ug;rw [show ((t.loc.toNat:Nat):Int)=t.loc by omega,<-q3,show ((t.loc.toNat+((i:Int) - t.loc).toNat:Nat):Int)=(i:Int) by omega];have J:=x.srcLow r c2;have an:As d.fields ts h.am s.mv.length s.mv (i:Int)->t.loc∈h.am/\(i:Int)∈refsOf d.fields t:=by
    rintro (⟨n,Z,u,hu,rfl,L⟩ | ⟨j,p,hj,A,L⟩)
    ·obtain ⟨_,_,_,al⟩:=Fu r Z;have qu:=(A0 r hu al).2.2.2.2 _ L;rcases zu8 r (ai t D) hu with e | e | e
     ·subst e;exact ⟨Z,L⟩
     ·omega
     omega
    obtain ⟨n,e,hn,-⟩:=y9 L;have:=(I.2 p (List.mem_of_getElem? A)).1;omega
   by_cases N:(decide (3<=((i:Int) - t.loc).toNat)&&jp d.fields t (((i:Int) - t.loc).toNat - 3))=true
   ·rw [if_pos N,ax];rw [Bool.and_eq_true,decide_eq_true_eq]at N;have ac:(i:Int)∈refsOf d.fields t:=by
     have:=Co (x:=t) (n:=((i:Int) - t.loc).toNat - 3) (by omega) N.2;rwa [show t.loc+3+((((i:Int) - t.loc).toNat - 3:Nat):Int)=(i:Int) by omega]at this
    by_cases cn:t.loc∈h.am
    ·rw [x.yes i (by omega) (by omega) (Or.inl ⟨t.loc,cn,t,ai t D,rfl,ac⟩),J]
    rw [x.A3 i (by omega) (by omega) (fun hc=>cn (an hc).1),J];unfold jo;rw [zur]
    ·rfl
    intro hc;have a7:=Y _ hc;have a5:=List.any_eq_false.1 r.un t (ai t D);refine a5 ?_;unfold ia ep;rw [Bool.and_eq_true,Bool.and_eq_true,decide_eq_true_eq];refine ⟨⟨q1,?_⟩,List.any_eq_true.2 ⟨_,ac,a7⟩⟩;cases hcc:h.am.contains t.loc with
    | false=>rfl
    | true=>exact absurd (List.contains_iff_mem.1 hcc) cn
   rw [if_neg N,x.A3 i (by omega) (by omega) (fun hc=>N (by
    obtain ⟨n,e,hn,ak⟩:=y9 (an hc).2;rw [show ((i:Int) - t.loc).toNat - 3=n by omega,ak,decide_eq_true (by omega:3<=((i:Int) - t.loc).toNat)];rfl)),J]
  by_cases c3:(i:Int)<s.h.ba
  ·obtain ⟨p,A,t1,t2⟩:=zxr x.laid i (by omega) c3;have q3:=W p A;have q4:=x.lens r p A;have q5:p.2.fin=p.2.loc+3+p.2.len:=rfl;have q6:=I.2 p A;have q7:=(uj.1 (Y _ (List.mem_map.2 ⟨p,A,rfl⟩))).1;have af:=zxj (d:=d) (order:=s.mv.map (·.1)) (news:=s.mv.map (·.2.loc)) (s.mv.map fun p=>(p.1,p.2.loc)) (ld d h.ab (s.mv.map (·.1)) (s.mv.map (·.2.loc)) (E.map fun t=>(t.loc,t.loc)) (List.replicate h.ab.length 0)) (i:Int) (by omega) (by rw [X];exact O) aw (p.1,p.2.loc) (List.mem_map.2 ⟨p,A,rfl⟩) t1 (by show (i:Int)<p.2.loc+3+(bj h.ab p.1).len;rw [q3];exact t2);rw [af];show _=ug d h.ab _ _ p.1.toNat ((i:Int) - p.2.loc).toNat;unfold ug;rw [show ((p.1.toNat:Nat):Int)=p.1 by omega,show ((p.1.toNat+((i:Int) - p.2.loc).toNat:Nat):Int)=p.1+((i:Int) - p.2.loc) by omega,Cr (x:=bj h.ab p.1) (y:=p.2) (by rw [q3])];have J:=zup (p:=p) t1 t2 x.laid (x.lens r) A;by_cases N:(decide (3<=((i:Int) - p.2.loc).toNat)&&jp d.fields p.2 (((i:Int) - p.2.loc).toNat - 3))=true
   ·rw [if_pos N,ax];rw [Bool.and_eq_true,decide_eq_true_eq]at N;have ac:(i:Int)∈refsOf d.fields p.2:=by
     have:=Co (x:=p.2) (n:=((i:Int) - p.2.loc).toNat - 3) (by omega) N.2;rwa [show p.2.loc+3+((((i:Int) - p.2.loc).toNat - 3:Nat):Int)=(i:Int) by omega]at this
    obtain ⟨j,hj,ej⟩:=List.mem_iff_getElem.1 A;rw [x.yes i (by omega) (by omega) (Or.inr ⟨j,p,hj,by rw [List.getElem?_eq_getElem hj,ej],ac⟩),J]
   rw [if_neg N,x.A3 i (by omega) (by omega),J];rintro (⟨n,Z,u,hu,rfl,L⟩ | ⟨j,q,hj,hq,L⟩)
   ·obtain ⟨_,_,_,al⟩:=Fu r Z;have qu:=A0 r hu al;have:=qu.2.2.2.2 _ L;omega
   obtain ⟨n,e,hn,ak⟩:=y9 L;have bb:=List.mem_of_getElem? hq;have hf:q.2.fin=q.2.loc+3+q.2.len:=rfl;obtain ⟨k,hk,ek⟩:=List.mem_iff_getElem.1 A;have ah:s.mv[k]? =some p:=by rw [List.getElem?_eq_getElem hk,ek]
   have a2:j=k:=by
    rcases Nat.lt_trichotomy j k with a3 | ay | az
    ·have:=zvb _ x.laid (x.lens r) a3 hq ah;omega
    ·exact ay
    have:=zvb _ x.laid (x.lens r) az ah hq;omega
   subst a2;rw [ah]at hq;have hq:=ojq hq;subst hq;refine N ?_;rw [show ((i:Int) - p.2.loc).toNat - 3=n by omega,ak,decide_eq_true (by omega:3<=((i:Int) - p.2.loc).toNat)];rfl
  rw [Et _ _ (i:Int) (by omega) (by rw [X];exact O) (fun p A hc=>by
   obtain ⟨t,D,rfl⟩:=List.mem_map.1 A;have q1:=(I.2 t D).2;have q5:t.2.fin=t.2.loc+3+t.2.len:=rfl;have F:(i:Int)<t.2.loc+3+(bj h.ab t.1).len:=hc.2;rw [W t D]at F;have F:(i:Int)<t.2.loc+3+t.2.len:=F;omega),Et _ _ _ (by omega) G (fun p A hc=>by
   obtain ⟨t,D,rfl⟩:=List.mem_map.1 A;obtain ⟨q1,q2,q3,q4⟩:=V t D;have q5:t.fin=t.loc+3+t.len:=rfl;have F:(i:Int)<t.loc+3+(bj h.ab t.loc).len:=hc.2;rw [<-q3]at F;omega),zxm,x.A3 i (by omega) (by omega) (fun hc=>by have:=(x.E8 _ hc).2.1;omega),zuo fun p A hc=>by have:=(I.2 p A).2;omega]
  exact (zxo r).2 _ (by omega)
 have a4:ny d h E (s.mv.map (·.1)) h.ba=⟨(ny d h E (s.mv.map (·.1)) h.ba).ab,h.ae,h.old,1,s.h.ba,[],h.next⟩:=by show ar.mk _ _ _ _ (toR h.ab h.ba (s.mv.map (·.1))) _ _=_;rw [n2];rfl
 rw [a4,<-hw];show ar.mk (qw s.h).ab s.h.ae s.h.old 1 s.h.ba [] s.h.next=_;rw [x.yo,x.ol,x.nx]
theorem zxu {d:bd} {h:ar} {ts X:List bk} (r:Right d h ts) (J:0<=leftD h) (Y:b9 d.aj.length d.fields h.ab (h.ae+1) h.ba=some X) (rs:List Int) (hr:∀v∈rs,b8 ts v=true):
 im d h rs=ny d h X (kv d h rs) h.ba/\j8 h rs=zn h (kv d h rs) h.ba rs/\(kv d h rs).length<h.ab.length/\∀k,(E:k<(kv d h rs).length)->∃a:Nat,(kv d h rs)[k]=a/\a+2<h.ab.length/\(a:Int)+3+(bj h.ab a).len<=h.ab.length/\pm d (bj h.ab a)/\0<=toR h.ab h.ba ((kv d h rs).take k)/\toR h.ab h.ba ((kv d h rs).take k)+3+(bj h.ab a).len<=h.ab.length:=by
 obtain ⟨x,e,Z⟩:=zxb r J rs hr;have z:=r.sized;have z1:=z.ae;have z2:=z.old;have z3:=z.len;have z4:=z.bo;have z5:=z.ba;have F:∀p∈(ie d h rs).mv,p.2.len=wd h.ab (p.1+1):=fun p D=>by obtain ⟨t,O,I,q1,q2,q3,-⟩:=x.fr p D;rw [q3,q1];exact congrArg bk.len (xw r O (uj.1 I).2).eq
 obtain ⟨W,n2⟩:=zxc (ws:=h.ab) x.laid F;have ad:=x.otopLe r J;have N:=Cq x.laid (x.lens r);have L:=x.count r J;rw [<-e];refine ⟨zxt r J Y x,?_,by rw [List.length_map];exact L,fun k E=>?_⟩
 ·rw [Z];unfold zn;rw [W];refine List.map_congr_left fun v _=>(zxf x.nd (fun hc=>?_) v).symm;obtain ⟨p,D,e0⟩:=List.mem_map.1 hc;obtain ⟨t,-,I,q,-⟩:=x.fr p D;have:=(uj.1 I).1;omega
 rw [List.length_map]at E;have D:=gm E;obtain ⟨t,O,I,q1,q2,q3,q4⟩:=x.fr _ D;have y:=xw r O (uj.1 I).2;have y1:=y.lo;have y2:=y.fin;have y3:=y.fit.lo;have y4:t.fin=t.loc+3+t.len:=rfl;have A:((t.loc.toNat:Nat):Int)=t.loc:=by omega
 have aa:=N.2 _ D;have ac:(ie d h rs).mv[k].2.fin=(ie d h rs).mv[k].2.loc+3+(ie d h rs).mv[k].2.len:=rfl;have G:toR h.ab h.ba (((ie d h rs).mv.map (·.1)).take k)=(ie d h rs).mv[k].2.loc:=by have V:=zxd h.ab ((ie d h rs).mv.map (·.1)) h.ba k (by rw [List.length_map];exact E);rw [W,List.getElem?_map,List.getElem?_eq_getElem E]at V;exact (ojq V).symm
 refine ⟨t.loc.toNat,by rw [List.getElem_map,q1];exact A.symm,by omega,?_,?_,?_,?_⟩
 ·rw [A,<-y.eq];omega
 ·rw [A,<-y.eq];exact y.fit
 ·rw [G];omega
 rw [G,A,<-y.eq];omega
def nh (gp:List Int):Int->List (Int×Int)->Int->Prop
 | lo,[],hi=>lo=hi
 | lo,p::r,hi=>p.2=lo/\nh gp (lo+3+(bj gp p.1).len) r hi
def nk (gp:List Int) (p:Int×Int):bk:=⟨p.2,(bj gp p.1).tag,(bj gp p.1).len,(bj gp p.1).hash⟩
structure Kept (d:bd) (h:ar) (ts:List bk) (l:List (Int×Int)) (tau:Int->Int) (hi:Int):Prop where
 src:∀p∈l,∃t∈ts,t.loc=p.1
 laid:nh h.ab (h.ae+1) l hi
 nd:(l.map (·.1)).Nodup
 refs:∀p∈l,∀a∈refsOf d.fields (bj h.ab p.1),wd h.ab a=0\/∃q∈l,q.1=wd h.ab a
 tq:∀q∈l,tau q.1=q.2
 zero:tau 0=0
 top:hi<=h.ab.length
structure Into (d:bd) (h:ar) (l:List (Int×Int)) (tau:Int->Int) (hi:Int) (x:ar):Prop where
 len:x.ab.length=h.ab.length
 yo:x.ae=h.ae
 ol:x.old=h.old
 yt:x.bo=1
 ot:x.ba=hi
 no:x.am= []
 nx:x.next=h.next
 word:∀p∈l,∀i:Nat,(i:Int)<3+(bj h.ab p.1).len->wd x.ab (p.2+i)=if (decide (3<=i)&&jp d.fields (bj h.ab p.1) (i - 3))=true then tau (wd h.ab (p.1+i)) else wd h.ab (p.1+i)
 rest:∀a:Int,0<=a->(a<=h.ae\/hi<=a)->wd x.ab a=0
theorem Dv {gp:List Int} :∀ {l:List (Int×Int)} {lo hi:Int},nh gp lo l hi->(∀p∈l,0<=(bj gp p.1).len)->lo<=hi/\∀p∈l,lo<=p.2/\p.2+3+(bj gp p.1).len<=hi
 | [],lo,hi,h,_=>⟨Int.le_of_eq h,fun p A=>by cases A⟩
 | q::r,lo,hi,h,hl=>by
   have D:=Dv h.2 fun p A=>hl p (List.mem_cons_of_mem _ A);have h0:=hl q (List.mem_cons_self ..);have E:=h.1;refine ⟨by omega,fun p A=>?_⟩;rcases List.mem_cons.1 A with rfl | A
   ·exact ⟨by omega,by omega⟩
   have:=D.2 p A;exact ⟨by omega,this.2⟩
theorem zxw {α β:Type} {f:α->β} :∀ {l:List α},(l.map f).Nodup->∀ {x y:α},x∈l->y∈l->f x=f y->x=y
 | [],_,_,_,hx,_,_=>by cases hx
 | a::l,hn,x,y,hx,hy,e=>by
   rw [List.map_cons,List.nodup_cons]at hn;rcases List.mem_cons.1 hx with D | D
   ·rcases List.mem_cons.1 hy with A | A
    ·rw [D,A]
    exact absurd (List.mem_map.2 ⟨y,A,by rw [<-e,D]⟩) hn.1
   rcases List.mem_cons.1 hy with A | A
   ·exact absurd (List.mem_map.2 ⟨x,D,by rw [e,A]⟩) hn.1
   exact zxw hn.2 D A e
section
variable {d:bd} {h x:ar} {ts:List bk} {l:List (Int×Int)} {tau:Int->Int} {hi:Int}
theorem zxx (r:Right d h ts) {t:bk} (A:t∈ts):t=bj h.ab t.loc/\dq d.aj.length t.tag=true/\cg d.fields t.tag t.len=true/\1<=t.loc:=by
 have z:=r.sized;have I:=z.ae;obtain ⟨G,F,D,E,rfl⟩:=xu r.both;rcases List.mem_append.1 A with A | A
 ·have q:=sc D t A;exact ⟨q.2.2.1,q.2.2.2.1,q.2.2.2.2,q.1⟩
 have q:=sc E t A;have:=q.1;exact ⟨q.2.2.1,q.2.2.2.1,q.2.2.2.2,by omega⟩
theorem Kept.at (k:Kept d h ts l tau hi) (r:Right d h ts) {p:Int×Int} (D:p∈l):∃t∈ts,t.loc=p.1/\bj h.ab p.1=t/\dq d.aj.length t.tag=true/\cg d.fields t.tag t.len=true/\1<=p.1/\0<=t.len:=by obtain ⟨t,A,e⟩:=k.src p D;obtain ⟨q1,q2,q3,q4⟩:=zxx r A;exact ⟨t,A,e,by rw [<-e];exact q1.symm,q2,q3,by omega,vd q3⟩
theorem Kept.lens (k:Kept d h ts l tau hi) (r:Right d h ts):∀p∈l,0<=(bj h.ab p.1).len:=fun p A=>by obtain ⟨t,-,-,e,-,-,-,q⟩:=k.at r A;rw [e];exact q
theorem Into.head (n:Into d h l tau hi x) (k:Kept d h ts l tau hi) (r:Right d h ts) {p:Int×Int} (A:p∈l):bj x.ab p.2=nk h.ab p:=by have h0:=k.lens r p A;have D:=n.word p A 0 (by omega);have E:=n.word p A 1 (by omega);have F:=n.word p A 2 (by omega);simp at D E F;unfold bj nk;rw [D,E,F];rfl
theorem Into.walk (n:Into d h l tau hi x) (k:Kept d h ts l tau hi) (r:Right d h ts):∀(m:List (Int×Int)) (lo:Int),(∀p∈m,p∈l)->nh h.ab lo m hi->b9 d.aj.length d.fields x.ab lo hi=some (m.map (nk h.ab))
 | [],lo,_,A=>by have A:lo=hi:=A;rw [A6 (by omega)];rfl
 | p::m,lo,hs,A=>by
   have F:=hs p (List.mem_cons_self ..);have N:=A.1;have E:=Dv A fun q G=>k.lens r q (hs q G);have X:=E.2 p (List.mem_cons_self ..);obtain ⟨t,-,-,L,q1,q2,-,q3⟩:=k.at r F;have D:=n.head k r F;rw [N]at D;have W:=k.lens r p F;have J:(bj x.ab lo).fin=lo+3+(bj h.ab p.1).len:=by show lo+3+(bj x.ab lo).len=_;rw [D];rfl
   have I:gr d.aj.length d.fields x.ab lo hi=true:=by
    unfold gr;have O:wd x.ab lo=t.tag:=by rw [<-L];exact congrArg bk.tag D
    have V:wd x.ab (lo+1)=t.len:=by rw [<-L];exact congrArg bk.len D
    rw [J,O,V,q1,q2,decide_eq_true (by omega:lo+3<=hi),decide_eq_true (by omega:lo+3+(bj h.ab p.1).len<=hi)];rfl
   rw [Cb (by omega) I,J,Into.walk n k r m _ (fun q G=>hs q (List.mem_cons_of_mem _ G)) A.2,D];rfl
theorem Into.ref (n:Into d h l tau hi x) (k:Kept d h ts l tau hi) {p:Int×Int} (A:p∈l) {m:Nat} (G:(m:Int)<(bj h.ab p.1).len) (D:jp d.fields (bj h.ab p.1) m=true):wd x.ab (p.2+3+m)=tau (wd h.ab (p.1+3+m))/\(wd h.ab (p.1+3+m)=0\/∃q∈l,q.1=wd h.ab (p.1+3+m)):=by
 have w:=n.word p A (3+m) (by omega);rw [show 3+m - 3=m by omega,D,decide_eq_true (by omega:3<=3+m),Bool.and_true,if_pos rfl]at w;have E:p.2+((3+m:Nat):Int)=p.2+3+m:=by omega
 have F:p.1+((3+m:Nat):Int)=p.1+3+m:=by omega
 rw [E,F]at w;refine ⟨w,k.refs p A _ ?_⟩;exact Co (x:=bj h.ab p.1) G D
theorem Into.right (n:Into d h l tau hi x) (k:Kept d h ts l tau hi) (r:Right d h ts):Right d x (l.map (nk h.ab)):=by
 have z:=r.sized;have z1:=z.ae;have z2:=z.old;have z3:=z.len;have W:=Dv k.laid (k.lens r);have ac:=k.top;have G:=r.B8;unfold jx at G;simp only [Bool.and_eq_true,decide_eq_true_eq]at G;have F:∀p∈l,∀a∈refsOf d.fields (nk h.ab p),wd x.ab a=0\/∃q∈l,q.2=wd x.ab a:=fun p A a J=>by
  obtain ⟨m,e,X,hr⟩:=y9 J;rw [Cr (x:=nk h.ab p) (y:=bj h.ab p.1) rfl]at hr;obtain ⟨f1,I⟩:=n.ref k A X hr;have e:a=p.2+3+m:=e;rw [e,f1];rcases I with I | ⟨q,D,I⟩
  ·rw [I,k.zero];exact Or.inl rfl
  rw [<-I,k.tq q D];exact Or.inr ⟨q,D,rfl⟩
 refine ⟨r.ok,?_,?_,?_,?_,?_,?_,?_,?_,?_,?_,?_⟩
 ·have:=r.parts;unfold j6 at this ⊢;rw [n.yo,n.ol];exact this
 ·have:=r.ab;unfold jg at this ⊢;rw [n.yo,n.ol,n.len];exact this
 ·unfold jx;rw [n.yt,n.yo,n.ot,n.ol,n.nx,decide_eq_true (by omega:(1:Int)<=1),decide_eq_true (by omega:(1:Int)<=h.ae+1),decide_eq_true (by omega:h.ae+1<=hi),decide_eq_true (by omega:hi<=h.ae+h.old+1),decide_eq_true G.2];rfl
 ·unfold io;rw [n.yt,A6 (by omega),n.yo,n.ot,n.walk k r l _ (fun p A=>A) k.laid];rfl
 ·rw [List.any_map,List.any_eq_false];intro p A;obtain ⟨t,ht,-,e,-⟩:=k.at r A;have:=List.any_eq_false.1 r.hash t ht;unfold jd at this;show ¬(decide ((bj h.ab p.1).hash<1)||decide (x.next<=(bj h.ab p.1).hash))=true;rw [e,n.nx];exact this
 ·rw [List.map_map];have N:∀m:List (Int×Int),(∀p∈m,p∈l)->(m.map (·.1)).Nodup->(m.map (bk.hash∘nk h.ab)).Nodup:=by
   intro m;induction m with
   | nil=>intro _ _;exact List.nodup_nil
   | cons p m ih=>
     intro Z Y;rw [List.map_cons,List.nodup_cons]at Y;rw [List.map_cons,List.nodup_cons];refine ⟨fun hc=>?_,ih (fun q D=>Z q (List.mem_cons_of_mem _ D)) Y.2⟩;obtain ⟨q,D,e⟩:=List.mem_map.1 hc;obtain ⟨t,ht,et,O,-⟩:=k.at r (Z p (List.mem_cons_self ..));obtain ⟨u,hu,eu,V,-⟩:=k.at r (Z q (List.mem_cons_of_mem _ D));have e:(bj h.ab q.1).hash=(bj h.ab p.1).hash:=e;rw [O,V]at e;have:=zxw r.dup hu ht e;subst this;exact Y.1 (List.mem_map.2 ⟨q,D,by rw [<-eu,et]⟩)
  exact N l (fun p A=>A) k.nd
 ·rw [List.any_map,List.any_eq_false];intro p A;show ¬(ep d.fields x.ab (nk h.ab p) fun n=>!b8 (l.map (nk h.ab)) n)=true;unfold ep;rw [Bool.not_eq_true,List.any_eq_false];intro a J;show ¬(!b8 (l.map (nk h.ab)) (wd x.ab a))=true;rw [zud];rcases F p A a J with e | ⟨q,D,e⟩
  ·rw [e];simp
  have X:wd x.ab a∈(l.map (nk h.ab)).map bk.loc:=by rw [List.map_map];exact List.mem_map.2 ⟨q,D,e⟩
  rw [List.contains_iff_mem.2 X];simp
 ·rw [List.any_eq_false];intro v E;have hz:∀i:Nat,(hl:i<x.ab.length)->((i:Int)<=h.ae\/hi<=(i:Int))->x.ab[i]=0:=fun i hl hc=>by
   have:=n.rest i (by omega) hc;rwa [pi hl]at this
  have aa:v=0:=by
   unfold km at E;rw [n.yo,n.yt,n.ot]at E;rcases List.mem_append.1 E with E | E
   ·obtain ⟨i,L,e⟩:=List.mem_take_iff_getElem.1 E;rw [<-e];exact hz i (by omega) (by omega)
   rcases List.mem_append.1 E with E | E
   ·obtain ⟨i,L,e⟩:=List.mem_take_iff_getElem.1 (List.mem_of_mem_drop E);rw [<-e];exact hz i (by omega) (by omega)
   obtain ⟨i,L,e⟩:=List.mem_drop_iff_getElem.1 E;rw [<-e];exact hz _ (by omega) (by omega)
  rw [aa];simp
 ·rw [n.no];rfl
 ·rw [n.no];rfl
 rw [List.any_map,List.any_eq_false];intro p A;show ¬ia d x (nk h.ab p)=true;unfold ia ep;rw [Bool.not_eq_true,Bool.and_eq_false_iff];refine Or.inr (List.any_eq_false.2 fun a J hc=>?_);have hc:=uj.1 hc;rw [n.yo]at hc;rcases F p A a J with e | ⟨q,D,e⟩
 ·omega
 have:=(W.2 q D).1;omega
theorem Kept.leads (k:Kept d h ts l tau hi) {rs:List Int} (E:∀v∈rs,v=0\/∃q∈l,q.1=v):∀v∈rs.map tau,b8 (l.map (nk h.ab)) v=true:=fun v G=>by
 obtain ⟨u,F,rfl⟩:=List.mem_map.1 G;have:=zud (l.map (nk h.ab)) (tau u);rcases E u F with e | ⟨q,A,e⟩
 ·rw [e,k.zero];unfold b8;simp
 rw [<-e,k.tq q A]at this ⊢;have D:q.2∈(l.map (nk h.ab)).map bk.loc:=by rw [List.map_map];exact List.mem_map.2 ⟨q,A,rfl⟩
 rw [List.contains_iff_mem.2 D]at this;simpa using this
end
def tu (met:List Int) (v:Int):List Int:=if v=0 then met else if met.contains v then met else met++ [v]
def vi (met:List Int) (v:Int):Int:=if v=0 then 0 else jv (tu met v) v+1
structure ja where
 met:List Int
 o:List Int
def ja.turn (s:ja) (v:Int):ja:=⟨tu s.met v,s.o++ [vi s.met v]⟩
def ja.word (d:bd) (ws:List Int) (t:bk) (s:ja) (n:Nat):ja:=if jp d.fields t n then s.turn (wd ws (t.loc+3+n)) else ⟨s.met,s.o++ [wd ws (t.loc+3+n)]⟩
def ja.thing (d:bd) (ws:List Int) (s:ja) (a:Int):ja:=(List.range (bj ws a).len.toNat).foldl (ja.word d ws (bj ws a)) ⟨s.met,s.o++ [(bj ws a).tag,(bj ws a).len,(bj ws a).hash]⟩
def ja.all (d:bd) (ws:List Int):Nat->Nat->ja->ja
 | 0,_,s=>s
 | f+1,i,s=>match s.met[i]? with
   | none=>s
   | some a=>ja.all d ws f (i+1) (s.thing d ws a)
def ii (d:bd) (h:ar) (rs:List Int):List Int:=(ja.all d h.ab (h.ab.length+1) 0 (rs.foldl ja.turn ⟨[],[]⟩)).o
theorem zxy {α:Type} {p q:α->Bool} :∀(l:List α),(∀x∈l,p x=q x)->l.findIdx? p=l.findIdx? q
 | [],_=>rfl
 | x::l,h=>by rw [List.findIdx?_cons,List.findIdx?_cons,h x (List.mem_cons_self ..),zxy l fun y A=>h y (List.mem_cons_of_mem _ A)]
theorem zxz {tau:Int->Int} {v:Int} (m:List Int) (h:∀u∈m,tau u=tau v->u=v):jv (m.map tau) (tau v)=jv m v:=by
 unfold jv idx;rw [List.findIdx?_map,zxy (q:=fun x=>decide (x=v)) m fun u A=>?_];show decide (tau u=tau v)=decide (u=v);by_cases e:u=v
 ·rw [e];simp
 rw [decide_eq_false e,decide_eq_false fun q=>e (h u A q)]
section
variable {d:bd} {h x:ar} {ts:List bk} {l:List (Int×Int)} {tau:Int->Int} {hi:Int}
theorem zx0 {gp:List Int} :∀ {l:List (Int×Int)} {lo hi:Int},nh gp lo l hi->(∀p∈l,0<=(bj gp p.1).len)->(l.map (·.2)).Nodup
 | [],_,_,_,_=>List.nodup_nil
 | q::r,lo,hi,h,hl=>by have A:∀p∈r,0<=(bj gp p.1).len:=fun p D=>hl p (List.mem_cons_of_mem _ D);have h0:=hl q (List.mem_cons_self ..);have E:=h.1;rw [List.map_cons,List.nodup_cons];refine ⟨fun hc=>?_,zx0 h.2 A⟩;obtain ⟨p,D,e⟩:=List.mem_map.1 hc;have:=((Dv h.2 A).2 p D).1;omega
theorem Kept.inj (k:Kept d h ts l tau hi) (r:Right d h ts) {u v:Int} (E:∃q∈l,q.1=u) (F:∃q∈l,q.1=v) (e:tau u=tau v):u=v:=by obtain ⟨p,A,rfl⟩:=E;obtain ⟨q,D,rfl⟩:=F;rw [k.tq p A,k.tq q D]at e;rw [zxw (zx0 k.laid (k.lens r)) A D e]
theorem Kept.pos (k:Kept d h ts l tau hi) (r:Right d h ts) {v:Int} (D:∃q∈l,q.1=v):tau v≠0/\v≠0:=by obtain ⟨q,A,rfl⟩:=D;have h1:=((Dv k.laid (k.lens r)).2 q A).1;have F:=r.sized.ae;obtain ⟨t,-,-,-,-,-,E,-⟩:=k.at r A;rw [k.tq q A];exact ⟨by omega,by omega⟩
structure uf (l:List (Int×Int)) (tau:Int->Int) (s s':ja):Prop where
 met:s'.met=s.met.map tau
 o:s'.o=s.o
 kept:∀v∈s.met,∃q∈l,q.1=v
theorem uf.turn (k:Kept d h ts l tau hi) (r:Right d h ts) {s D:ja} (m:uf l tau s D) {v:Int} (E:v=0\/∃q∈l,q.1=v):uf l tau (s.turn v) (D.turn (tau v)):=by
 rcases E with rfl | E
 ·rw [k.zero];have F:∀m:List Int,tu m 0=m:=fun m=>by unfold tu;rw [if_pos rfl]
  have I:∀m:List Int,vi m 0=0:=fun m=>by unfold vi;rw [if_pos rfl]
  unfold ja.turn;rw [F,F,I,I];exact ⟨m.met,by show D.o++ [0]=s.o++ [0];rw [m.o],m.kept⟩
 have G:=k.pos r E;have hc:(s.met.map tau).contains (tau v)=s.met.contains v:=by
  rw [Bool.eq_iff_iff,List.contains_iff_mem,List.contains_iff_mem];constructor
  ·intro J;obtain ⟨u,A,e⟩:=List.mem_map.1 J;rw [<-k.inj r (m.kept u A) E e];exact A
  exact fun J=>List.mem_map.2 ⟨v,J,rfl⟩
 have F:tu D.met (tau v)=(tu s.met v).map tau:=by
  unfold tu;rw [if_neg G.1,if_neg G.2,m.met,hc];split
  ·rfl
  rw [List.map_append];rfl
 have L:∀u∈tu s.met v,∃q∈l,q.1=u:=by
  intro u A;unfold tu at A;rw [if_neg G.2]at A;split at A
  ·exact m.kept u A
  rcases List.mem_append.1 A with A | A
  ·exact m.kept u A
  rw [List.mem_singleton]at A;rw [A];exact E
 have I:vi D.met (tau v)=vi s.met v:=by unfold vi;rw [if_neg G.1,if_neg G.2,F,zxz _ fun u A e=>k.inj r (L u A) E e]
 exact ⟨F,by show D.o++ [vi D.met (tau v)]=s.o++ [vi s.met v];rw [m.o,I],L⟩
theorem uf.roots (k:Kept d h ts l tau hi) (r:Right d h ts):∀(rs:List Int) {s s':ja},uf l tau s s'->(∀v∈rs,v=0\/∃q∈l,q.1=v)->uf l tau (rs.foldl ja.turn s) ((rs.map tau).foldl ja.turn s')
 | [],_,_,m,_=>m
 | v::rs,_,_,m,h=>uf.roots k r rs (m.turn k r (h v (List.mem_cons_self ..))) fun u A=>h u (List.mem_cons_of_mem _ A)
theorem uf.word (n:Into d h l tau hi x) (k:Kept d h ts l tau hi) (r:Right d h ts) {s A:ja} (m:uf l tau s A) {p:Int×Int} (D:p∈l) {i:Nat} (hi:(i:Int)<(bj h.ab p.1).len):uf l tau (s.word d h.ab (bj h.ab p.1) i) (A.word d x.ab (nk h.ab p) i):=by
 unfold ja.word;rw [Cr (x:=nk h.ab p) (y:=bj h.ab p.1) rfl];cases hr:jp d.fields (bj h.ab p.1) i with
 | true=>
   obtain ⟨E,F⟩:=n.ref k D hi hr;simp only [if_true];show uf l tau (s.turn (wd h.ab (p.1+3+i))) (A.turn (wd x.ab (p.2+3+i)));rw [E];exact m.turn k r F
 | false=>
   have w:=n.word p D (3+i) (by omega);rw [show 3+i - 3=i by omega,hr,Bool.and_false]at w;simp only [Bool.false_eq_true,if_false]at w ⊢;refine ⟨m.met,?_,m.kept⟩;show A.o++ [wd x.ab (p.2+3+i)]=s.o++ [wd h.ab (p.1+3+i)];rw [m.o,show p.2+3+(i:Int)=p.2+((3+i:Nat):Int) by omega,w,show p.1+((3+i:Nat):Int)=p.1+3+(i:Int) by omega]
theorem uf.ab (n:Into d h l tau hi x) (k:Kept d h ts l tau hi) (r:Right d h ts) {p:Int×Int} (A:p∈l):∀(is:List Nat) {s s':ja},uf l tau s s'->(∀i∈is,(i:Int)<(bj h.ab p.1).len)->uf l tau (is.foldl (ja.word d h.ab (bj h.ab p.1)) s) (is.foldl (ja.word d x.ab (nk h.ab p)) s')
 | [],_,_,m,_=>m
 | i::is,_,_,m,h=>uf.ab n k r A is (m.word n k r A (h i (List.mem_cons_self ..))) fun j D=>h j (List.mem_cons_of_mem _ D)
theorem uf.thing (n:Into d h l tau hi x) (k:Kept d h ts l tau hi) (r:Right d h ts) {s D:ja} (m:uf l tau s D) {a:Int} (E:∃q∈l,q.1=a):uf l tau (s.thing d h.ab a) (D.thing d x.ab (tau a)):=by
 obtain ⟨p,A,rfl⟩:=E;rw [k.tq p A];unfold ja.thing;rw [n.head k r A];refine uf.ab n k r A _ ⟨m.met,?_,m.kept⟩ fun i hi=>?_
 ·show D.o++ [(bj h.ab p.1).tag,(bj h.ab p.1).len,(bj h.ab p.1).hash]=_;rw [m.o]
 have:=List.mem_range.1 hi;have h0:(nk h.ab p).len=(bj h.ab p.1).len:=rfl;omega
theorem uf.all (n:Into d h l tau hi x) (k:Kept d h ts l tau hi) (r:Right d h ts):∀(f i:Nat) {s s':ja},uf l tau s s'->uf l tau (ja.all d h.ab f i s) (ja.all d x.ab f i s')
 | 0,_,_,_,m=>m
 | f+1,i,s,s',m=>by
   rw [ja.all,ja.all,m.met,List.getElem?_map];cases ha:s.met[i]? with
   | none=>exact m
   | some a=>exact uf.all n k r f (i+1) (m.thing n k r (m.kept a (List.mem_of_getElem? ha)))
theorem Into.shape (n:Into d h l tau hi x) (k:Kept d h ts l tau hi) (r:Right d h ts) {rs:List Int} (A:∀v∈rs,v=0\/∃q∈l,q.1=v):ii d x (rs.map tau)=ii d h rs:=by unfold ii;rw [n.len];exact (uf.all n k r (h.ab.length+1) 0 (uf.roots k r rs ⟨rfl,rfl,fun v D=>by cases D⟩ A)).o
end
theorem zx1 (d:bd) (h:ar) (A:List bk) (order:List Int) (lo:Int):(ny d h A order lo).ab.length=h.ab.length:=by unfold ny;rw [zwm,zwl,List.length_replicate]
theorem zx2 {n:Nat} {fs:List (List bq)} {ws:List Int} {lo A:Int} {rest:List bk} (D:lo<A) (e:b9 n fs ws lo A=some rest):∃rest',rest=bj ws lo::rest'/\b9 n fs ws (bj ws lo).fin A=some rest'/\(bj ws lo).fin<=A/\lo+3<=(bj ws lo).fin:=by
 by_cases E:gr n fs ws lo A=true
 ·rw [Cb D E]at e;cases hx:b9 n fs ws (bj ws lo).fin A with
  | none=>rw [hx]at e;cases e
  | some ts'=>
    rw [hx]at e;exact ⟨ts',(ojq e).symm,rfl,(Ay E).2.1,(Ay E).1⟩
 rw [Cc D E]at e;cases e
theorem zx3 {gp:List Int} :∀ {l:List (Int×Int)} {lo hi:Int},nh gp lo l hi->(∀p∈l,0<=(bj gp p.1).len)->l.Pairwise (fun p q=>p.2+3+(bj gp p.1).len<=q.2)
 | [],_,_,_,_=>List.Pairwise.nil
 | q::l,lo,hi,h,hl=>by have A:∀p∈l,0<=(bj gp p.1).len:=fun p D=>hl p (List.mem_cons_of_mem _ D);have h1:=h.1;refine List.pairwise_cons.2 ⟨fun p D=>?_,zx3 h.2 A⟩;have:=((Dv h.2 A).2 p D).1;omega
theorem zx4 {gp:List Int} :∀ {l m:List (Int×Int)} {lo mid hi:Int},nh gp lo l mid->nh gp mid m hi->nh gp lo (l++m) hi
 | [],_,_,_,_,h,g=>by have h:=h;unfold nh at h;rw [h];exact g
 | _::_,_,_,_,_,h,g=>⟨h.1,zx4 h.2 g⟩
theorem zx5 {n:Nat} {fs:List (List bq)} {ws:List Int} {A:Int} :∀(f:Nat) (lo:Int) (ts:List bk),(A - lo).toNat<=f->lo<=A->b9 n fs ws lo A=some ts->nh ws lo (ts.map fun t=>(t.loc,t.loc)) A
 | f,lo,ts,hf,hl,e=>by
   by_cases D:lo<A
   ·obtain ⟨rest,rfl,E,F,G⟩:=zx2 D e;match f,hf with
    | 0,hf=>omega
    | f+1,hf=>exact ⟨rfl,zx5 f (bj ws lo).fin rest (by omega) F E⟩
   rw [A6 D]at e;have e:=ojq e;subst e;show lo=A;omega
theorem zx6 {ws:List Int} :∀(l:List Int) (lo:Int),nh ws lo (l.zip (gq ws lo l)) (toR ws lo l)
 | [],_=>rfl
 | a::l,lo=>by
   have A:=zx6 (ws:=ws) l (lo+(3+wd ws (a+1)));refine ⟨rfl,?_⟩;have e:lo+3+(bj ws a).len=lo+(3+wd ws (a+1)):=by show lo+3+wd ws (a+1)=_;omega
   show nh ws (lo+3+(bj ws a).len) (l.zip (gq ws (lo+(3+wd ws (a+1))) l)) (toR ws (lo+(3+wd ws (a+1))) l);rw [e];exact A
theorem zx7:∀(l m:List Int),l.length=m.length->(l.zip m).map (·.1)=l
 | [],_,_=>by simp
 | a::l,[],h=>by simp at h
 | a::l,b::m,h=>by show a::(l.zip m).map (·.1)=a::l;rw [zx7 l m (by simpa using h)]
theorem zx8 {P:Int->Bool} {next:Int->List Int} {v:Int} :∀(f i:Nat) (o:List Int),v∈o->v∈uo P next f i o
 | 0,_,_,h=>h
 | f+1,i,o,h=>by
   rw [uo];cases o[i]? with
   | none=>exact h
   | some a=>exact zx8 f (i+1) _ ((Cs _ _).2 (Or.inl h))
theorem zx9 {d:bd} {h:ar} {v:Int} :∀(ns o:List Int),v∈o->v∈Fd d h ns o
 | [],_,hv=>hv
 | n::ns,o,hv=>zx9 ns ((ed d.fields h.ab n).foldl (oo (yg h)) o) ((Cs _ _).2 (Or.inl hv))
theorem zya {d:bd} {h:ar} {rs:List Int} {v:Int} (A:v∈rs) (D:yg h v=true):v∈kv d h rs:=
 zx8 _ _ _ (zx9 _ _ ((Cs _ _).2 (Or.inr ⟨A,D⟩)))
def ji (h:ar) (stay:List bk) (order:List Int) (lo:Int):List (Int×Int):=(stay.map fun t=>(t.loc,t.loc))++order.zip (gq h.ab lo order)
section
variable {d:bd} {h:ar} {ts:List bk}
theorem zyb {A:List bk} {order:List Int} {lo:Int} (r:Right d h ts) (k:Kept d h ts (ji h A order lo) (mr order (gq h.ab lo order)) (toR h.ab lo order)):Into d h (ji h A order lo) (mr order (gq h.ab lo order)) (toR h.ab lo order) (ny d h A order lo):=by
 have V:=r.sized.ae;have E:=Dv k.laid (k.lens r);have I:=k.top;have F:∀p∈ji h A order lo,so h.ab (List.replicate h.ab.length (0:Int)).length p:=fun p D=>by obtain ⟨t,-,-,G,-,-,q1,q2⟩:=k.at r D;have:=E.2 p D;rw [List.length_replicate];exact ⟨by omega,by omega,by rw [G];exact q2,by omega⟩
 have J:(ny d h A order lo).ab=ld d h.ab order (gq h.ab lo order) (ji h A order lo) (List.replicate h.ab.length 0):=by show ld d h.ab order (gq h.ab lo order) (order.zip (gq h.ab lo order)) (vb d h.ab order (gq h.ab lo order) A (List.replicate h.ab.length 0))=_;rw [zxk];unfold ld ji;rw [List.foldl_append]
 refine ⟨zx1 d h A order lo,rfl,rfl,rfl,rfl,rfl,rfl,fun p D i hi=>?_,fun a L O=>?_⟩
 ·obtain ⟨t,-,-,G,-,-,q1,q2⟩:=k.at r D;have N:=E.2 p D;rw [J,zxj _ _ (p.2+i) (by omega) F (zx3 k.laid (k.lens r)) p D (by omega) (by omega)];unfold ug;rw [show (p.2+(i:Int) - p.2).toNat=i by omega,show ((p.1.toNat:Nat):Int)=p.1 by omega,show ((p.1.toNat+i:Nat):Int)=p.1+i by omega]
 rw [J,Et _ _ a L F (fun p D hc=>by have:=E.2 p D;omega),zxm]
theorem Into.small {l:List (Int×Int)} {tau:Int->Int} {hi:Int} {x:ar} (n:Into d h l tau hi x) (k:Kept d h ts l tau hi) (r:Right d h ts) (Z:∀v∈h.ab,(Lit.int .i64 v).wf=true):∀v∈x.ab,(Lit.int .i64 v).wf=true:=by
 have z:=r.sized;have z1:=z.ae;have z2:=z.old;have z3:=z.len;have I:=Dv k.laid (k.lens r);have V:=k.top;have N:(Lit.int .i64 0).wf=true:=by decide
 have L:∀a:Int,(Lit.int .i64 (wd h.ab a)).wf=true:=fun a=>by
  unfold wd;cases e:h.ab[a.toNat]? with
  | none=>exact N
  | some v=>exact Z v (List.mem_of_getElem? e)
 have A:∀(m:List (Int×Int)) (lo:Int),nh h.ab lo m hi->∀a:Int,lo<=a->a<hi->∃p∈m,p.2<=a/\a<p.2+3+(bj h.ab p.1).len:=by
  intro m;induction m with
  | nil=>intro lo E a h1 O;have E:lo=hi:=E;omega
  | cons q m ih=>
    intro lo E a h1 O;have e1:=E.1;by_cases hc:a<q.2+3+(bj h.ab q.1).len
    ·exact ⟨q,List.mem_cons_self ..,by omega,hc⟩
    obtain ⟨p,F,e⟩:=ih _ E.2 a (by omega) O;exact ⟨p,List.mem_cons_of_mem _ F,e⟩
 intro v Y;obtain ⟨i,G,e⟩:=List.mem_iff_getElem.1 Y;rw [<-pi G]at e;rw [<-e];by_cases W:(i:Int)<=h.ae\/hi<=(i:Int)
 ·rw [n.rest i (by omega) W];exact N
 obtain ⟨p,F,q1,q2⟩:=A l _ k.laid i (by omega) (by omega);have w:=n.word p F ((i:Int) - p.2).toNat (by omega);rw [show p.2+((((i:Int) - p.2).toNat:Nat):Int)=(i:Int) by omega]at w;rw [w];split
 ·rename_i hc;rw [Bool.and_eq_true,decide_eq_true_eq]at hc;obtain ⟨-,D⟩:=n.ref k F (m:=((i:Int) - p.2).toNat - 3) (by omega) hc.2;rw [show p.1+((((i:Int) - p.2).toNat:Nat):Int)=p.1+3+((((i:Int) - p.2).toNat - 3:Nat):Int) by omega];rcases D with D | ⟨q,J,D⟩
  ·rw [D,k.zero];exact N
  rw [<-D,k.tq q J];have:=I.2 q J;obtain ⟨t,-,-,X,-,-,-,q3⟩:=k.at r J;rw [X]at this;exact (Lit.wf_int_iff _ _).2 ⟨by show (-9223372036854775808:Int)<=_;omega,by show _<=(9223372036854775807:Int);omega⟩
 exact L _
theorem zyc {I:List bk} (r:Right d h ts) (hl:0<=leftD h) (e2:b9 d.aj.length d.fields h.ab (h.ae+1) h.ba=some I) (rs:List Int) (hr:∀v∈rs,b8 ts v=true):
 Kept d h ts (ji h I (kv d h rs) h.ba) (mr (kv d h rs) (gq h.ab h.ba (kv d h rs))) (toR h.ab h.ba (kv d h rs))/\∀v∈rs,v=0\/∃q∈ji h I (kv d h rs) h.ba,q.1=v:=by
 obtain ⟨x,J,-⟩:=zxb r hl rs hr;obtain ⟨-,-,-,au⟩:=zxu r hl e2 rs hr;obtain ⟨s,hs⟩:∃s,ie d h rs=s:=⟨_,rfl⟩;rw [hs]at x J;have z:=r.sized;have z1:=z.ae;have z2:=z.old;have z3:=z.len;have z4:=z.bo;have z5:=z.ba;have aa:∀p∈s.mv,p.2.len=wd h.ab (p.1+1):=fun p F=>by obtain ⟨t,A,G,q1,q2,q3,-⟩:=x.fr p F;rw [q3,q1];exact congrArg bk.len (xw r A (uj.1 G).2).eq
 obtain ⟨n1,n2⟩:=zxc (ws:=h.ab) x.laid aa;rw [J]at n1 n2;have Y:∀v∈kv d h rs,dm h v=true:=fun v Z=>by rw [<-J]at Z;obtain ⟨p,F,rfl⟩:=List.mem_map.1 Z;obtain ⟨t,-,G,e,-⟩:=x.fr p F;rw [e];exact G
 have ah:(0:Int)∉kv d h rs:=fun hc=>by have:=(uj.1 (Y _ hc)).1;omega
 have ai:(kv d h rs).Nodup:=by rw [<-J];exact x.nd
 have ak:(kv d h rs).length=(gq h.ab h.ba (kv d h rs)).length:=(zwh _ _ _).symm;have W:(ji h I (kv d h rs) h.ba).map (·.1)=I.map bk.loc++kv d h rs:=by unfold ji;rw [List.map_append,zx7 _ _ ak,List.map_map];rfl
 have N:∀t,t∈I↔t∈ts/\h.ae<t.loc:=fun t=>by
  obtain ⟨ys,av,f1,f2,rfl⟩:=xu r.both;rw [e2]at f2;have f2:=ojq f2;subst f2;constructor
  ·intro A;have:=(sc e2 t A).1;exact ⟨List.mem_append_right _ A,by omega⟩
  rintro ⟨A,G⟩;rcases List.mem_append.1 A with A | A
  ·have q:=sc f1 t A;have q1:=q.2.1;have q2:=vd q.2.2.2.2;have q3:t.fin=t.loc+3+t.len:=rfl;omega
  exact A
 have X:∀v,b8 ts v=true->(dm h v=true->v∈kv d h rs)->v=0\/∃q∈ji h I (kv d h rs) h.ba,q.1=v:=fun v Z G=>by
  by_cases h0:v=0
  ·exact Or.inl h0
  obtain ⟨t,A,rfl⟩:=Du Z h0;have hm:t.loc∈(ji h I (kv d h rs) h.ba).map (·.1):=by
   rw [W];by_cases af:dm h t.loc=true
   ·exact List.mem_append_right _ (G af)
   obtain ⟨-,-,-,q4⟩:=zxx r A;refine List.mem_append_left _ (List.mem_map.2 ⟨t,(N t).2 ⟨A,?_⟩,rfl⟩);have:¬(0<t.loc/\t.loc<=h.ae):=fun hc=>af (uj.2 hc);omega
  obtain ⟨q,E,e⟩:=List.mem_map.1 hm;exact Or.inr ⟨q,E,e⟩
 have L:∀q∈ji h I (kv d h rs) h.ba,(∃t∈I,q=(t.loc,t.loc))\/∃p∈s.mv,q=(p.1,p.2.loc):=fun q E=>by
  unfold ji at E;rcases List.mem_append.1 E with E | E
  ·obtain ⟨t,A,e⟩:=List.mem_map.1 E;exact Or.inl ⟨t,A,e.symm⟩
  rw [n1,<-J,zxn]at E;obtain ⟨p,F,e⟩:=List.mem_map.1 E;exact Or.inr ⟨p,F,e.symm⟩
 have ad:∀v,mr (kv d h rs) (gq h.ab h.ba (kv d h rs)) v=jo s.mv v:=fun v=>by rw [n1,<-J];exact zxf x.nd (by rw [J];exact ah) v
 have al:=x.otopLe r hl;refine ⟨⟨?_,?_,?_,?_,?_,?_,by rw [n2];exact al⟩,fun v Z=>X v (hr v Z) fun G=>?_⟩
 ·intro q E;rcases L q E with ⟨t,A,rfl⟩ | ⟨p,F,rfl⟩
  ·exact ⟨t,((N t).1 A).1,rfl⟩
  obtain ⟨t,A,-,e,-⟩:=x.fr p F;exact ⟨t,A,e.symm⟩
 ·exact zx4 (zx5 _ _ I (nlq _) (by omega) e2) (zx6 _ _)
 ·rw [W,List.nodup_append];refine ⟨?_,ai,?_⟩
  ·refine List.Pairwise.map _ (fun a b O e=>?_) (List.Pairwise.imp_of_mem (fun {a b} D hb O=>And.intro D O) (Fv _ _ I (nlq _) e2));have q:=vd (sc e2 a O.1).2.2.2.2;have q1:a.fin=a.loc+3+a.len:=rfl;have:=O.2;omega
  intro a D b hb e;obtain ⟨t,A,rfl⟩:=List.mem_map.1 D;have h1:=((N t).1 A).2;have h2:=(uj.1 (Y b hb)).2;omega
 ·intro q E a D;rcases L q E with ⟨t,A,rfl⟩ | ⟨p,F,rfl⟩
  ·obtain ⟨V,ac⟩:=(N t).1 A;have qo:=A0 r V ac;have D:a∈refsOf d.fields t:=by have D:a∈refsOf d.fields (bj h.ab t.loc):=D;rwa [<-qo.2.2.1]at D
   refine X _ (zu6 r V D) fun G=>?_;by_cases cn:t.loc∈h.am
   ·have hd:=(x.E8 a (Or.inl ⟨t.loc,cn,t,V,rfl,D⟩)).2.2;have:=qo.2.2.2.2 a D;have:=qo.2.1;rw [x.srcLow r (by omega)]at hd;rw [<-J];exact hd G
   exfalso;have ao:=List.any_eq_false.1 r.un t V;refine ao ?_;unfold ia ep;rw [Bool.and_eq_true,Bool.and_eq_true,decide_eq_true_eq];refine ⟨⟨ac,?_⟩,List.any_eq_true.2 ⟨_,D,G⟩⟩;cases hcc:h.am.contains t.loc with
   | false=>rfl
   | true=>exact absurd (List.contains_iff_mem.1 hcc) cn
  obtain ⟨t,A,ap,e1,e3,e4,-⟩:=x.fr p F;have y:=xw r A (uj.1 ap).2;have D:a∈refsOf d.fields (bj h.ab p.1):=D;rw [e1,<-y.eq]at D;refine X _ (zu6 r A D) fun G=>?_;obtain ⟨n,ea,hn,an⟩:=y9 D;have hf:p.2.fin=p.2.loc+3+p.2.len:=rfl;have hm:p.2.loc+3+(n:Int)∈refsOf d.fields p.2:=Co (by omega) (by rw [Cr e3];exact an);obtain ⟨j,hj,ej⟩:=List.mem_iff_getElem.1 F;have hd:=(x.E8 (p.2.loc+3+n) (Or.inr ⟨j,p,hj,by rw [List.getElem?_eq_getElem hj,ej],hm⟩)).2.2;rw [zup (p:=p) (by omega) (by omega) x.laid (x.lens r) F,e1,show t.loc+(p.2.loc+3+(n:Int) - p.2.loc)=a by omega]at hd;rw [<-J];exact hd G
 ·intro q E;rw [ad];rcases L q E with ⟨t,A,rfl⟩ | ⟨p,F,rfl⟩
  ·unfold jo;rw [zur]
   ·rfl
   intro hc;rw [J]at hc;have h1:=((N t).1 A).2;have h2:=(uj.1 (Y _ hc)).2;have h2:t.loc<=h.ae:=h2;omega
  unfold jo;show (ij s.mv p.1).getD p.1=p.2.loc;rw [zus F x.nd];rfl
 ·rw [ad];unfold jo;rw [zur (by rw [J];exact ah)];rfl
 exact zya Z (by rw [zv8];exact G)
end
def gc (live:List Int) (ys os:List bk):List Int:=((os.map bk.loc).filter (live.contains ·))++((ys.map bk.loc).filter (live.contains ·))
theorem zyd {order news:List Int} (N:order.Nodup) (V:(0:Int)∉order) (X:order.length=news.length):∀q∈order.zip news,mr order news q.1=q.2:=by
 intro q O;obtain ⟨k,L,e⟩:=List.mem_iff_getElem.1 O;rw [List.length_zip]at L;have h1:order[k]'(by omega)=q.1:=by rw [<-e,List.getElem_zip]
 have I:news[k]'(by omega)=q.2:=by rw [<-e,List.getElem_zip]
 have E:q.1∈order:=h1 ▸ gm _;rcases zxe order q.1 with ⟨D,-⟩ | ⟨j,D,J⟩
 ·exact absurd E D
 obtain ⟨W,G⟩:=List.getElem?_eq_some_iff.1 D;have A:j=k:=(List.getElem_inj (xs:=order) N).1 (G.trans h1.symm);subst A;unfold mr;have h0:q.1≠0:=fun F=>V (by rw [<-F];exact E);rw [if_neg (by rintro (c | c);exact h0 c;omega),J,pi (by omega),I]
theorem zye (ws:List Int):∀(l:List Int) (lo:Int),toR ws lo l=lo+(l.map fun a=>3+wd ws (a+1)).sum
 | [],lo=>by show lo=lo+0;omega
 | a::l,lo=>by show toR ws (lo+(3+wd ws (a+1))) l=_;rw [zye ws l,List.map_cons,List.sum_cons];omega
section
variable {d:bd} {h:ar} {ts:List bk}
theorem zyf {D A:List bk} (r:Right d h ts) (e1:b9 d.aj.length d.fields h.ab 1 h.bo=some D) (e2:b9 d.aj.length d.fields h.ab (h.ae+1) h.ba=some A) (rs:List Int) (hr:∀v∈rs,b8 ts v=true) (hl:dp d h rs<=h.old):
 Kept d h ts (ji h [] (gc (cz d h rs) D A) (h.ae+1)) (mr (gc (cz d h rs) D A) (gq h.ab (h.ae+1) (gc (cz d h rs) D A))) (toR h.ab (h.ae+1) (gc (cz d h rs) D A))/\(∀v∈rs,v=0\/∃q∈ji h [] (gc (cz d h rs) D A) (h.ae+1),q.1=v)/\toR h.ab (h.ae+1) (gc (cz d h rs) D A)=h.ae+1+dp d h rs/\(gc (cz d h rs) D A).Nodup/\(∀v,v∈gc (cz d h rs) D A↔kh nz (ed d.fields h.ab) rs v):=by
 obtain ⟨l1,l2⟩:=Fs r hr;have z1:=r.sized.ae;have z2:=r.sized.old;have z3:=r.sized.len;have z4:=r.sized.bo;have ai:ts=D++A:=by obtain ⟨an,al,f1,f2,rfl⟩:=xu r.both;rw [e1]at f1;rw [e2]at f2;rw [ojq f1,ojq f2]
 have aa:∀ {v:Int},nz v=true->v≠0:=fun {v} h e=>by subst e;cases h
 have ac:∀v,kh nz (ed d.fields h.ab) rs v->v≠0:=fun v O=>by
  apply kh.ind O
  ·intro _ _ h2
   exact aa h2
  intro _ _ _ _ h2 _
  exact aa h2
 have E:∀v,v∈gc (cz d h rs) D A↔kh nz (ed d.fields h.ab) rs v:=fun v=>by
  unfold gc;rw [List.mem_append,List.mem_filter,List.mem_filter,List.contains_iff_mem,l2];constructor
  ·rintro (h | h)<;>exact h.2
  intro O;obtain ⟨t,F,rfl⟩:=Fr r hr O;rw [ai]at F;rcases List.mem_append.1 F with F | F
  ·exact Or.inr ⟨List.mem_map.2 ⟨t,F,rfl⟩,O⟩
  exact Or.inl ⟨List.mem_map.2 ⟨t,F,rfl⟩,O⟩
 have J:∀(l:List bk),l.Pairwise (fun t u=>t.fin<=u.loc)->(∀t∈l,0<=t.len)->(l.map bk.loc).Nodup:=fun l hp h0=>by refine List.Pairwise.map _ (fun a b L e=>?_) (List.Pairwise.imp_of_mem (fun {a b} X hb L=>And.intro X L) hp);have q:=h0 a L.1;have q1:a.fin=a.loc+3+a.len:=rfl;have:=L.2;omega
 have ah:=J D (Fv _ _ D (nlq _) e1) fun t F=>vd (sc e1 t F).2.2.2.2;have af:=J A (Fv _ _ A (nlq _) e2) fun t F=>vd (sc e2 t F).2.2.2.2;have N:(gc (cz d h rs) D A).Nodup:=by unfold gc;refine List.nodup_append.2 ⟨af.sublist List.filter_sublist,ah.sublist List.filter_sublist,?_⟩;intro a X b hb e;obtain ⟨t,F,rfl⟩:=List.mem_map.1 (List.mem_filter.1 X).1;obtain ⟨u,hu,rfl⟩:=List.mem_map.1 (List.mem_filter.1 hb).1;have q1:=(sc e2 t F).1;have q2:=sc e1 u hu;have q3:=q2.2.1;have q4:=vd q2.2.2.2.2;have q5:u.fin=u.loc+3+u.len:=rfl;omega
 have ad:toR h.ab (h.ae+1) (gc (cz d h rs) D A)=h.ae+1+dp d h rs:=by rw [zye,zvo r hr N E]
 have Z:(gc (cz d h rs) D A).length=(gq h.ab (h.ae+1) (gc (cz d h rs) D A)).length:=(zwh _ _ _).symm;have V:ji h [] (gc (cz d h rs) D A) (h.ae+1)=(gc (cz d h rs) D A).zip (gq h.ab (h.ae+1) (gc (cz d h rs) D A)):=by unfold ji;rw [List.map_nil,List.nil_append]
 have I:(ji h [] (gc (cz d h rs) D A) (h.ae+1)).map (·.1)=gc (cz d h rs) D A:=by rw [V,zx7 _ _ Z]
 have ak:(0:Int)∉gc (cz d h rs) D A:=fun hc=>ac 0 ((E 0).1 hc) rfl;have Y:∀v,kh nz (ed d.fields h.ab) rs v->∃q∈ji h [] (gc (cz d h rs) D A) (h.ae+1),q.1=v:=fun v O=>by
  have hm:v∈(ji h [] (gc (cz d h rs) D A) (h.ae+1)).map (·.1):=by rw [I];exact (E v).2 O
  obtain ⟨q,W,e⟩:=List.mem_map.1 hm;exact ⟨q,W,e⟩
 have G:∀q∈ji h [] (gc (cz d h rs) D A) (h.ae+1),kh nz (ed d.fields h.ab) rs q.1:=fun q W=>(E q.1).1 (by rw [<-I];exact List.mem_map.2 ⟨q,W,rfl⟩);refine ⟨⟨fun q W=>Fr r hr (G q W),?_,by rw [I];exact N,?_,?_,?_,by rw [ad];omega⟩,fun v O=>?_,ad,N,E⟩
 ·rw [V];exact zx6 _ _
 ·intro q W a X;by_cases h0:wd h.ab a=0
  ·exact Or.inl h0
  refine Or.inr (Y _ (kh.step (G q W) ?_ ?_))
  ·unfold ed;exact List.mem_map.2 ⟨a,X,rfl⟩
  unfold nz;simpa using h0
 ·rw [V];exact zyd N ak Z
 ·unfold mr;rw [if_pos (Or.inl rfl)]
 by_cases h0:v=0
 ·exact Or.inl h0
 exact Or.inr (Y v (kh.root O (by unfold nz;simpa using h0)))
end
end Go.Proofs.YtjdnmblggdobgaaGreat
