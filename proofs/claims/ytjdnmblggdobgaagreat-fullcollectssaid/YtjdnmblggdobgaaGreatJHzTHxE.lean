import Derived.Test.YtjdnmblggdobgaaGreatJHzNHzR
import Derived.Test.YtjdnmblggdobgaaGreatJHyGHyJ
import Derived.Test.YtjdnmblggdobgaaGreatJHyBHzA
namespace Go.Proofs.YtjdnmblggdobgaaGreat
open Go.RowKit Go.Maps
section
variable {d:be} {h0:bd} {ts:List bo} {dn:Int->Prop}
end
theorem zxc {ws:List Int} :∀ {l:List (Int×bo)} {lo hi:Int},Laid lo l hi->(∀p∈l,p.2.len=wd ws (p.1+1))->gj ws lo (l.map (·.1))=l.map (·.2.loc)/\toR ws lo (l.map (·.1))=hi
 | [],_,_,h,_=>⟨rfl,h⟩
 | p::l,lo,hi,h,hs=>by
   have A:=hs p (List.mem_cons_self ..);have h1:=h.1;have e:lo+(3+wd ws (p.1+1))=p.2.fin:=by rw [<-A];unfold bo.fin;omega
   have u:=zxc h.2 fun q D=>hs q (List.mem_cons_of_mem _ D);constructor
   ·show lo::gj ws (lo+(3+wd ws (p.1+1))) (l.map (·.1))=p.2.loc::l.map (·.2.loc);rw [e,u.1,h1]
   show toR ws (lo+(3+wd ws (p.1+1))) (l.map (·.1))=hi;rw [e];exact u.2
theorem zxd (ws:List Int):∀(l:List Int) (lo:Int) (k:Nat),k<l.length->(gj ws lo l)[k]? =some (toR ws lo (l.take k))
 | [],_,_,h=>by cases h
 | a::l,lo,0,_=>rfl
 | a::l,lo,k+1,h=>by show (lo::gj ws (lo+(3+wd ws (a+1))) l)[k+1]? =_;rw [List.getElem?_cons_succ,zxd ws l _ k (by simpa using h)];rfl
theorem zxe (l:List Int) (v:Int):(v∉l/\ng l v= -1)\/∃k:Nat,l[k]? =some v/\ng l v=k:=by
 unfold ng idx;cases e:l.findIdx? (fun x=>decide (x=v))with
 | none=>
   refine Or.inl ⟨fun D=>?_,rfl⟩;have:=List.findIdx?_eq_none_iff.1 e v D;simp at this
 | some k=>
   obtain ⟨u,A,-⟩:=List.findIdx?_eq_some_iff_getElem.1 e;refine Or.inr ⟨k,?_,rfl⟩;rw [List.getElem?_eq_getElem u,of_decide_eq_true A]
theorem zxf {l:List (Int×bo)} (A:(l.map (·.1)).Nodup) (E:(0:Int)∉l.map (·.1)) (v:Int):gp (l.map (·.1)) (l.map (·.2.loc)) v=turnM l v:=by
 unfold gp turnM;rcases zxe (l.map (·.1)) v with ⟨h1,u⟩ | ⟨k,h1,u⟩
 ·rw [if_pos (Or.inr (by omega)),zur h1];rfl
 have D:v≠0:=fun e=>E (by rw [<-e];exact List.mem_of_getElem? h1);rw [if_neg (by rintro (q | q);exact D q;omega),u];rw [List.getElem?_map]at h1;cases hp:l[k]? with
 | none=>rw [hp]at h1;cases h1
 | some p=>
   rw [hp]at h1;have h1:p.1=v:=ojq h1;subst h1;rw [zus (List.mem_of_getElem? hp) A];unfold wd;rw [show ((k:Int)).toNat=k by omega,List.getElem?_map,hp];rfl
section
variable {d:be} {fy order news:List Int}
theorem zxg (u new:Nat):∀(n:Nat) (ws:List Int),new+n<=ws.length->∀a:Int,0<=a->wd (np d fy order news u new n ws) a=if (new:Int)<=a/\a<new+n then putW d fy order news u (a - new).toNat else wd ws a
 | 0,ws,_,a,_=>by rw [if_neg (by omega)];rfl
 | n+1,ws,h,a,h0=>by
   show wd ((np d fy order news u new n ws).set (new+n) (putW d fy order news u n)) a=_;by_cases e:a=((new+n:Nat):Int)
   ·subst e;rw [zsa (by rw [zwd];omega),if_pos (by omega),show (((new+n:Nat):Int) - new).toNat=n by omega]
   rw [zr9 (by omega),zxg u new n ws (by omega) a h0];by_cases c:(new:Int)<=a/\a<new+n
   ·rw [if_pos c,if_pos (by omega)]
   rw [if_neg c,if_neg (by omega)]
structure PutOk (fy:List Int) (n:Nat) (p:Int×Int):Prop where
 src:0<=p.1
 dst:0<=p.2
 len:0<=(bq fy p.1).len
 fin:p.2+3+(bq fy p.1).len<=n
theorem zxh {ws:List Int} {p:Int×Int} (h:PutOk fy ws.length p) {a:Int} (h0:0<=a):wd (putT d fy order news ws p.1 p.2) a=if p.2<=a/\a<p.2+3+(bq fy p.1).len then putW d fy order news p.1.toNat (a - p.2).toNat else wd ws a:=by
 have h1:=h.dst;have u:=h.len;have A:=h.fin;have e:((p.2.toNat:Nat):Int)=p.2:=by omega
 unfold putT;rw [zxg _ _ _ _ (by omega) _ h0,e];by_cases c:p.2<=a/\a<p.2+3+(bq fy p.1).len
 ·rw [if_pos (by omega),if_pos c]
 rw [if_neg (by omega),if_neg c]
theorem zxi:∀(l:List (Int×Int)) (ws:List Int) (a:Int),0<=a->(∀p∈l,PutOk fy ws.length p)->(∀p∈l,¬(p.2<=a/\a<p.2+3+(bq fy p.1).len))->wd (j9 d fy order news l ws) a=wd ws a
 | [],_,_,_,_,_=>rfl
 | p::l,ws,a,h0,h1,h2=>by show wd (j9 d fy order news l (putT d fy order news ws p.1 p.2)) a=_;rw [zxi l _ a h0 (fun q u=>by rw [zwi];exact h1 q (List.mem_cons_of_mem _ u)) fun q u=>h2 q (List.mem_cons_of_mem _ u),zxh (h1 p (List.mem_cons_self ..)) h0,if_neg (h2 p (List.mem_cons_self ..))]
end
theorem zxl {l m:List Int} (A:l.length=m.length) (h:∀i:Nat,i<l.length->wd l i=wd m i):l=m:=by refine List.ext_getElem A fun i h1 u=>?_;have:=h i h1;rwa [zen h1,zen u]at this
theorem zxm (n:Nat) (a:Int):wd (List.replicate n 0) a=0:=by unfold wd;rw [List.getElem?_replicate];split<;>rfl
theorem zxn {α β γ:Type} (f:α->β) (g:α->γ):∀l:List α,(l.map f).zip (l.map g)=l.map fun x=>(f x,g x)
 | []=>rfl
 | x::l=>by show (f x,g x)::(l.map f).zip (l.map g)=_;rw [zxn f g l];rfl
theorem zxq {n:Nat} {fs:List (List bk)} {ws:List Int} {A:Int} :∀(f:Nat) (lo:Int) (ts:List bo),(A - lo).toNat<=f->cd n fs ws lo A=some ts->ts.Pairwise (fun t u=>t.fin<=u.loc)
 | f,lo,ts,hf,e=>by
   by_cases D:lo<A
   ·by_cases E:iw n fs ws lo A=true
    ·rw [zet D E]at e;cases hx:cd n fs ws (bq ws lo).fin A with
     | none=>rw [hx]at e;cases e
     | some ts'=>
       rw [hx]at e;have e:=ojq e;subst e;have G:=zep E;match f,hf with
       | 0,hf=>omega
       | f+1,hf=>
         refine List.pairwise_cons.2 ⟨fun u F=>?_,zxq f _ ts' (by omega) hx⟩;exact (zsf f _ ts' (by omega) hx u F).1
    rw [zeu D E]at e;cases e
   rw [zes D]at e;have e:=ojq e;subst e;exact List.Pairwise.nil
def LaidP (fy:List Int):Int->List (Int×Int)->Int->Prop
 | lo,[],hi=>lo=hi
 | lo,p::r,hi=>p.2=lo/\LaidP fy (lo+3+(bq fy p.1).len) r hi
structure Kept (d:be) (h:bd) (ts:List bo) (l:List (Int×Int)) (tau:Int->Int) (hi:Int):Prop where
 src:∀p∈l,∃t∈ts,t.loc=p.1
 laid:LaidP h.ab (h.ae+1) l hi
 nd:(l.map (·.1)).Nodup
 refs:∀p∈l,∀a∈refsOf d.fields (bq h.ab p.1),wd h.ab a=0\/∃q∈l,q.1=wd h.ab a
 tq:∀q∈l,tau q.1=q.2
 zero:tau 0=0
 top:hi<=h.ab.length
theorem zxv {fy:List Int} :∀ {l:List (Int×Int)} {lo hi:Int},LaidP fy lo l hi->(∀p∈l,0<=(bq fy p.1).len)->lo<=hi/\∀p∈l,lo<=p.2/\p.2+3+(bq fy p.1).len<=hi
 | [],lo,hi,h,_=>⟨Int.le_of_eq h,fun p u=>by cases u⟩
 | q::r,lo,hi,h,hl=>by
   have A:=zxv h.2 fun p u=>hl p (List.mem_cons_of_mem _ u);have h0:=hl q (List.mem_cons_self ..);have D:=h.1;refine ⟨by omega,fun p u=>?_⟩;rcases List.mem_cons.1 u with rfl | u
   ·exact ⟨by omega,by omega⟩
   have:=A.2 p u;exact ⟨by omega,this.2⟩
section
variable {d:be} {h x:bd} {ts:List bo} {l:List (Int×Int)} {tau:Int->Int} {hi:Int}
theorem zxx (r:Right d h ts) {t:bo} (u:t∈ts):t=bq h.ab t.loc/\et d.aj.length t.tag=true/\di d.fields t.tag t.len=true/\1<=t.loc:=by
 have z:=r.sized;have G:=z.ae;obtain ⟨F,E,A,D,rfl⟩:=zko r.both;rcases List.mem_append.1 u with u | u
 ·have q:=zkn A t u;exact ⟨q.2.2.1,q.2.2.2.1,q.2.2.2.2,q.1⟩
 have q:=zkn D t u;have:=q.1;exact ⟨q.2.2.1,q.2.2.2.1,q.2.2.2.2,by omega⟩
theorem Kept.at (k:Kept d h ts l tau hi) (r:Right d h ts) {p:Int×Int} (A:p∈l):∃t∈ts,t.loc=p.1/\bq h.ab p.1=t/\et d.aj.length t.tag=true/\di d.fields t.tag t.len=true/\1<=p.1/\0<=t.len:=by obtain ⟨t,u,e⟩:=k.src p A;obtain ⟨q1,q2,q3,q4⟩:=zxx r u;exact ⟨t,u,e,by rw [<-e];exact q1.symm,q2,q3,by omega,zeo q3⟩
theorem Kept.lens (k:Kept d h ts l tau hi) (r:Right d h ts):∀p∈l,0<=(bq h.ab p.1).len:=fun p u=>by obtain ⟨t,-,-,e,-,-,-,q⟩:=k.at r u;rw [e];exact q
end
section
variable {d:be} {h x:bd} {ts:List bo} {l:List (Int×Int)} {tau:Int->Int} {hi:Int}
end
theorem zx6 {ws:List Int} :∀(l:List Int) (lo:Int),LaidP ws lo (l.zip (gj ws lo l)) (toR ws lo l)
 | [],_=>rfl
 | a::l,lo=>by
   have u:=zx6 (ws:=ws) l (lo+(3+wd ws (a+1)));refine ⟨rfl,?_⟩;have e:lo+3+(bq ws a).len=lo+(3+wd ws (a+1)):=by show lo+3+wd ws (a+1)=_;omega
   show LaidP ws (lo+3+(bq ws a).len) (l.zip (gj ws (lo+(3+wd ws (a+1))) l)) (toR ws (lo+(3+wd ws (a+1))) l);rw [e];exact u
theorem zx7:∀(l m:List Int),l.length=m.length->(l.zip m).map (·.1)=l
 | [],_,_=>by simp
 | a::l,[],h=>by simp at h
 | a::l,b::m,h=>by show a::(l.zip m).map (·.1)=a::l;rw [zx7 l m (by simpa using h)]
def mm (h:bd) (stay:List bo) (order:List Int) (lo:Int):List (Int×Int):=(stay.map fun t=>(t.loc,t.loc))++order.zip (gj h.ab lo order)
section
variable {d:be} {h:bd} {ts:List bo}
end
def gh (live:List Int) (ys os:List bo):List Int:=((os.map bo.loc).filter (live.contains ·))++((ys.map bo.loc).filter (live.contains ·))
theorem zyd {order news:List Int} (L:order.Nodup) (O:(0:Int)∉order) (W:order.length=news.length):∀q∈order.zip news,gp order news q.1=q.2:=by
 intro q N;obtain ⟨k,J,e⟩:=List.mem_iff_getElem.1 N;rw [List.length_zip]at J;have h1:order[k]'(by omega)=q.1:=by rw [<-e,List.getElem_zip]
 have G:news[k]'(by omega)=q.2:=by rw [<-e,List.getElem_zip]
 have D:q.1∈order:=h1 ▸ gm _;rcases zxe order q.1 with ⟨A,-⟩ | ⟨j,A,I⟩
 ·exact absurd D A
 obtain ⟨V,F⟩:=List.getElem?_eq_some_iff.1 A;have u:j=k:=(List.getElem_inj (xs:=order) L).1 (F.trans h1.symm);subst u;unfold gp;have h0:q.1≠0:=fun E=>O (by rw [<-E];exact D);rw [if_neg (by rintro (c | c);exact h0 c;omega),I,zen (by omega),G]
theorem zye (ws:List Int):∀(l:List Int) (lo:Int),toR ws lo l=lo+(l.map fun a=>3+wd ws (a+1)).sum
 | [],lo=>by show lo=lo+0;omega
 | a::l,lo=>by show toR ws (lo+(3+wd ws (a+1))) l=_;rw [zye ws l,List.map_cons,List.sum_cons];omega
section
variable {d:be} {h:bd} {ts:List bo}
theorem Kept.ord {order:List Int} {lo:Int} {tau:Int->Int} (r:Right d h ts) (k:Kept d h ts (mm h [] order lo) tau (toR h.ab lo order)):∀j,(J:j<order.length)->∃a:Nat,order[j]=a/\a+2<h.ab.length/\(a:Int)+3+(bq h.ab a).len<=h.ab.length/\mw d (bq h.ab a)/\0<=toR h.ab lo (order.take j)/\toR h.ab lo (order.take j)+3+(bq h.ab a).len<=h.ab.length:=by
 intro j J;have V:=zwh h.ab order lo;have A:=zxd h.ab order lo j J;rw [List.getElem?_eq_getElem (by omega)]at A;have A:=ojq A;have L:(order[j],(gj h.ab lo order)[j]'(by omega))∈mm h [] order lo:=by unfold mm;rw [List.map_nil,List.nil_append];refine List.mem_iff_getElem.2 ⟨j,by rw [List.length_zip];omega,by rw [List.getElem_zip]⟩
 obtain ⟨t,G,I,u,-,-,q1,q2⟩:=k.at r L;have N:=(zxv k.laid (k.lens r)).2 _ L;have E:h.ae+1<=(gj h.ab lo order)[j]'(by omega):=N.1;have F:(gj h.ab lo order)[j]'(by omega)+3+(bq h.ab order[j]).len<=toR h.ab lo order:=N.2;have O:=zsg r.sized r.both t G;have Y:t.fin=t.loc+3+t.len:=rfl;have W:=k.top;have Z:=r.sized.ae;have q1:1<=order[j]:=q1;have I:t.loc=order[j]:=I;have u:bq h.ab order[j]=t:=u;have D:((order[j].toNat:Nat):Int)=order[j]:=by omega
 rw [A,u]at F;rw [A]at E;refine ⟨order[j].toNat,D.symm,by omega,?_,?_,by omega,?_⟩
 ·rw [D,u];omega
 ·rw [D,u];by_cases X:t.loc<=h.ae
  ·exact (zuv r G X).fit
  exact (zu7 r G (by omega)).2.2.2.1
 rw [D,u];omega
theorem zyf {D A:List bo} (r:Right d h ts) (e1:cd d.aj.length d.fields h.ab 1 h.bg=some D) (e2:cd d.aj.length d.fields h.ab (h.ae+1) h.bj=some A) (rs:List Int) (hr:∀v∈rs,dv ts v=true) (hl:gi d h rs<=h.old):
 Kept d h ts (mm h [] (gh (cg d h rs) D A) (h.ae+1)) (gp (gh (cg d h rs) D A) (gj h.ab (h.ae+1) (gh (cg d h rs) D A))) (toR h.ab (h.ae+1) (gh (cg d h rs) D A))/\(∀v∈rs,v=0\/∃q∈mm h [] (gh (cg d h rs) D A) (h.ae+1),q.1=v)/\toR h.ab (h.ae+1) (gh (cg d h rs) D A)=h.ae+1+gi d h rs/\(gh (cg d h rs) D A).Nodup/\(∀v,v∈gh (cg d h rs) D A↔ki nz (dr d.fields h.ab) rs v):=by
 obtain ⟨l1,l2⟩:=zvn r hr;have z1:=r.sized.ae;have z2:=r.sized.old;have z3:=r.sized.len;have z4:=r.sized.bg;have ai:ts=D++A:=by obtain ⟨an,al,f1,f2,rfl⟩:=zko r.both;rw [e1]at f1;rw [e2]at f2;rw [ojq f1,ojq f2]
 have aa:∀ {v:Int},nz v=true->v≠0:=fun {v} h e=>by subst e;cases h
 have ac:∀v,ki nz (dr d.fields h.ab) rs v->v≠0:=fun v O=>by
  apply ki.ind O
  ·intro _ _ h2
   exact aa h2
  intro _ _ _ _ h2 _
  exact aa h2
 have E:∀v,v∈gh (cg d h rs) D A↔ki nz (dr d.fields h.ab) rs v:=fun v=>by
  unfold gh;rw [List.mem_append,List.mem_filter,List.mem_filter,List.contains_iff_mem,l2];constructor
  ·rintro (h | h)<;>exact h.2
  intro O;obtain ⟨t,F,rfl⟩:=zvl r hr O;rw [ai]at F;rcases List.mem_append.1 F with F | F
  ·exact Or.inr ⟨List.mem_map.2 ⟨t,F,rfl⟩,O⟩
  exact Or.inl ⟨List.mem_map.2 ⟨t,F,rfl⟩,O⟩
 have J:∀(l:List bo),l.Pairwise (fun t u=>t.fin<=u.loc)->(∀t∈l,0<=t.len)->(l.map bo.loc).Nodup:=fun l hp h0=>by refine List.Pairwise.map _ (fun a b L e=>?_) (List.Pairwise.imp_of_mem (fun {a b} X hb L=>And.intro X L) hp);have q:=h0 a L.1;have q1:a.fin=a.loc+3+a.len:=rfl;have:=L.2;omega
 have ah:=J D (zxq _ _ D (nlq _) e1) fun t F=>zeo (zkn e1 t F).2.2.2.2;have af:=J A (zxq _ _ A (nlq _) e2) fun t F=>zeo (zkn e2 t F).2.2.2.2;have N:(gh (cg d h rs) D A).Nodup:=by unfold gh;refine List.nodup_append.2 ⟨af.sublist List.filter_sublist,ah.sublist List.filter_sublist,?_⟩;intro a X b hb e;obtain ⟨t,F,rfl⟩:=List.mem_map.1 (List.mem_filter.1 X).1;obtain ⟨u,hu,rfl⟩:=List.mem_map.1 (List.mem_filter.1 hb).1;have q1:=(zkn e2 t F).1;have q2:=zkn e1 u hu;have q3:=q2.2.1;have q4:=zeo q2.2.2.2.2;have q5:u.fin=u.loc+3+u.len:=rfl;omega
 have ad:toR h.ab (h.ae+1) (gh (cg d h rs) D A)=h.ae+1+gi d h rs:=by rw [zye,zvo r hr N E]
 have Z:(gh (cg d h rs) D A).length=(gj h.ab (h.ae+1) (gh (cg d h rs) D A)).length:=(zwh _ _ _).symm;have V:mm h [] (gh (cg d h rs) D A) (h.ae+1)=(gh (cg d h rs) D A).zip (gj h.ab (h.ae+1) (gh (cg d h rs) D A)):=by unfold mm;rw [List.map_nil,List.nil_append]
 have I:(mm h [] (gh (cg d h rs) D A) (h.ae+1)).map (·.1)=gh (cg d h rs) D A:=by rw [V,zx7 _ _ Z]
 have ak:(0:Int)∉gh (cg d h rs) D A:=fun hc=>ac 0 ((E 0).1 hc) rfl;have Y:∀v,ki nz (dr d.fields h.ab) rs v->∃q∈mm h [] (gh (cg d h rs) D A) (h.ae+1),q.1=v:=fun v O=>by
  have hm:v∈(mm h [] (gh (cg d h rs) D A) (h.ae+1)).map (·.1):=by rw [I];exact (E v).2 O
  obtain ⟨q,W,e⟩:=List.mem_map.1 hm;exact ⟨q,W,e⟩
 have G:∀q∈mm h [] (gh (cg d h rs) D A) (h.ae+1),ki nz (dr d.fields h.ab) rs q.1:=fun q W=>(E q.1).1 (by rw [<-I];exact List.mem_map.2 ⟨q,W,rfl⟩);refine ⟨⟨fun q W=>zvl r hr (G q W),?_,by rw [I];exact N,?_,?_,?_,by rw [ad];omega⟩,fun v O=>?_,ad,N,E⟩
 ·rw [V];exact zx6 _ _
 ·intro q W a X;by_cases h0:wd h.ab a=0
  ·exact Or.inl h0
  refine Or.inr (Y _ (ki.step (G q W) ?_ ?_))
  ·unfold dr;exact List.mem_map.2 ⟨a,X,rfl⟩
  unfold nz;simpa using h0
 ·rw [V];exact zyd N ak Z
 ·unfold gp;rw [if_pos (Or.inl rfl)]
 by_cases h0:v=0
 ·exact Or.inl h0
 exact Or.inr (Y v (ki.root O (by unfold nz;simpa using h0)))
end
end Go.Proofs.YtjdnmblggdobgaaGreat
