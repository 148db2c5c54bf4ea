import Derived.Test.YtjdnmblggdobgaaGreatJHzNHzR
import Derived.Test.YtjdnmblggdobgaaGreatJHyGHyJ
import Derived.Test.YtjdnmblggdobgaaGreatJHyBHzA
namespace Go.Proofs.YtjdnmblggdobgaaGreat
open Go.RowKit Go.Maps
section
variable {d:be} {h0:bd} {ts:List bp} {dn:Int->Prop}
end
theorem zxc {ws:List Int} :∀ {l:List (Int×bp)} {lo hi:Int},Laid lo l hi->(∀p∈l,p.2.len=wd ws (p.1+1))->gz ws lo (l.map (·.1))=l.map (·.2.loc)/\toR ws lo (l.map (·.1))=hi
 | [],_,_,h,_=>⟨rfl,h⟩
 | p::l,lo,hi,h,hs=>by
   have A:=hs p (List.mem_cons_self ..);have h1:=h.1;have e:lo+(3+wd ws (p.1+1))=p.2.fin:=by rw [<-A];unfold bp.fin;omega
   have u:=zxc h.2 fun q D=>hs q (List.mem_cons_of_mem _ D);constructor
   ·show lo::gz ws (lo+(3+wd ws (p.1+1))) (l.map (·.1))=p.2.loc::l.map (·.2.loc);rw [e,u.1,h1]
   show toR ws (lo+(3+wd ws (p.1+1))) (l.map (·.1))=hi;rw [e];exact u.2
theorem zxe (l:List Int) (v:Int):(v∉l/\j5 l v= -1)\/∃k:Nat,l[k]? =some v/\j5 l v=k:=by
 unfold j5 idx;cases e:l.findIdx? (fun x=>decide (x=v))with
 | none=>
   refine Or.inl ⟨fun D=>?_,rfl⟩;have:=List.findIdx?_eq_none_iff.1 e v D;simp at this
 | some k=>
   obtain ⟨u,A,-⟩:=List.findIdx?_eq_some_iff_getElem.1 e;refine Or.inr ⟨k,?_,rfl⟩;rw [List.getElem?_eq_getElem u,of_decide_eq_true A]
theorem zxf {l:List (Int×bp)} (A:(l.map (·.1)).Nodup) (E:(0:Int)∉l.map (·.1)) (v:Int):mm (l.map (·.1)) (l.map (·.2.loc)) v=turnM l v:=by
 unfold mm turnM;rcases zxe (l.map (·.1)) v with ⟨h1,u⟩ | ⟨k,h1,u⟩
 ·rw [if_pos (Or.inr (by omega)),zur h1];rfl
 have D:v≠0:=fun e=>E (by rw [<-e];exact List.mem_of_getElem? h1);rw [if_neg (by rintro (q | q);exact D q;omega),u];rw [List.getElem?_map]at h1;cases hp:l[k]? with
 | none=>rw [hp]at h1;cases h1
 | some p=>
   rw [hp]at h1;have h1:p.1=v:=ojq h1;subst h1;rw [zus (List.mem_of_getElem? hp) A];unfold wd;rw [show ((k:Int)).toNat=k by omega,List.getElem?_map,hp];rfl
section
variable {d:be} {ge order news:List Int}
theorem zxg (u new:Nat):∀(n:Nat) (ws:List Int),new+n<=ws.length->∀a:Int,0<=a->wd (putN d ge order news u new n ws) a=if (new:Int)<=a/\a<new+n then putW d ge order news u (a - new).toNat else wd ws a
 | 0,ws,_,a,_=>by rw [if_neg (by omega)];rfl
 | n+1,ws,h,a,h0=>by
   show wd ((putN d ge order news u new n ws).set (new+n) (putW d ge order news u n)) a=_;by_cases e:a=((new+n:Nat):Int)
   ·subst e;rw [zsa (by rw [zwd];omega),if_pos (by omega),show (((new+n:Nat):Int) - new).toNat=n by omega]
   rw [zr9 (by omega),zxg u new n ws (by omega) a h0];by_cases c:(new:Int)<=a/\a<new+n
   ·rw [if_pos c,if_pos (by omega)]
   rw [if_neg c,if_neg (by omega)]
structure PutOk (ge:List Int) (n:Nat) (p:Int×Int):Prop where
 src:0<=p.1
 dst:0<=p.2
 len:0<=(bj ge p.1).len
 fin:p.2+3+(bj ge p.1).len<=n
theorem zxh {ws:List Int} {p:Int×Int} (h:PutOk ge ws.length p) {a:Int} (h0:0<=a):wd (putT d ge order news ws p.1 p.2) a=if p.2<=a/\a<p.2+3+(bj ge p.1).len then putW d ge order news p.1.toNat (a - p.2).toNat else wd ws a:=by
 have h1:=h.dst;have u:=h.len;have A:=h.fin;have e:((p.2.toNat:Nat):Int)=p.2:=by omega
 unfold putT;rw [zxg _ _ _ _ (by omega) _ h0,e];by_cases c:p.2<=a/\a<p.2+3+(bj ge p.1).len
 ·rw [if_pos (by omega),if_pos c]
 rw [if_neg (by omega),if_neg c]
theorem zxi:∀(l:List (Int×Int)) (ws:List Int) (a:Int),0<=a->(∀p∈l,PutOk ge ws.length p)->(∀p∈l,¬(p.2<=a/\a<p.2+3+(bj ge p.1).len))->wd (mi d ge order news l ws) a=wd ws a
 | [],_,_,_,_,_=>rfl
 | p::l,ws,a,h0,h1,h2=>by show wd (mi d ge order news l (putT d ge order news ws p.1 p.2)) a=_;rw [zxi l _ a h0 (fun q u=>by rw [zwi];exact h1 q (List.mem_cons_of_mem _ u)) fun q u=>h2 q (List.mem_cons_of_mem _ u),zxh (h1 p (List.mem_cons_self ..)) h0,if_neg (h2 p (List.mem_cons_self ..))]
theorem zxj:∀(l:List (Int×Int)) (ws:List Int) (a:Int),0<=a->(∀p∈l,PutOk ge ws.length p)->l.Pairwise (fun p q=>p.2+3+(bj ge p.1).len<=q.2)->∀p∈l,p.2<=a->a<p.2+3+(bj ge p.1).len->wd (mi d ge order news l ws) a=putW d ge order news p.1.toNat (a - p.2).toNat
 | [],_,_,_,_,_,_,u,_,_=>by cases u
 | q::l,ws,a,h0,h1,h2,p,u,h3,h4=>by
   rw [List.pairwise_cons]at h2;show wd (mi d ge order news l (putT d ge order news ws q.1 q.2)) a=_;have A:∀p∈l,PutOk ge (putT d ge order news ws q.1 q.2).length p:=fun p u=>by rw [zwi];exact h1 p (List.mem_cons_of_mem _ u)
   rcases List.mem_cons.1 u with rfl | u
   ·rw [zxi l _ a h0 A fun q D=>by have:=h2.1 q D;omega,zxh (h1 p (List.mem_cons_self ..)) h0,if_pos ⟨h3,h4⟩]
   exact zxj l _ a h0 A h2.2 p u h3 h4
theorem zxk (ts:List bp) (ws:List Int):stayR d ge order news ts ws=mi d ge order news (ts.map fun t=>(t.loc,t.loc)) ws:=by unfold stayR mi;rw [List.foldl_map]
end
theorem zxl {l m:List Int} (A:l.length=m.length) (h:∀i:Nat,i<l.length->wd l i=wd m i):l=m:=by refine List.ext_getElem A fun i h1 u=>?_;have:=h i h1;rwa [zen h1,zen u]at this
theorem zxm (n:Nat) (a:Int):wd (List.replicate n 0) a=0:=by unfold wd;rw [List.getElem?_replicate];split<;>rfl
theorem zxn {α β γ:Type} (f:α->β) (g:α->γ):∀l:List α,(l.map f).zip (l.map g)=l.map fun x=>(f x,g x)
 | []=>rfl
 | x::l=>by show (f x,g x)::(l.map f).zip (l.map g)=_;rw [zxn f g l];rfl
theorem zxq {n:Nat} {fs:List (List bo)} {ws:List Int} {A:Int} :∀(f:Nat) (lo:Int) (ts:List bp),(A - lo).toNat<=f->b9 n fs ws lo A=some ts->ts.Pairwise (fun t u=>t.fin<=u.loc)
 | f,lo,ts,hf,e=>by
   by_cases D:lo<A
   ·by_cases E:ip n fs ws lo A=true
    ·rw [zet D E]at e;cases hx:b9 n fs ws (bj ws lo).fin A with
     | none=>rw [hx]at e;cases e
     | some ts'=>
       rw [hx]at e;have e:=ojq e;subst e;have G:=zep E;match f,hf with
       | 0,hf=>omega
       | f+1,hf=>
         refine List.pairwise_cons.2 ⟨fun u F=>?_,zxq f _ ts' (by omega) hx⟩;exact (zsf f _ ts' (by omega) hx u F).1
    rw [zeu D E]at e;cases e
   rw [zes D]at e;have e:=ojq e;subst e;exact List.Pairwise.nil
def LaidP (ge:List Int):Int->List (Int×Int)->Int->Prop
 | lo,[],hi=>lo=hi
 | lo,p::r,hi=>p.2=lo/\LaidP ge (lo+3+(bj ge p.1).len) r hi
def lr (ge:List Int) (p:Int×Int):bp:=⟨p.2,(bj ge p.1).tag,(bj ge p.1).len,(bj ge p.1).hash⟩
structure Kept (d:be) (h:bd) (ts:List bp) (l:List (Int×Int)) (tau:Int->Int) (hi:Int):Prop where
 src:∀p∈l,∃t∈ts,t.loc=p.1
 laid:LaidP h.ab (h.ae+1) l hi
 nd:(l.map (·.1)).Nodup
 refs:∀p∈l,∀a∈refsOf d.fields (bj h.ab p.1),wd h.ab a=0\/∃q∈l,q.1=wd h.ab a
 tq:∀q∈l,tau q.1=q.2
 zero:tau 0=0
 top:hi<=h.ab.length
structure Into (d:be) (h:bd) (l:List (Int×Int)) (tau:Int->Int) (hi:Int) (x:bd):Prop where
 len:x.ab.length=h.ab.length
 yo:x.ae=h.ae
 ol:x.old=h.old
 yt:x.bg=1
 ot:x.bk=hi
 no:x.ap= []
 nx:x.next=h.next
 word:∀p∈l,∀i:Nat,(i:Int)<3+(bj h.ab p.1).len->wd x.ab (p.2+i)=if (decide (3<=i)&&jh d.fields (bj h.ab p.1) (i - 3))=true then tau (wd h.ab (p.1+i)) else wd h.ab (p.1+i)
 rest:∀a:Int,0<=a->(a<=h.ae\/hi<=a)->wd x.ab a=0
theorem zxv {ge:List Int} :∀ {l:List (Int×Int)} {lo hi:Int},LaidP ge lo l hi->(∀p∈l,0<=(bj ge p.1).len)->lo<=hi/\∀p∈l,lo<=p.2/\p.2+3+(bj ge p.1).len<=hi
 | [],lo,hi,h,_=>⟨Int.le_of_eq h,fun p u=>by cases u⟩
 | q::r,lo,hi,h,hl=>by
   have A:=zxv h.2 fun p u=>hl p (List.mem_cons_of_mem _ u);have h0:=hl q (List.mem_cons_self ..);have D:=h.1;refine ⟨by omega,fun p u=>?_⟩;rcases List.mem_cons.1 u with rfl | u
   ·exact ⟨by omega,by omega⟩
   have:=A.2 p u;exact ⟨by omega,this.2⟩
theorem zxw {α β:Type} {f:α->β} :∀ {l:List α},(l.map f).Nodup->∀ {x y:α},x∈l->y∈l->f x=f y->x=y
 | [],_,_,_,hx,_,_=>by cases hx
 | a::l,hn,x,y,hx,hy,e=>by
   rw [List.map_cons,List.nodup_cons]at hn;rcases List.mem_cons.1 hx with A | A
   ·rcases List.mem_cons.1 hy with u | u
    ·rw [A,u]
    exact absurd (List.mem_map.2 ⟨y,u,by rw [<-e,A]⟩) hn.1
   rcases List.mem_cons.1 hy with u | u
   ·exact absurd (List.mem_map.2 ⟨x,A,by rw [e,u]⟩) hn.1
   exact zxw hn.2 A u e
section
variable {d:be} {h x:bd} {ts:List bp} {l:List (Int×Int)} {tau:Int->Int} {hi:Int}
theorem zxx (r:Right d h ts) {t:bp} (u:t∈ts):t=bj h.ab t.loc/\eo d.aj.length t.tag=true/\dh d.fields t.tag t.len=true/\1<=t.loc:=by
 have z:=r.sized;have G:=z.ae;obtain ⟨F,E,A,D,rfl⟩:=zko r.both;rcases List.mem_append.1 u with u | u
 ·have q:=zkn A t u;exact ⟨q.2.2.1,q.2.2.2.1,q.2.2.2.2,q.1⟩
 have q:=zkn D t u;have:=q.1;exact ⟨q.2.2.1,q.2.2.2.1,q.2.2.2.2,by omega⟩
theorem Kept.at (k:Kept d h ts l tau hi) (r:Right d h ts) {p:Int×Int} (A:p∈l):∃t∈ts,t.loc=p.1/\bj h.ab p.1=t/\eo d.aj.length t.tag=true/\dh d.fields t.tag t.len=true/\1<=p.1/\0<=t.len:=by obtain ⟨t,u,e⟩:=k.src p A;obtain ⟨q1,q2,q3,q4⟩:=zxx r u;exact ⟨t,u,e,by rw [<-e];exact q1.symm,q2,q3,by omega,zeo q3⟩
theorem Kept.lens (k:Kept d h ts l tau hi) (r:Right d h ts):∀p∈l,0<=(bj h.ab p.1).len:=fun p u=>by obtain ⟨t,-,-,e,-,-,-,q⟩:=k.at r u;rw [e];exact q
theorem Into.head (n:Into d h l tau hi x) (k:Kept d h ts l tau hi) (r:Right d h ts) {p:Int×Int} (u:p∈l):bj x.ab p.2=lr h.ab p:=by have h0:=k.lens r p u;have A:=n.word p u 0 (by omega);have D:=n.word p u 1 (by omega);have E:=n.word p u 2 (by omega);simp at A D E;unfold bj lr;rw [A,D,E];rfl
theorem Into.walk (n:Into d h l tau hi x) (k:Kept d h ts l tau hi) (r:Right d h ts):∀(m:List (Int×Int)) (lo:Int),(∀p∈m,p∈l)->LaidP h.ab lo m hi->b9 d.aj.length d.fields x.ab lo hi=some (m.map (lr h.ab))
 | [],lo,_,u=>by have u:lo=hi:=u;rw [zes (by omega)];rfl
 | p::m,lo,hs,u=>by
   have E:=hs p (List.mem_cons_self ..);have L:=u.1;have D:=zxv u fun q F=>k.lens r q (hs q F);have W:=D.2 p (List.mem_cons_self ..);obtain ⟨t,-,-,J,q1,q2,-,q3⟩:=k.at r E;have A:=n.head k r E;rw [L]at A;have V:=k.lens r p E;have I:(bj x.ab lo).fin=lo+3+(bj h.ab p.1).len:=by show lo+3+(bj x.ab lo).len=_;rw [A];rfl
   have G:ip d.aj.length d.fields x.ab lo hi=true:=by
    unfold ip;have N:wd x.ab lo=t.tag:=by rw [<-J];exact congrArg bp.tag A
    have O:wd x.ab (lo+1)=t.len:=by rw [<-J];exact congrArg bp.len A
    rw [I,N,O,q1,q2,decide_eq_true (by omega:lo+3<=hi),decide_eq_true (by omega:lo+3+(bj h.ab p.1).len<=hi)];rfl
   rw [zet (by omega) G,I,Into.walk n k r m _ (fun q F=>hs q (List.mem_cons_of_mem _ F)) u.2,A];rfl
theorem Into.ref (n:Into d h l tau hi x) (k:Kept d h ts l tau hi) {p:Int×Int} (u:p∈l) {m:Nat} (F:(m:Int)<(bj h.ab p.1).len) (A:jh d.fields (bj h.ab p.1) m=true):wd x.ab (p.2+3+m)=tau (wd h.ab (p.1+3+m))/\(wd h.ab (p.1+3+m)=0\/∃q∈l,q.1=wd h.ab (p.1+3+m)):=by
 have w:=n.word p u (3+m) (by omega);rw [show 3+m - 3=m by omega,A,decide_eq_true (by omega:3<=3+m),Bool.and_true,if_pos rfl]at w;have D:p.2+((3+m:Nat):Int)=p.2+3+m:=by omega
 have E:p.1+((3+m:Nat):Int)=p.1+3+m:=by omega
 rw [D,E]at w;refine ⟨w,k.refs p u _ ?_⟩;exact ztp (x:=bj h.ab p.1) F A
theorem Into.right (n:Into d h l tau hi x) (k:Kept d h ts l tau hi) (r:Right d h ts):Right d x (l.map (lr h.ab)):=by
 have z:=r.sized;have z1:=z.ae;have z2:=z.old;have z3:=z.len;have W:=zxv k.laid (k.lens r);have ac:=k.top;have G:=r.tops;unfold ju at G;simp only [Bool.and_eq_true,decide_eq_true_eq]at G;have F:∀p∈l,∀a∈refsOf d.fields (lr h.ab p),wd x.ab a=0\/∃q∈l,q.2=wd x.ab a:=fun p A a J=>by
  obtain ⟨m,e,X,hr⟩:=zto J;rw [zva (x:=lr h.ab p) (y:=bj h.ab p.1) rfl]at hr;obtain ⟨f1,I⟩:=n.ref k A X hr;have e:a=p.2+3+m:=e;rw [e,f1];rcases I with I | ⟨q,D,I⟩
  ·rw [I,k.zero];exact Or.inl rfl
  rw [<-I,k.tq q D];exact Or.inr ⟨q,D,rfl⟩
 refine ⟨r.ok,?_,?_,?_,?_,?_,?_,?_,?_,?_,?_,?_⟩
 ·have:=r.parts;unfold jg at this ⊢;rw [n.yo,n.ol];exact this
 ·have:=r.ab;unfold iv at this ⊢;rw [n.yo,n.ol,n.len];exact this
 ·unfold ju;rw [n.yt,n.yo,n.ot,n.ol,n.nx,decide_eq_true (by omega:(1:Int)<=1),decide_eq_true (by omega:(1:Int)<=h.ae+1),decide_eq_true (by omega:h.ae+1<=hi),decide_eq_true (by omega:hi<=h.ae+h.old+1),decide_eq_true G.2];rfl
 ·unfold im;rw [n.yt,zes (by omega),n.yo,n.ot,n.walk k r l _ (fun p A=>A) k.laid];rfl
 ·rw [List.any_map,List.any_eq_false];intro p A;obtain ⟨t,ht,-,e,-⟩:=k.at r A;have:=List.any_eq_false.1 r.hash t ht;unfold iy at this;show ¬(decide ((bj h.ab p.1).hash<1)||decide (x.next<=(bj h.ab p.1).hash))=true;rw [e,n.nx];exact this
 ·rw [List.map_map];have N:∀m:List (Int×Int),(∀p∈m,p∈l)->(m.map (·.1)).Nodup->(m.map (bp.hash∘lr h.ab)).Nodup:=by
   intro m;induction m with
   | nil=>intro _ _;exact List.nodup_nil
   | cons p m ih=>
     intro Z Y;rw [List.map_cons,List.nodup_cons]at Y;rw [List.map_cons,List.nodup_cons];refine ⟨fun hc=>?_,ih (fun q D=>Z q (List.mem_cons_of_mem _ D)) Y.2⟩;obtain ⟨q,D,e⟩:=List.mem_map.1 hc;obtain ⟨t,ht,et,O,-⟩:=k.at r (Z p (List.mem_cons_self ..));obtain ⟨u,hu,eu,V,-⟩:=k.at r (Z q (List.mem_cons_of_mem _ D));have e:(bj h.ab q.1).hash=(bj h.ab p.1).hash:=e;rw [O,V]at e;have:=zxw r.dup hu ht e;subst this;exact Y.1 (List.mem_map.2 ⟨q,D,by rw [<-eu,et]⟩)
  exact N l (fun p A=>A) k.nd
 ·rw [List.any_map,List.any_eq_false];intro p A;show ¬(fq d.fields x.ab (lr h.ab p) fun n=>!cw (l.map (lr h.ab)) n)=true;unfold fq;rw [Bool.not_eq_true,List.any_eq_false];intro a J;show ¬(!cw (l.map (lr h.ab)) (wd x.ab a))=true;rw [zud];rcases F p A a J with e | ⟨q,D,e⟩
  ·rw [e];simp
  have X:wd x.ab a∈(l.map (lr h.ab)).map bp.loc:=by rw [List.map_map];exact List.mem_map.2 ⟨q,D,e⟩
  rw [List.contains_iff_mem.2 X];simp
 ·rw [List.any_eq_false];intro v E;have hz:∀i:Nat,(hl:i<x.ab.length)->((i:Int)<=h.ae\/hi<=(i:Int))->x.ab[i]=0:=fun i hl hc=>by
   have:=n.rest i (by omega) hc;rwa [zen hl]at this
  have aa:v=0:=by
   unfold kf at E;rw [n.yo,n.yt,n.ot]at E;rcases List.mem_append.1 E with E | E
   ·obtain ⟨i,L,e⟩:=List.mem_take_iff_getElem.1 E;rw [<-e];exact hz i (by omega) (by omega)
   rcases List.mem_append.1 E with E | E
   ·obtain ⟨i,L,e⟩:=List.mem_take_iff_getElem.1 (List.mem_of_mem_drop E);rw [<-e];exact hz i (by omega) (by omega)
   obtain ⟨i,L,e⟩:=List.mem_drop_iff_getElem.1 E;rw [<-e];exact hz _ (by omega) (by omega)
  rw [aa];simp
 ·rw [n.no];rfl
 ·rw [n.no];rfl
 rw [List.any_map,List.any_eq_false];intro p A;show ¬il d x (lr h.ab p)=true;unfold il fq;rw [Bool.not_eq_true,Bool.and_eq_false_iff];refine Or.inr (List.any_eq_false.2 fun a J hc=>?_);have hc:=zuw.1 hc;rw [n.yo]at hc;rcases F p A a J with e | ⟨q,D,e⟩
 ·omega
 have:=(W.2 q D).1;omega
theorem Kept.leads (k:Kept d h ts l tau hi) {rs:List Int} (E:∀v∈rs,v=0\/∃q∈l,q.1=v):∀v∈rs.map tau,cw (l.map (lr h.ab)) v=true:=fun v G=>by
 obtain ⟨u,F,rfl⟩:=List.mem_map.1 G;have:=zud (l.map (lr h.ab)) (tau u);rcases E u F with e | ⟨q,A,e⟩
 ·rw [e,k.zero];unfold cw;simp
 rw [<-e,k.tq q A]at this ⊢;have D:q.2∈(l.map (lr h.ab)).map bp.loc:=by rw [List.map_map];exact List.mem_map.2 ⟨q,A,rfl⟩
 rw [List.contains_iff_mem.2 D]at this;simpa using this
end
def shT (met:List Int) (v:Int):List Int:=if v=0 then met else if met.contains v then met else met++ [v]
def shN (met:List Int) (v:Int):Int:=if v=0 then 0 else j5 (shT met v) v+1
structure je where
 met:List Int
 o:List Int
def je.turn (s:je) (v:Int):je:=⟨shT s.met v,s.o++ [shN s.met v]⟩
def je.word (d:be) (ws:List Int) (t:bp) (s:je) (n:Nat):je:=if jh d.fields t n then s.turn (wd ws (t.loc+3+n)) else ⟨s.met,s.o++ [wd ws (t.loc+3+n)]⟩
def je.thing (d:be) (ws:List Int) (s:je) (a:Int):je:=(List.range (bj ws a).len.toNat).foldl (je.word d ws (bj ws a)) ⟨s.met,s.o++ [(bj ws a).tag,(bj ws a).len,(bj ws a).hash]⟩
def je.all (d:be) (ws:List Int):Nat->Nat->je->je
 | 0,_,s=>s
 | f+1,i,s=>match s.met[i]? with
   | none=>s
   | some a=>je.all d ws f (i+1) (s.thing d ws a)
def j6 (d:be) (h:bd) (rs:List Int):List Int:=(je.all d h.ab (h.ab.length+1) 0 (rs.foldl je.turn ⟨[],[]⟩)).o
theorem zxy {α:Type} {p q:α->Bool} :∀(l:List α),(∀x∈l,p x=q x)->l.findIdx? p=l.findIdx? q
 | [],_=>rfl
 | x::l,h=>by rw [List.findIdx?_cons,List.findIdx?_cons,h x (List.mem_cons_self ..),zxy l fun y u=>h y (List.mem_cons_of_mem _ u)]
theorem zxz {tau:Int->Int} {v:Int} (m:List Int) (h:∀u∈m,tau u=tau v->u=v):j5 (m.map tau) (tau v)=j5 m v:=by
 unfold j5 idx;rw [List.findIdx?_map,zxy (q:=fun x=>decide (x=v)) m fun u A=>?_];show decide (tau u=tau v)=decide (u=v);by_cases e:u=v
 ·rw [e];simp
 rw [decide_eq_false e,decide_eq_false fun q=>e (h u A q)]
section
variable {d:be} {h x:bd} {ts:List bp} {l:List (Int×Int)} {tau:Int->Int} {hi:Int}
theorem zx0 {ge:List Int} :∀ {l:List (Int×Int)} {lo hi:Int},LaidP ge lo l hi->(∀p∈l,0<=(bj ge p.1).len)->(l.map (·.2)).Nodup
 | [],_,_,_,_=>List.nodup_nil
 | q::r,lo,hi,h,hl=>by have u:∀p∈r,0<=(bj ge p.1).len:=fun p A=>hl p (List.mem_cons_of_mem _ A);have h0:=hl q (List.mem_cons_self ..);have D:=h.1;rw [List.map_cons,List.nodup_cons];refine ⟨fun hc=>?_,zx0 h.2 u⟩;obtain ⟨p,A,e⟩:=List.mem_map.1 hc;have:=((zxv h.2 u).2 p A).1;omega
theorem Kept.inj (k:Kept d h ts l tau hi) (r:Right d h ts) {u v:Int} (E:∃q∈l,q.1=u) (F:∃q∈l,q.1=v) (e:tau u=tau v):u=v:=by obtain ⟨p,A,rfl⟩:=E;obtain ⟨q,D,rfl⟩:=F;rw [k.tq p A,k.tq q D]at e;rw [zxw (zx0 k.laid (k.lens r)) A D e]
theorem Kept.pos (k:Kept d h ts l tau hi) (r:Right d h ts) {v:Int} (A:∃q∈l,q.1=v):tau v≠0/\v≠0:=by obtain ⟨q,u,rfl⟩:=A;have h1:=((zxv k.laid (k.lens r)).2 q u).1;have E:=r.sized.ae;obtain ⟨t,-,-,-,-,-,D,-⟩:=k.at r u;rw [k.tq q u];exact ⟨by omega,by omega⟩
structure Sim (l:List (Int×Int)) (tau:Int->Int) (s s':je):Prop where
 met:s'.met=s.met.map tau
 o:s'.o=s.o
 kept:∀v∈s.met,∃q∈l,q.1=v
theorem Sim.turn (k:Kept d h ts l tau hi) (r:Right d h ts) {s D:je} (m:Sim l tau s D) {v:Int} (E:v=0\/∃q∈l,q.1=v):Sim l tau (s.turn v) (D.turn (tau v)):=by
 rcases E with rfl | E
 ·rw [k.zero];have F:∀m:List Int,shT m 0=m:=fun m=>by unfold shT;rw [if_pos rfl]
  have I:∀m:List Int,shN m 0=0:=fun m=>by unfold shN;rw [if_pos rfl]
  unfold je.turn;rw [F,F,I,I];exact ⟨m.met,by show D.o++ [0]=s.o++ [0];rw [m.o],m.kept⟩
 have G:=k.pos r E;have hc:(s.met.map tau).contains (tau v)=s.met.contains v:=by
  rw [Bool.eq_iff_iff,List.contains_iff_mem,List.contains_iff_mem];constructor
  ·intro J;obtain ⟨u,A,e⟩:=List.mem_map.1 J;rw [<-k.inj r (m.kept u A) E e];exact A
  exact fun J=>List.mem_map.2 ⟨v,J,rfl⟩
 have F:shT D.met (tau v)=(shT s.met v).map tau:=by
  unfold shT;rw [if_neg G.1,if_neg G.2,m.met,hc];split
  ·rfl
  rw [List.map_append];rfl
 have L:∀u∈shT s.met v,∃q∈l,q.1=u:=by
  intro u A;unfold shT at A;rw [if_neg G.2]at A;split at A
  ·exact m.kept u A
  rcases List.mem_append.1 A with A | A
  ·exact m.kept u A
  rw [List.mem_singleton]at A;rw [A];exact E
 have I:shN D.met (tau v)=shN s.met v:=by unfold shN;rw [if_neg G.1,if_neg G.2,F,zxz _ fun u A e=>k.inj r (L u A) E e]
 exact ⟨F,by show D.o++ [shN D.met (tau v)]=s.o++ [shN s.met v];rw [m.o,I],L⟩
theorem Sim.roots (k:Kept d h ts l tau hi) (r:Right d h ts):∀(rs:List Int) {s s':je},Sim l tau s s'->(∀v∈rs,v=0\/∃q∈l,q.1=v)->Sim l tau (rs.foldl je.turn s) ((rs.map tau).foldl je.turn s')
 | [],_,_,m,_=>m
 | v::rs,_,_,m,h=>Sim.roots k r rs (m.turn k r (h v (List.mem_cons_self ..))) fun u A=>h u (List.mem_cons_of_mem _ A)
theorem Sim.word (n:Into d h l tau hi x) (k:Kept d h ts l tau hi) (r:Right d h ts) {s u:je} (m:Sim l tau s u) {p:Int×Int} (A:p∈l) {i:Nat} (hi:(i:Int)<(bj h.ab p.1).len):Sim l tau (s.word d h.ab (bj h.ab p.1) i) (u.word d x.ab (lr h.ab p) i):=by
 unfold je.word;rw [zva (x:=lr h.ab p) (y:=bj h.ab p.1) rfl];cases hr:jh d.fields (bj h.ab p.1) i with
 | true=>
   obtain ⟨D,E⟩:=n.ref k A hi hr;simp only [if_true];show Sim l tau (s.turn (wd h.ab (p.1+3+i))) (u.turn (wd x.ab (p.2+3+i)));rw [D];exact m.turn k r E
 | false=>
   have w:=n.word p A (3+i) (by omega);rw [show 3+i - 3=i by omega,hr,Bool.and_false]at w;simp only [Bool.false_eq_true,if_false]at w ⊢;refine ⟨m.met,?_,m.kept⟩;show u.o++ [wd x.ab (p.2+3+i)]=s.o++ [wd h.ab (p.1+3+i)];rw [m.o,show p.2+3+(i:Int)=p.2+((3+i:Nat):Int) by omega,w,show p.1+((3+i:Nat):Int)=p.1+3+(i:Int) by omega]
theorem Sim.ab (n:Into d h l tau hi x) (k:Kept d h ts l tau hi) (r:Right d h ts) {p:Int×Int} (u:p∈l):∀(is:List Nat) {s s':je},Sim l tau s s'->(∀i∈is,(i:Int)<(bj h.ab p.1).len)->Sim l tau (is.foldl (je.word d h.ab (bj h.ab p.1)) s) (is.foldl (je.word d x.ab (lr h.ab p)) s')
 | [],_,_,m,_=>m
 | i::is,_,_,m,h=>Sim.ab n k r u is (m.word n k r u (h i (List.mem_cons_self ..))) fun j A=>h j (List.mem_cons_of_mem _ A)
theorem Sim.thing (n:Into d h l tau hi x) (k:Kept d h ts l tau hi) (r:Right d h ts) {s A:je} (m:Sim l tau s A) {a:Int} (D:∃q∈l,q.1=a):Sim l tau (s.thing d h.ab a) (A.thing d x.ab (tau a)):=by
 obtain ⟨p,u,rfl⟩:=D;rw [k.tq p u];unfold je.thing;rw [n.head k r u];refine Sim.ab n k r u _ ⟨m.met,?_,m.kept⟩ fun i hi=>?_
 ·show A.o++ [(bj h.ab p.1).tag,(bj h.ab p.1).len,(bj h.ab p.1).hash]=_;rw [m.o]
 have:=List.mem_range.1 hi;have h0:(lr h.ab p).len=(bj h.ab p.1).len:=rfl;omega
theorem Sim.all (n:Into d h l tau hi x) (k:Kept d h ts l tau hi) (r:Right d h ts):∀(f i:Nat) {s s':je},Sim l tau s s'->Sim l tau (je.all d h.ab f i s) (je.all d x.ab f i s')
 | 0,_,_,_,m=>m
 | f+1,i,s,s',m=>by
   rw [je.all,je.all,m.met,List.getElem?_map];cases ha:s.met[i]? with
   | none=>exact m
   | some a=>exact Sim.all n k r f (i+1) (m.thing n k r (m.kept a (List.mem_of_getElem? ha)))
theorem Into.shape (n:Into d h l tau hi x) (k:Kept d h ts l tau hi) (r:Right d h ts) {rs:List Int} (u:∀v∈rs,v=0\/∃q∈l,q.1=v):j6 d x (rs.map tau)=j6 d h rs:=by unfold j6;rw [n.len];exact (Sim.all n k r (h.ab.length+1) 0 (Sim.roots k r rs ⟨rfl,rfl,fun v A=>by cases A⟩ u)).o
end
theorem zx1 (d:be) (h:bd) (u:List bp) (order:List Int) (lo:Int):(rebD d h u order lo).ab.length=h.ab.length:=by unfold rebD;rw [zwm,zwl,List.length_replicate]
theorem zx3 {ge:List Int} :∀ {l:List (Int×Int)} {lo hi:Int},LaidP ge lo l hi->(∀p∈l,0<=(bj ge p.1).len)->l.Pairwise (fun p q=>p.2+3+(bj ge p.1).len<=q.2)
 | [],_,_,_,_=>List.Pairwise.nil
 | q::l,lo,hi,h,hl=>by have u:∀p∈l,0<=(bj ge p.1).len:=fun p A=>hl p (List.mem_cons_of_mem _ A);have h1:=h.1;refine List.pairwise_cons.2 ⟨fun p A=>?_,zx3 h.2 u⟩;have:=((zxv h.2 u).2 p A).1;omega
theorem zx6 {ws:List Int} :∀(l:List Int) (lo:Int),LaidP ws lo (l.zip (gz ws lo l)) (toR ws lo l)
 | [],_=>rfl
 | a::l,lo=>by
   have u:=zx6 (ws:=ws) l (lo+(3+wd ws (a+1)));refine ⟨rfl,?_⟩;have e:lo+3+(bj ws a).len=lo+(3+wd ws (a+1)):=by show lo+3+wd ws (a+1)=_;omega
   show LaidP ws (lo+3+(bj ws a).len) (l.zip (gz ws (lo+(3+wd ws (a+1))) l)) (toR ws (lo+(3+wd ws (a+1))) l);rw [e];exact u
theorem zx7:∀(l m:List Int),l.length=m.length->(l.zip m).map (·.1)=l
 | [],_,_=>by simp
 | a::l,[],h=>by simp at h
 | a::l,b::m,h=>by show a::(l.zip m).map (·.1)=a::l;rw [zx7 l m (by simpa using h)]
def kc (h:bd) (stay:List bp) (order:List Int) (lo:Int):List (Int×Int):=(stay.map fun t=>(t.loc,t.loc))++order.zip (gz h.ab lo order)
section
variable {d:be} {h:bd} {ts:List bp}
theorem zyb {u:List bp} {order:List Int} {lo:Int} (r:Right d h ts) (k:Kept d h ts (kc h u order lo) (mm order (gz h.ab lo order)) (toR h.ab lo order)):Into d h (kc h u order lo) (mm order (gz h.ab lo order)) (toR h.ab lo order) (rebD d h u order lo):=by
 have O:=r.sized.ae;have D:=zxv k.laid (k.lens r);have G:=k.top;have E:∀p∈kc h u order lo,PutOk h.ab (List.replicate h.ab.length (0:Int)).length p:=fun p A=>by obtain ⟨t,-,-,F,-,-,q1,q2⟩:=k.at r A;have:=D.2 p A;rw [List.length_replicate];exact ⟨by omega,by omega,by rw [F];exact q2,by omega⟩
 have I:(rebD d h u order lo).ab=mi d h.ab order (gz h.ab lo order) (kc h u order lo) (List.replicate h.ab.length 0):=by show mi d h.ab order (gz h.ab lo order) (order.zip (gz h.ab lo order)) (stayR d h.ab order (gz h.ab lo order) u (List.replicate h.ab.length 0))=_;rw [zxk];unfold mi kc;rw [List.foldl_append]
 refine ⟨zx1 d h u order lo,rfl,rfl,rfl,rfl,rfl,rfl,fun p A i hi=>?_,fun a J N=>?_⟩
 ·obtain ⟨t,-,-,F,-,-,q1,q2⟩:=k.at r A;have L:=D.2 p A;rw [I,zxj _ _ (p.2+i) (by omega) E (zx3 k.laid (k.lens r)) p A (by omega) (by omega)];unfold putW;rw [show (p.2+(i:Int) - p.2).toNat=i by omega,show ((p.1.toNat:Nat):Int)=p.1 by omega,show ((p.1.toNat+i:Nat):Int)=p.1+i by omega]
 rw [I,zxi _ _ a J E (fun p A hc=>by have:=D.2 p A;omega),zxm]
theorem Into.small {l:List (Int×Int)} {tau:Int->Int} {hi:Int} {x:bd} (n:Into d h l tau hi x) (k:Kept d h ts l tau hi) (r:Right d h ts) (Y:∀v∈h.ab,(Lit.int .i64 v).wf=true):∀v∈x.ab,(Lit.int .i64 v).wf=true:=by
 have z:=r.sized;have z1:=z.ae;have z2:=z.old;have z3:=z.len;have G:=zxv k.laid (k.lens r);have O:=k.top;have L:(Lit.int .i64 0).wf=true:=by decide
 have J:∀a:Int,(Lit.int .i64 (wd h.ab a)).wf=true:=fun a=>by
  unfold wd;cases e:h.ab[a.toNat]? with
  | none=>exact L
  | some v=>exact Y v (List.mem_of_getElem? e)
 have u:∀(m:List (Int×Int)) (lo:Int),LaidP h.ab lo m hi->∀a:Int,lo<=a->a<hi->∃p∈m,p.2<=a/\a<p.2+3+(bj h.ab p.1).len:=by
  intro m;induction m with
  | nil=>intro lo D a h1 N;have D:lo=hi:=D;omega
  | cons q m ih=>
    intro lo D a h1 N;have Z:=D.1;by_cases hc:a<q.2+3+(bj h.ab q.1).len
    ·exact ⟨q,List.mem_cons_self ..,by omega,hc⟩
    obtain ⟨p,E,e⟩:=ih _ D.2 a (by omega) N;exact ⟨p,List.mem_cons_of_mem _ E,e⟩
 intro v X;obtain ⟨i,F,e⟩:=List.mem_iff_getElem.1 X;rw [<-zen F]at e;rw [<-e];by_cases V:(i:Int)<=h.ae\/hi<=(i:Int)
 ·rw [n.rest i (by omega) V];exact L
 obtain ⟨p,E,q1,q2⟩:=u l _ k.laid i (by omega) (by omega);have w:=n.word p E ((i:Int) - p.2).toNat (by omega);rw [show p.2+((((i:Int) - p.2).toNat:Nat):Int)=(i:Int) by omega]at w;rw [w];split
 ·rename_i hc;rw [Bool.and_eq_true,decide_eq_true_eq]at hc;obtain ⟨-,A⟩:=n.ref k E (m:=((i:Int) - p.2).toNat - 3) (by omega) hc.2;rw [show p.1+((((i:Int) - p.2).toNat:Nat):Int)=p.1+3+((((i:Int) - p.2).toNat - 3:Nat):Int) by omega];rcases A with A | ⟨q,I,A⟩
  ·rw [A,k.zero];exact L
  rw [<-A,k.tq q I];have:=G.2 q I;obtain ⟨t,-,-,W,-,-,-,q3⟩:=k.at r I;rw [W]at this;exact (Lit.wf_int_iff _ _).2 ⟨by show (-9223372036854775808:Int)<=_;omega,by show _<=(9223372036854775807:Int);omega⟩
 exact J _
end
def fu (live:List Int) (ys os:List bp):List Int:=((os.map bp.loc).filter (live.contains ·))++((ys.map bp.loc).filter (live.contains ·))
theorem zyd {order news:List Int} (L:order.Nodup) (O:(0:Int)∉order) (W:order.length=news.length):∀q∈order.zip news,mm order news q.1=q.2:=by
 intro q N;obtain ⟨k,J,e⟩:=List.mem_iff_getElem.1 N;rw [List.length_zip]at J;have h1:order[k]'(by omega)=q.1:=by rw [<-e,List.getElem_zip]
 have G:news[k]'(by omega)=q.2:=by rw [<-e,List.getElem_zip]
 have D:q.1∈order:=h1 ▸ gm _;rcases zxe order q.1 with ⟨A,-⟩ | ⟨j,A,I⟩
 ·exact absurd D A
 obtain ⟨V,F⟩:=List.getElem?_eq_some_iff.1 A;have u:j=k:=(List.getElem_inj (xs:=order) L).1 (F.trans h1.symm);subst u;unfold mm;have h0:q.1≠0:=fun E=>O (by rw [<-E];exact D);rw [if_neg (by rintro (c | c);exact h0 c;omega),I,zen (by omega),G]
theorem zye (ws:List Int):∀(l:List Int) (lo:Int),toR ws lo l=lo+(l.map fun a=>3+wd ws (a+1)).sum
 | [],lo=>by show lo=lo+0;omega
 | a::l,lo=>by show toR ws (lo+(3+wd ws (a+1))) l=_;rw [zye ws l,List.map_cons,List.sum_cons];omega
section
variable {d:be} {h:bd} {ts:List bp}
theorem zyf {D A:List bp} (r:Right d h ts) (e1:b9 d.aj.length d.fields h.ab 1 h.bg=some D) (e2:b9 d.aj.length d.fields h.ab (h.ae+1) h.bk=some A) (rs:List Int) (hr:∀v∈rs,cw ts v=true) (hl:fc d h rs<=h.old):
 Kept d h ts (kc h [] (fu (cg d h rs) D A) (h.ae+1)) (mm (fu (cg d h rs) D A) (gz h.ab (h.ae+1) (fu (cg d h rs) D A))) (toR h.ab (h.ae+1) (fu (cg d h rs) D A))/\(∀v∈rs,v=0\/∃q∈kc h [] (fu (cg d h rs) D A) (h.ae+1),q.1=v)/\toR h.ab (h.ae+1) (fu (cg d h rs) D A)=h.ae+1+fc d h rs/\(fu (cg d h rs) D A).Nodup/\(∀v,v∈fu (cg d h rs) D A↔jq nz (fm d.fields h.ab) rs v):=by
 obtain ⟨l1,l2⟩:=zvn r hr;have z1:=r.sized.ae;have z2:=r.sized.old;have z3:=r.sized.len;have z4:=r.sized.bg;have ai:ts=D++A:=by obtain ⟨an,al,f1,f2,rfl⟩:=zko r.both;rw [e1]at f1;rw [e2]at f2;rw [ojq f1,ojq f2]
 have aa:∀ {v:Int},nz v=true->v≠0:=fun {v} h e=>by subst e;cases h
 have ac:∀v,jq nz (fm d.fields h.ab) rs v->v≠0:=fun v O=>by
  apply jq.ind O
  ·intro _ _ h2
   exact aa h2
  intro _ _ _ _ h2 _
  exact aa h2
 have E:∀v,v∈fu (cg d h rs) D A↔jq nz (fm d.fields h.ab) rs v:=fun v=>by
  unfold fu;rw [List.mem_append,List.mem_filter,List.mem_filter,List.contains_iff_mem,l2];constructor
  ·rintro (h | h)<;>exact h.2
  intro O;obtain ⟨t,F,rfl⟩:=zvl r hr O;rw [ai]at F;rcases List.mem_append.1 F with F | F
  ·exact Or.inr ⟨List.mem_map.2 ⟨t,F,rfl⟩,O⟩
  exact Or.inl ⟨List.mem_map.2 ⟨t,F,rfl⟩,O⟩
 have J:∀(l:List bp),l.Pairwise (fun t u=>t.fin<=u.loc)->(∀t∈l,0<=t.len)->(l.map bp.loc).Nodup:=fun l hp h0=>by refine List.Pairwise.map _ (fun a b L e=>?_) (List.Pairwise.imp_of_mem (fun {a b} X hb L=>And.intro X L) hp);have q:=h0 a L.1;have q1:a.fin=a.loc+3+a.len:=rfl;have:=L.2;omega
 have ah:=J D (zxq _ _ D (nlq _) e1) fun t F=>zeo (zkn e1 t F).2.2.2.2;have af:=J A (zxq _ _ A (nlq _) e2) fun t F=>zeo (zkn e2 t F).2.2.2.2;have N:(fu (cg d h rs) D A).Nodup:=by unfold fu;refine List.nodup_append.2 ⟨af.sublist List.filter_sublist,ah.sublist List.filter_sublist,?_⟩;intro a X b hb e;obtain ⟨t,F,rfl⟩:=List.mem_map.1 (List.mem_filter.1 X).1;obtain ⟨u,hu,rfl⟩:=List.mem_map.1 (List.mem_filter.1 hb).1;have q1:=(zkn e2 t F).1;have q2:=zkn e1 u hu;have q3:=q2.2.1;have q4:=zeo q2.2.2.2.2;have q5:u.fin=u.loc+3+u.len:=rfl;omega
 have ad:toR h.ab (h.ae+1) (fu (cg d h rs) D A)=h.ae+1+fc d h rs:=by rw [zye,zvo r hr N E]
 have Z:(fu (cg d h rs) D A).length=(gz h.ab (h.ae+1) (fu (cg d h rs) D A)).length:=(zwh _ _ _).symm;have V:kc h [] (fu (cg d h rs) D A) (h.ae+1)=(fu (cg d h rs) D A).zip (gz h.ab (h.ae+1) (fu (cg d h rs) D A)):=by unfold kc;rw [List.map_nil,List.nil_append]
 have I:(kc h [] (fu (cg d h rs) D A) (h.ae+1)).map (·.1)=fu (cg d h rs) D A:=by rw [V,zx7 _ _ Z]
 have ak:(0:Int)∉fu (cg d h rs) D A:=fun hc=>ac 0 ((E 0).1 hc) rfl;have Y:∀v,jq nz (fm d.fields h.ab) rs v->∃q∈kc h [] (fu (cg d h rs) D A) (h.ae+1),q.1=v:=fun v O=>by
  have hm:v∈(kc h [] (fu (cg d h rs) D A) (h.ae+1)).map (·.1):=by rw [I];exact (E v).2 O
  obtain ⟨q,W,e⟩:=List.mem_map.1 hm;exact ⟨q,W,e⟩
 have G:∀q∈kc h [] (fu (cg d h rs) D A) (h.ae+1),jq nz (fm d.fields h.ab) rs q.1:=fun q W=>(E q.1).1 (by rw [<-I];exact List.mem_map.2 ⟨q,W,rfl⟩);refine ⟨⟨fun q W=>zvl r hr (G q W),?_,by rw [I];exact N,?_,?_,?_,by rw [ad];omega⟩,fun v O=>?_,ad,N,E⟩
 ·rw [V];exact zx6 _ _
 ·intro q W a X;by_cases h0:wd h.ab a=0
  ·exact Or.inl h0
  refine Or.inr (Y _ (jq.step (G q W) ?_ ?_))
  ·unfold fm;exact List.mem_map.2 ⟨a,X,rfl⟩
  unfold nz;simpa using h0
 ·rw [V];exact zyd N ak Z
 ·unfold mm;rw [if_pos (Or.inl rfl)]
 by_cases h0:v=0
 ·exact Or.inl h0
 exact Or.inr (Y v (jq.root O (by unfold nz;simpa using h0)))
end
end Go.Proofs.YtjdnmblggdobgaaGreat
