import Derived.Test.YtjdnmblggdobgaaGreatJHzQHzU
import Derived.Test.YtjdnmblggdobgaaGreatHzA
namespace Go.Proofs.YtjdnmblggdobgaaGreat
open Go.RowKit Go.Maps
def LaidP (fy:List Int):Int->List (Int×Int)->Int->Prop
 | lo,[],hi=>lo=hi
 | lo,p::r,hi=>p.2=lo/\LaidP fy (lo+3+(bj fy p.1).len) r hi
def newT (fy:List Int) (p:Int×Int):bp:=⟨p.2,(bj fy p.1).tag,(bj fy p.1).len,(bj fy p.1).hash⟩
structure Kept (d:bd) (h:bb) (ts:List bp) (l:List (Int×Int)) (tau:Int->Int) (hi:Int):Prop where
 src:∀p∈l,∃t∈ts,t.loc=p.1
 laid:LaidP h.ab (h.ag+1) l hi
 nd:(l.map (·.1)).Nodup
 refs:∀p∈l,∀a∈refsOf d.fields (bj h.ab p.1),wd h.ab a=0\/∃q∈l,q.1=wd h.ab a
 tq:∀q∈l,tau q.1=q.2
 zero:tau 0=0
 top:hi<=h.ab.length
structure Into (d:bd) (h:bb) (l:List (Int×Int)) (tau:Int->Int) (hi:Int) (x:bb):Prop where
 len:x.ab.length=h.ab.length
 yo:x.ag=h.ag
 ol:x.old=h.old
 yt:x.be=1
 ot:x.ar=hi
 no:x.am= []
 nx:x.next=h.next
 word:∀p∈l,∀i:Nat,(i:Int)<3+(bj h.ab p.1).len->wd x.ab (p.2+i)=if (decide (3<=i)&&je d.fields (bj h.ab p.1) (i - 3))=true then tau (wd h.ab (p.1+i)) else wd h.ab (p.1+i)
 rest:∀a:Int,0<=a->(a<=h.ag\/hi<=a)->wd x.ab a=0
theorem zy4 {fy:List Int} :∀ {l:List (Int×Int)} {lo hi:Int},LaidP fy lo l hi->(∀p∈l,0<=(bj fy p.1).len)->lo<=hi/\∀p∈l,lo<=p.2/\p.2+3+(bj fy p.1).len<=hi
 | [],lo,hi,h,_=>⟨Int.le_of_eq h,fun p A=>by cases A⟩
 | q::r,lo,hi,h,hl=>by
   have D:=zy4 h.2 fun p A=>hl p (List.mem_cons_of_mem _ A);have h0:=hl q (List.mem_cons_self ..);have E:=h.1;refine ⟨by omega,fun p A=>?_⟩;rcases List.mem_cons.1 A with rfl | A
   ·exact ⟨by omega,by omega⟩
   have:=D.2 p A;exact ⟨by omega,this.2⟩
theorem zy5 {α β:Type} {f:α->β} :∀ {l:List α},(l.map f).Nodup->∀ {x y:α},x∈l->y∈l->f x=f y->x=y
 | [],_,_,_,hx,_,_=>by cases hx
 | a::l,hn,x,y,hx,hy,e=>by
   rw [List.map_cons,List.nodup_cons]at hn;rcases List.mem_cons.1 hx with D | D
   ·rcases List.mem_cons.1 hy with A | A
    ·rw [D,A]
    exact absurd (List.mem_map.2 ⟨y,A,by rw [<-e,D]⟩) hn.1
   rcases List.mem_cons.1 hy with A | A
   ·exact absurd (List.mem_map.2 ⟨x,D,by rw [e,A]⟩) hn.1
   exact zy5 hn.2 D A e
section
variable {d:bd} {h x:bb} {ts:List bp} {l:List (Int×Int)} {tau:Int->Int} {hi:Int}
theorem zy6 (r:Right d h ts) {t:bp} (A:t∈ts):t=bj h.ab t.loc/\dw d.aj.length t.tag=true/\cq d.fields t.tag t.len=true/\1<=t.loc:=by
 have z:=r.sized;have I:=z.ag;obtain ⟨G,F,D,E,rfl⟩:=zko r.both;rcases List.mem_append.1 A with A | A
 ·have q:=zkn D t A;exact ⟨q.2.2.1,q.2.2.2.1,q.2.2.2.2,q.1⟩
 have q:=zkn E t A;have:=q.1;exact ⟨q.2.2.1,q.2.2.2.1,q.2.2.2.2,by omega⟩
theorem Kept.at (k:Kept d h ts l tau hi) (r:Right d h ts) {p:Int×Int} (D:p∈l):∃t∈ts,t.loc=p.1/\bj h.ab p.1=t/\dw d.aj.length t.tag=true/\cq d.fields t.tag t.len=true/\1<=p.1/\0<=t.len:=by obtain ⟨t,A,e⟩:=k.src p D;obtain ⟨q1,q2,q3,q4⟩:=zy6 r A;exact ⟨t,A,e,by rw [<-e];exact q1.symm,q2,q3,by omega,zeo q3⟩
theorem Kept.lens (k:Kept d h ts l tau hi) (r:Right d h ts):∀p∈l,0<=(bj h.ab p.1).len:=fun p A=>by obtain ⟨t,-,-,e,-,-,-,q⟩:=k.at r A;rw [e];exact q
theorem Into.head (n:Into d h l tau hi x) (k:Kept d h ts l tau hi) (r:Right d h ts) {p:Int×Int} (A:p∈l):bj x.ab p.2=newT h.ab p:=by have h0:=k.lens r p A;have D:=n.word p A 0 (by omega);have E:=n.word p A 1 (by omega);have F:=n.word p A 2 (by omega);simp at D E F;unfold bj newT;rw [D,E,F];rfl
theorem Into.walk (n:Into d h l tau hi x) (k:Kept d h ts l tau hi) (r:Right d h ts):∀(m:List (Int×Int)) (lo:Int),(∀p∈m,p∈l)->LaidP h.ab lo m hi->cb d.aj.length d.fields x.ab lo hi=some (m.map (newT h.ab))
 | [],lo,_,A=>by have A:lo=hi:=A;rw [zes (by omega)];rfl
 | p::m,lo,hs,A=>by
   have G:=hs p (List.mem_cons_self ..);have N:=A.1;have F:=zy4 A fun q I=>k.lens r q (hs q I);have X:=F.2 p (List.mem_cons_self ..);obtain ⟨t,-,-,E,q1,q2,-,q3⟩:=k.at r G;have D:=n.head k r G;rw [N]at D;have W:=k.lens r p G;have L:(bj x.ab lo).fin=lo+3+(bj h.ab p.1).len:=by show lo+3+(bj x.ab lo).len=_;rw [D];rfl
   have J:io d.aj.length d.fields x.ab lo hi=true:=by
    unfold io;have O:wd x.ab lo=t.tag:=by rw [<-E];exact congrArg bp.tag D
    have V:wd x.ab (lo+1)=t.len:=by rw [<-E];exact congrArg bp.len D
    rw [L,O,V,q1,q2,decide_eq_true (by omega:lo+3<=hi),decide_eq_true (by omega:lo+3+(bj h.ab p.1).len<=hi)];rfl
   rw [zet (by omega) J,L,Into.walk n k r m _ (fun q I=>hs q (List.mem_cons_of_mem _ I)) A.2,D];rfl
theorem Into.ref (n:Into d h l tau hi x) (k:Kept d h ts l tau hi) {p:Int×Int} (A:p∈l) {m:Nat} (G:(m:Int)<(bj h.ab p.1).len) (D:je d.fields (bj h.ab p.1) m=true):wd x.ab (p.2+3+m)=tau (wd h.ab (p.1+3+m))/\(wd h.ab (p.1+3+m)=0\/∃q∈l,q.1=wd h.ab (p.1+3+m)):=by
 have w:=n.word p A (3+m) (by omega);rw [show 3+m - 3=m by omega,D,decide_eq_true (by omega:3<=3+m),Bool.and_true,if_pos rfl]at w;have E:p.2+((3+m:Nat):Int)=p.2+3+m:=by omega
 have F:p.1+((3+m:Nat):Int)=p.1+3+m:=by omega
 rw [E,F]at w;refine ⟨w,k.refs p A _ ?_⟩;exact ztp (x:=bj h.ab p.1) G D
theorem Into.right (n:Into d h l tau hi x) (k:Kept d h ts l tau hi) (r:Right d h ts):Right d x (l.map (newT h.ab)):=by
 have z:=r.sized;have z1:=z.ag;have z2:=z.old;have z3:=z.len;have X:=zy4 k.laid (k.lens r);have ac:=k.top;have G:=r.tops;unfold ju at G;simp only [Bool.and_eq_true,decide_eq_true_eq]at G;have F:∀p∈l,∀a∈refsOf d.fields (newT h.ab p),wd x.ab a=0\/∃q∈l,q.2=wd x.ab a:=fun p A a J=>by
  obtain ⟨m,e,Y,hr⟩:=zto J;rw [zva (x:=newT h.ab p) (y:=bj h.ab p.1) rfl]at hr;obtain ⟨f1,I⟩:=n.ref k A Y hr;have e:a=p.2+3+m:=e;rw [e,f1];rcases I with I | ⟨q,D,I⟩
  ·rw [I,k.zero];exact Or.inl rfl
  rw [<-I,k.tq q D];exact Or.inr ⟨q,D,rfl⟩
 refine ⟨r.ok,?_,?_,?_,?_,?_,?_,?_,?_,?_,?_,?_⟩
 ·have:=r.parts;unfold jd at this ⊢;rw [n.yo,n.ol];exact this
 ·have:=r.ab;unfold i2 at this ⊢;rw [n.yo,n.ol,n.len];exact this
 ·unfold ju;rw [n.yt,n.yo,n.ot,n.ol,n.nx,decide_eq_true (by omega:(1:Int)<=1),decide_eq_true (by omega:(1:Int)<=h.ag+1),decide_eq_true (by omega:h.ag+1<=hi),decide_eq_true (by omega:hi<=h.ag+h.old+1),decide_eq_true G.2];rfl
 ·unfold im;rw [n.yt,zes (by omega),n.yo,n.ot,n.walk k r l _ (fun p A=>A) k.laid];rfl
 ·rw [List.any_map,List.any_eq_false];intro p A;obtain ⟨t,ht,-,e,-⟩:=k.at r A;have:=List.any_eq_false.1 r.hash t ht;unfold i4 at this;show ¬(decide ((bj h.ab p.1).hash<1)||decide (x.next<=(bj h.ab p.1).hash))=true;rw [e,n.nx];exact this
 ·rw [List.map_map];have N:∀m:List (Int×Int),(∀p∈m,p∈l)->(m.map (·.1)).Nodup->(m.map (bp.hash∘newT h.ab)).Nodup:=by
   intro m;induction m with
   | nil=>intro _ _;exact List.nodup_nil
   | cons p m ih=>
     intro hs Z;rw [List.map_cons,List.nodup_cons]at Z;rw [List.map_cons,List.nodup_cons];refine ⟨fun hc=>?_,ih (fun q D=>hs q (List.mem_cons_of_mem _ D)) Z.2⟩;obtain ⟨q,D,e⟩:=List.mem_map.1 hc;obtain ⟨t,ht,V,O,-⟩:=k.at r (hs p (List.mem_cons_self ..));obtain ⟨u,hu,eu,W,-⟩:=k.at r (hs q (List.mem_cons_of_mem _ D));have e:(bj h.ab q.1).hash=(bj h.ab p.1).hash:=e;rw [O,W]at e;have:=zy5 r.dup hu ht e;subst this;exact Z.1 (List.mem_map.2 ⟨q,D,by rw [<-eu,V]⟩)
  exact N l (fun p A=>A) k.nd
 ·rw [List.any_map,List.any_eq_false];intro p A;show ¬(gc d.fields x.ab (newT h.ab p) fun n=>!dh (l.map (newT h.ab)) n)=true;unfold gc;rw [Bool.not_eq_true,List.any_eq_false];intro a J;show ¬(!dh (l.map (newT h.ab)) (wd x.ab a))=true;rw [zud];rcases F p A a J with e | ⟨q,D,e⟩
  ·rw [e];simp
  have Y:wd x.ab a∈(l.map (newT h.ab)).map bp.loc:=by rw [List.map_map];exact List.mem_map.2 ⟨q,D,e⟩
  rw [List.contains_iff_mem.2 Y];simp
 ·rw [List.any_eq_false];intro v E;have hz:∀i:Nat,(hl:i<x.ab.length)->((i:Int)<=h.ag\/hi<=(i:Int))->x.ab[i]=0:=fun i hl hc=>by
   have:=n.rest i (by omega) hc;rwa [mw hl]at this
  have aa:v=0:=by
   unfold jq at E;rw [n.yo,n.yt,n.ot]at E;rcases List.mem_append.1 E with E | E
   ·obtain ⟨i,L,e⟩:=List.mem_take_iff_getElem.1 E;rw [<-e];exact hz i (by omega) (by omega)
   rcases List.mem_append.1 E with E | E
   ·obtain ⟨i,L,e⟩:=List.mem_take_iff_getElem.1 (List.mem_of_mem_drop E);rw [<-e];exact hz i (by omega) (by omega)
   obtain ⟨i,L,e⟩:=List.mem_drop_iff_getElem.1 E;rw [<-e];exact hz _ (by omega) (by omega)
  rw [aa];simp
 ·rw [n.no];rfl
 ·rw [n.no];rfl
 rw [List.any_map,List.any_eq_false];intro p A;show ¬iq d x (newT h.ab p)=true;unfold iq gc;rw [Bool.not_eq_true,Bool.and_eq_false_iff];refine Or.inr (List.any_eq_false.2 fun a J hc=>?_);have hc:=zuw.1 hc;rw [n.yo]at hc;rcases F p A a J with e | ⟨q,D,e⟩
 ·omega
 have:=(X.2 q D).1;omega
theorem Kept.leads (k:Kept d h ts l tau hi) {rs:List Int} (E:∀v∈rs,v=0\/∃q∈l,q.1=v):∀v∈rs.map tau,dh (l.map (newT h.ab)) v=true:=fun v G=>by
 obtain ⟨u,F,rfl⟩:=List.mem_map.1 G;have:=zud (l.map (newT h.ab)) (tau u);rcases E u F with e | ⟨q,A,e⟩
 ·rw [e,k.zero];unfold dh;simp
 rw [<-e,k.tq q A]at this ⊢;have D:q.2∈(l.map (newT h.ab)).map bp.loc:=by rw [List.map_map];exact List.mem_map.2 ⟨q,A,rfl⟩
 rw [List.contains_iff_mem.2 D]at this;simpa using this
end
def shT (met:List Int) (v:Int):List Int:=if v=0 then met else if met.contains v then met else met++ [v]
def shN (met:List Int) (v:Int):Int:=if v=0 then 0 else mq (shT met v) v+1
structure ShS where
 met:List Int
 out:List Int
def ShS.turn (s:ShS) (v:Int):ShS:=⟨shT s.met v,s.out++ [shN s.met v]⟩
def ShS.word (d:bd) (ws:List Int) (t:bp) (s:ShS) (n:Nat):ShS:=if je d.fields t n then s.turn (wd ws (t.loc+3+n)) else ⟨s.met,s.out++ [wd ws (t.loc+3+n)]⟩
def ShS.thing (d:bd) (ws:List Int) (s:ShS) (a:Int):ShS:=(List.range (bj ws a).len.toNat).foldl (ShS.word d ws (bj ws a)) ⟨s.met,s.out++ [(bj ws a).tag,(bj ws a).len,(bj ws a).hash]⟩
def ShS.all (d:bd) (ws:List Int):Nat->Nat->ShS->ShS
 | 0,_,s=>s
 | f+1,i,s=>match s.met[i]? with
   | none=>s
   | some a=>ShS.all d ws f (i+1) (s.thing d ws a)
def shapeD (d:bd) (h:bb) (rs:List Int):List Int:=(ShS.all d h.ab (h.ab.length+1) 0 (rs.foldl ShS.turn ⟨[],[]⟩)).out
theorem zy7 {α:Type} {p q:α->Bool} :∀(l:List α),(∀x∈l,p x=q x)->l.findIdx? p=l.findIdx? q
 | [],_=>rfl
 | x::l,h=>by rw [List.findIdx?_cons,List.findIdx?_cons,h x (List.mem_cons_self ..),zy7 l fun y A=>h y (List.mem_cons_of_mem _ A)]
theorem zy8 {tau:Int->Int} {v:Int} (m:List Int) (h:∀u∈m,tau u=tau v->u=v):mq (m.map tau) (tau v)=mq m v:=by
 unfold mq idx;rw [List.findIdx?_map,zy7 (q:=fun x=>decide (x=v)) m fun u A=>?_];show decide (tau u=tau v)=decide (u=v);by_cases e:u=v
 ·rw [e];simp
 rw [decide_eq_false e,decide_eq_false fun q=>e (h u A q)]
section
variable {d:bd} {h x:bb} {ts:List bp} {l:List (Int×Int)} {tau:Int->Int} {hi:Int}
theorem zy9 {fy:List Int} :∀ {l:List (Int×Int)} {lo hi:Int},LaidP fy lo l hi->(∀p∈l,0<=(bj fy p.1).len)->(l.map (·.2)).Nodup
 | [],_,_,_,_=>List.nodup_nil
 | q::r,lo,hi,h,hl=>by have A:∀p∈r,0<=(bj fy p.1).len:=fun p D=>hl p (List.mem_cons_of_mem _ D);have h0:=hl q (List.mem_cons_self ..);have E:=h.1;rw [List.map_cons,List.nodup_cons];refine ⟨fun hc=>?_,zy9 h.2 A⟩;obtain ⟨p,D,e⟩:=List.mem_map.1 hc;have:=((zy4 h.2 A).2 p D).1;omega
theorem Kept.inj (k:Kept d h ts l tau hi) (r:Right d h ts) {u v:Int} (E:∃q∈l,q.1=u) (F:∃q∈l,q.1=v) (e:tau u=tau v):u=v:=by obtain ⟨p,A,rfl⟩:=E;obtain ⟨q,D,rfl⟩:=F;rw [k.tq p A,k.tq q D]at e;rw [zy5 (zy9 k.laid (k.lens r)) A D e]
theorem Kept.pos (k:Kept d h ts l tau hi) (r:Right d h ts) {v:Int} (D:∃q∈l,q.1=v):tau v≠0/\v≠0:=by obtain ⟨q,A,rfl⟩:=D;have h1:=((zy4 k.laid (k.lens r)).2 q A).1;have F:=r.sized.ag;obtain ⟨t,-,-,-,-,-,E,-⟩:=k.at r A;rw [k.tq q A];exact ⟨by omega,by omega⟩
structure Sim (l:List (Int×Int)) (tau:Int->Int) (s s':ShS):Prop where
 met:s'.met=s.met.map tau
 out:s'.out=s.out
 kept:∀v∈s.met,∃q∈l,q.1=v
theorem Sim.turn (k:Kept d h ts l tau hi) (r:Right d h ts) {s D:ShS} (m:Sim l tau s D) {v:Int} (E:v=0\/∃q∈l,q.1=v):Sim l tau (s.turn v) (D.turn (tau v)):=by
 rcases E with rfl | E
 ·rw [k.zero];have F:∀m:List Int,shT m 0=m:=fun m=>by unfold shT;rw [if_pos rfl]
  have I:∀m:List Int,shN m 0=0:=fun m=>by unfold shN;rw [if_pos rfl]
  unfold ShS.turn;rw [F,F,I,I];exact ⟨m.met,by show D.out++ [0]=s.out++ [0];rw [m.out],m.kept⟩
 have G:=k.pos r E;have hc:(s.met.map tau).contains (tau v)=s.met.contains v:=by
  rw [Bool.eq_iff_iff,List.contains_iff_mem,List.contains_iff_mem];constructor
  ·intro J;obtain ⟨u,A,e⟩:=List.mem_map.1 J;rw [<-k.inj r (m.kept u A) E e];exact A
  exact fun J=>List.mem_map.2 ⟨v,J,rfl⟩
 have F:shT D.met (tau v)=(shT s.met v).map tau:=by
  unfold shT;rw [if_neg G.1,if_neg G.2,m.met,hc];split
  ·rfl
  rw [List.map_append];rfl
 have L:∀u∈shT s.met v,∃q∈l,q.1=u:=by
  intro u A;unfold shT at A;rw [if_neg G.2]at A;split at A
  ·exact m.kept u A
  rcases List.mem_append.1 A with A | A
  ·exact m.kept u A
  rw [List.mem_singleton]at A;rw [A];exact E
 have I:shN D.met (tau v)=shN s.met v:=by unfold shN;rw [if_neg G.1,if_neg G.2,F,zy8 _ fun u A e=>k.inj r (L u A) E e]
 exact ⟨F,by show D.out++ [shN D.met (tau v)]=s.out++ [shN s.met v];rw [m.out,I],L⟩
theorem Sim.roots (k:Kept d h ts l tau hi) (r:Right d h ts):∀(rs:List Int) {s s':ShS},Sim l tau s s'->(∀v∈rs,v=0\/∃q∈l,q.1=v)->Sim l tau (rs.foldl ShS.turn s) ((rs.map tau).foldl ShS.turn s')
 | [],_,_,m,_=>m
 | v::rs,_,_,m,h=>Sim.roots k r rs (m.turn k r (h v (List.mem_cons_self ..))) fun u A=>h u (List.mem_cons_of_mem _ A)
theorem Sim.word (n:Into d h l tau hi x) (k:Kept d h ts l tau hi) (r:Right d h ts) {s A:ShS} (m:Sim l tau s A) {p:Int×Int} (D:p∈l) {i:Nat} (hi:(i:Int)<(bj h.ab p.1).len):Sim l tau (s.word d h.ab (bj h.ab p.1) i) (A.word d x.ab (newT h.ab p) i):=by
 unfold ShS.word;rw [zva (x:=newT h.ab p) (y:=bj h.ab p.1) rfl];cases hr:je d.fields (bj h.ab p.1) i with
 | true=>
   obtain ⟨E,F⟩:=n.ref k D hi hr;simp only [if_true];show Sim l tau (s.turn (wd h.ab (p.1+3+i))) (A.turn (wd x.ab (p.2+3+i)));rw [E];exact m.turn k r F
 | false=>
   have w:=n.word p D (3+i) (by omega);rw [show 3+i - 3=i by omega,hr,Bool.and_false]at w;simp only [Bool.false_eq_true,if_false]at w ⊢;refine ⟨m.met,?_,m.kept⟩;show A.out++ [wd x.ab (p.2+3+i)]=s.out++ [wd h.ab (p.1+3+i)];rw [m.out,show p.2+3+(i:Int)=p.2+((3+i:Nat):Int) by omega,w,show p.1+((3+i:Nat):Int)=p.1+3+(i:Int) by omega]
theorem Sim.ab (n:Into d h l tau hi x) (k:Kept d h ts l tau hi) (r:Right d h ts) {p:Int×Int} (A:p∈l):∀(is:List Nat) {s s':ShS},Sim l tau s s'->(∀i∈is,(i:Int)<(bj h.ab p.1).len)->Sim l tau (is.foldl (ShS.word d h.ab (bj h.ab p.1)) s) (is.foldl (ShS.word d x.ab (newT h.ab p)) s')
 | [],_,_,m,_=>m
 | i::is,_,_,m,h=>Sim.ab n k r A is (m.word n k r A (h i (List.mem_cons_self ..))) fun j D=>h j (List.mem_cons_of_mem _ D)
theorem Sim.thing (n:Into d h l tau hi x) (k:Kept d h ts l tau hi) (r:Right d h ts) {s D:ShS} (m:Sim l tau s D) {a:Int} (E:∃q∈l,q.1=a):Sim l tau (s.thing d h.ab a) (D.thing d x.ab (tau a)):=by
 obtain ⟨p,A,rfl⟩:=E;rw [k.tq p A];unfold ShS.thing;rw [n.head k r A];refine Sim.ab n k r A _ ⟨m.met,?_,m.kept⟩ fun i hi=>?_
 ·show D.out++ [(bj h.ab p.1).tag,(bj h.ab p.1).len,(bj h.ab p.1).hash]=_;rw [m.out]
 have:=List.mem_range.1 hi;have h0:(newT h.ab p).len=(bj h.ab p.1).len:=rfl;omega
theorem Sim.all (n:Into d h l tau hi x) (k:Kept d h ts l tau hi) (r:Right d h ts):∀(f i:Nat) {s s':ShS},Sim l tau s s'->Sim l tau (ShS.all d h.ab f i s) (ShS.all d x.ab f i s')
 | 0,_,_,_,m=>m
 | f+1,i,s,s',m=>by
   rw [ShS.all,ShS.all,m.met,List.getElem?_map];cases ha:s.met[i]? with
   | none=>exact m
   | some a=>exact Sim.all n k r f (i+1) (m.thing n k r (m.kept a (List.mem_of_getElem? ha)))
theorem Into.shape (n:Into d h l tau hi x) (k:Kept d h ts l tau hi) (r:Right d h ts) {rs:List Int} (A:∀v∈rs,v=0\/∃q∈l,q.1=v):shapeD d x (rs.map tau)=shapeD d h rs:=by unfold shapeD;rw [n.len];exact (Sim.all n k r (h.ab.length+1) 0 (Sim.roots k r rs ⟨rfl,rfl,fun v D=>by cases D⟩ A)).out
end
theorem zza (d:bd) (h:bb) (A:List bp) (order:List Int) (lo:Int):(rebD d h A order lo).ab.length=h.ab.length:=by unfold rebD;rw [zwm,zwl,List.length_replicate]
theorem zzb {n:Nat} {fs:List (List bg)} {ws:List Int} {lo A:Int} {rest:List bp} (D:lo<A) (e:cb n fs ws lo A=some rest):∃rest',rest=bj ws lo::rest'/\cb n fs ws (bj ws lo).fin A=some rest'/\(bj ws lo).fin<=A/\lo+3<=(bj ws lo).fin:=by
 by_cases E:io n fs ws lo A=true
 ·rw [zet D E]at e;cases hx:cb n fs ws (bj ws lo).fin A with
  | none=>rw [hx]at e;cases e
  | some ts'=>
    rw [hx]at e;exact ⟨ts',(ojq e).symm,rfl,(zep E).2.1,(zep E).1⟩
 rw [zeu D E]at e;cases e
theorem zzc {fy:List Int} :∀ {l:List (Int×Int)} {lo hi:Int},LaidP fy lo l hi->(∀p∈l,0<=(bj fy p.1).len)->l.Pairwise (fun p q=>p.2+3+(bj fy p.1).len<=q.2)
 | [],_,_,_,_=>List.Pairwise.nil
 | q::l,lo,hi,h,hl=>by have A:∀p∈l,0<=(bj fy p.1).len:=fun p D=>hl p (List.mem_cons_of_mem _ D);have h1:=h.1;refine List.pairwise_cons.2 ⟨fun p D=>?_,zzc h.2 A⟩;have:=((zy4 h.2 A).2 p D).1;omega
theorem zzd {fy:List Int} :∀ {l m:List (Int×Int)} {lo mid hi:Int},LaidP fy lo l mid->LaidP fy mid m hi->LaidP fy lo (l++m) hi
 | [],_,_,_,_,h,g=>by have h:=h;unfold LaidP at h;rw [h];exact g
 | _::_,_,_,_,_,h,g=>⟨h.1,zzd h.2 g⟩
theorem zze {n:Nat} {fs:List (List bg)} {ws:List Int} {A:Int} :∀(f:Nat) (lo:Int) (ts:List bp),(A - lo).toNat<=f->lo<=A->cb n fs ws lo A=some ts->LaidP ws lo (ts.map fun t=>(t.loc,t.loc)) A
 | f,lo,ts,hf,hl,e=>by
   by_cases D:lo<A
   ·obtain ⟨rest,rfl,E,F,G⟩:=zzb D e;match f,hf with
    | 0,hf=>omega
    | f+1,hf=>exact ⟨rfl,zze f (bj ws lo).fin rest (by omega) F E⟩
   rw [zes D]at e;have e:=ojq e;subst e;show lo=A;omega
theorem zzf {ws:List Int} :∀(l:List Int) (lo:Int),LaidP ws lo (l.zip (i8 ws lo l)) (toR ws lo l)
 | [],_=>rfl
 | a::l,lo=>by
   have A:=zzf (ws:=ws) l (lo+(3+wd ws (a+1)));refine ⟨rfl,?_⟩;have e:lo+3+(bj ws a).len=lo+(3+wd ws (a+1)):=by show lo+3+wd ws (a+1)=_;omega
   show LaidP ws (lo+3+(bj ws a).len) (l.zip (i8 ws (lo+(3+wd ws (a+1))) l)) (toR ws (lo+(3+wd ws (a+1))) l);rw [e];exact A
theorem zzg:∀(l m:List Int),l.length=m.length->(l.zip m).map (·.1)=l
 | [],_,_=>by simp
 | a::l,[],h=>by simp at h
 | a::l,b::m,h=>by show a::(l.zip m).map (·.1)=a::l;rw [zzg l m (by simpa using h)]
theorem zzh {P:Int->Bool} {next:Int->List Int} {v:Int} :∀(f i:Nat) (o:List Int),v∈o->v∈bfsP P next f i o
 | 0,_,_,h=>h
 | f+1,i,o,h=>by
   rw [bfsP];cases o[i]? with
   | none=>exact h
   | some a=>exact zzh f (i+1) _ ((zvf _ _).2 (Or.inl h))
theorem zzi {d:bd} {h:bb} {v:Int} :∀(ns o:List Int),v∈o->v∈ordN d h ns o
 | [],_,hv=>hv
 | n::ns,o,hv=>zzi ns ((di d.fields h.ab n).foldl (fq (yg h)) o) ((zvf _ _).2 (Or.inl hv))
theorem zzj {d:bd} {h:bb} {rs:List Int} {v:Int} (A:v∈rs) (D:yg h v=true):v∈ordY d h rs:=
 zzh _ _ _ (zzi _ _ ((zvf _ _).2 (Or.inr ⟨A,D⟩)))
def keptL (h:bb) (stay:List bp) (order:List Int) (lo:Int):List (Int×Int):=(stay.map fun t=>(t.loc,t.loc))++order.zip (i8 h.ab lo order)
section
variable {d:bd} {h:bb} {ts:List bp}
theorem zzk {A:List bp} {order:List Int} {lo:Int} (r:Right d h ts) (k:Kept d h ts (keptL h A order lo) (ia order (i8 h.ab lo order)) (toR h.ab lo order)):Into d h (keptL h A order lo) (ia order (i8 h.ab lo order)) (toR h.ab lo order) (rebD d h A order lo):=by
 have V:=r.sized.ag;have E:=zy4 k.laid (k.lens r);have I:=k.top;have G:∀p∈keptL h A order lo,PutOk h.ab (List.replicate h.ab.length (0:Int)).length p:=fun p D=>by obtain ⟨t,-,-,F,-,-,q1,q2⟩:=k.at r D;have:=E.2 p D;rw [List.length_replicate];exact ⟨by omega,by omega,by rw [F];exact q2,by omega⟩
 have J:(rebD d h A order lo).ab=i3 d h.ab order (i8 h.ab lo order) (keptL h A order lo) (List.replicate h.ab.length 0):=by show i3 d h.ab order (i8 h.ab lo order) (order.zip (i8 h.ab lo order)) (jt d h.ab order (i8 h.ab lo order) A (List.replicate h.ab.length 0))=_;rw [zxp];unfold i3 keptL;rw [List.foldl_append]
 refine ⟨zza d h A order lo,rfl,rfl,rfl,rfl,rfl,rfl,fun p D i hi=>?_,fun a L O=>?_⟩
 ·obtain ⟨t,-,-,F,-,-,q1,q2⟩:=k.at r D;have N:=E.2 p D;rw [J,zxo _ _ (p.2+i) (by omega) G (zzc k.laid (k.lens r)) p D (by omega) (by omega)];unfold putW;rw [show (p.2+(i:Int) - p.2).toNat=i by omega,show ((p.1.toNat:Nat):Int)=p.1 by omega,show ((p.1.toNat+i:Nat):Int)=p.1+i by omega]
 rw [J,zxn _ _ a L G (fun p D hc=>by have:=E.2 p D;omega),zxr]
theorem Into.small {l:List (Int×Int)} {tau:Int->Int} {hi:Int} {x:bb} (n:Into d h l tau hi x) (k:Kept d h ts l tau hi) (r:Right d h ts) (Z:∀v∈h.ab,(Lit.int .i64 v).wf=true):∀v∈x.ab,(Lit.int .i64 v).wf=true:=by
 have z:=r.sized;have z1:=z.ag;have z2:=z.old;have z3:=z.len;have J:=zy4 k.laid (k.lens r);have W:=k.top;have O:(Lit.int .i64 0).wf=true:=by decide
 have N:∀a:Int,(Lit.int .i64 (wd h.ab a)).wf=true:=fun a=>by
  unfold wd;cases e:h.ab[a.toNat]? with
  | none=>exact O
  | some v=>exact Z v (List.mem_of_getElem? e)
 have A:∀(m:List (Int×Int)) (lo:Int),LaidP h.ab lo m hi->∀a:Int,lo<=a->a<hi->∃p∈m,p.2<=a/\a<p.2+3+(bj h.ab p.1).len:=by
  intro m;induction m with
  | nil=>intro lo E a h1 V;have E:lo=hi:=E;omega
  | cons q m ih=>
    intro lo E a h1 V;have e1:=E.1;by_cases hc:a<q.2+3+(bj h.ab q.1).len
    ·exact ⟨q,List.mem_cons_self ..,by omega,hc⟩
    obtain ⟨p,F,e⟩:=ih _ E.2 a (by omega) V;exact ⟨p,List.mem_cons_of_mem _ F,e⟩
 intro v Y;obtain ⟨i,I,e⟩:=List.mem_iff_getElem.1 Y;rw [<-mw I]at e;rw [<-e];by_cases X:(i:Int)<=h.ag\/hi<=(i:Int)
 ·rw [n.rest i (by omega) X];exact O
 obtain ⟨p,F,q1,q2⟩:=A l _ k.laid i (by omega) (by omega);have w:=n.word p F ((i:Int) - p.2).toNat (by omega);rw [show p.2+((((i:Int) - p.2).toNat:Nat):Int)=(i:Int) by omega]at w;rw [w];split
 ·rename_i hc;rw [Bool.and_eq_true,decide_eq_true_eq]at hc;obtain ⟨-,D⟩:=n.ref k F (m:=((i:Int) - p.2).toNat - 3) (by omega) hc.2;rw [show p.1+((((i:Int) - p.2).toNat:Nat):Int)=p.1+3+((((i:Int) - p.2).toNat - 3:Nat):Int) by omega];rcases D with D | ⟨q,L,D⟩
  ·rw [D,k.zero];exact O
  rw [<-D,k.tq q L];have:=J.2 q L;obtain ⟨t,-,-,G,-,-,-,q3⟩:=k.at r L;rw [G]at this;exact (Lit.wf_int_iff _ _).2 ⟨by show (-9223372036854775808:Int)<=_;omega,by show _<=(9223372036854775807:Int);omega⟩
 exact N _
theorem zzl {I:List bp} (r:Right d h ts) (hl:0<=leftD h) (e2:cb d.aj.length d.fields h.ab (h.ag+1) h.ar=some I) (rs:List Int) (hr:∀v∈rs,dh ts v=true):
 Kept d h ts (keptL h I (ordY d h rs) h.ar) (ia (ordY d h rs) (i8 h.ab h.ar (ordY d h rs))) (toR h.ab h.ar (ordY d h rs))/\∀v∈rs,v=0\/∃q∈keptL h I (ordY d h rs) h.ar,q.1=v:=by
 obtain ⟨x,J,-⟩:=zxb r hl rs hr;obtain ⟨-,-,-,av⟩:=zxz r hl e2 rs hr;obtain ⟨s,hs⟩:∃s,gq d h rs=s:=⟨_,rfl⟩;rw [hs]at x J;have z:=r.sized;have z1:=z.ag;have z2:=z.old;have z3:=z.len;have z4:=z.be;have z5:=z.ar;have aa:∀p∈s.mv,p.2.len=wd h.ab (p.1+1):=fun p F=>by obtain ⟨t,A,G,q1,q2,q3,-⟩:=x.fr p F;rw [q3,q1];exact congrArg bp.len (zuv r A (zuw.1 G).2).eq
 obtain ⟨n1,n2⟩:=zxc (ws:=h.ab) x.laid aa;rw [J]at n1 n2;have Y:∀v∈ordY d h rs,dp h v=true:=fun v Z=>by rw [<-J]at Z;obtain ⟨p,F,rfl⟩:=List.mem_map.1 Z;obtain ⟨t,-,G,e,-⟩:=x.fr p F;rw [e];exact G
 have ah:(0:Int)∉ordY d h rs:=fun hc=>by have:=(zuw.1 (Y _ hc)).1;omega
 have ai:(ordY d h rs).Nodup:=by rw [<-J];exact x.nd
 have ak:(ordY d h rs).length=(i8 h.ab h.ar (ordY d h rs)).length:=(zwh _ _ _).symm;have W:(keptL h I (ordY d h rs) h.ar).map (·.1)=I.map bp.loc++ordY d h rs:=by unfold keptL;rw [List.map_append,zzg _ _ ak,List.map_map];rfl
 have N:∀t,t∈I↔t∈ts/\h.ag<t.loc:=fun t=>by
  obtain ⟨ys,ay,f1,f2,rfl⟩:=zko r.both;rw [e2]at f2;have f2:=ojq f2;subst f2;constructor
  ·intro A;have:=(zkn e2 t A).1;exact ⟨List.mem_append_right _ A,by omega⟩
  rintro ⟨A,G⟩;rcases List.mem_append.1 A with A | A
  ·have q:=zkn f1 t A;have q1:=q.2.1;have q2:=zeo q.2.2.2.2;have q3:t.fin=t.loc+3+t.len:=rfl;omega
  exact A
 have X:∀v,dh ts v=true->(dp h v=true->v∈ordY d h rs)->v=0\/∃q∈keptL h I (ordY d h rs) h.ar,q.1=v:=fun v Z G=>by
  by_cases h0:v=0
  ·exact Or.inl h0
  obtain ⟨t,A,rfl⟩:=zux Z h0;have hm:t.loc∈(keptL h I (ordY d h rs) h.ar).map (·.1):=by
   rw [W];by_cases af:dp h t.loc=true
   ·exact List.mem_append_right _ (G af)
   obtain ⟨-,-,-,q4⟩:=zy6 r A;refine List.mem_append_left _ (List.mem_map.2 ⟨t,(N t).2 ⟨A,?_⟩,rfl⟩);have:¬(0<t.loc/\t.loc<=h.ag):=fun hc=>af (zuw.2 hc);omega
  obtain ⟨q,E,e⟩:=List.mem_map.1 hm;exact Or.inr ⟨q,E,e⟩
 have L:∀q∈keptL h I (ordY d h rs) h.ar,(∃t∈I,q=(t.loc,t.loc))\/∃p∈s.mv,q=(p.1,p.2.loc):=fun q E=>by
  unfold keptL at E;rcases List.mem_append.1 E with E | E
  ·obtain ⟨t,A,e⟩:=List.mem_map.1 E;exact Or.inl ⟨t,A,e.symm⟩
  rw [n1,<-J,zxs]at E;obtain ⟨p,F,e⟩:=List.mem_map.1 E;exact Or.inr ⟨p,F,e.symm⟩
 have ad:∀v,ia (ordY d h rs) (i8 h.ab h.ar (ordY d h rs)) v=jl s.mv v:=fun v=>by rw [n1,<-J];exact zxf x.nd (by rw [J];exact ah) v
 have al:=x.otopLe r hl;refine ⟨⟨?_,?_,?_,?_,?_,?_,by rw [n2];exact al⟩,fun v Z=>X v (hr v Z) fun G=>?_⟩
 ·intro q E;rcases L q E with ⟨t,A,rfl⟩ | ⟨p,F,rfl⟩
  ·exact ⟨t,((N t).1 A).1,rfl⟩
  obtain ⟨t,A,-,e,-⟩:=x.fr p F;exact ⟨t,A,e.symm⟩
 ·exact zzd (zze _ _ I (nlq _) (by omega) e2) (zzf _ _)
 ·rw [W,List.nodup_append];refine ⟨?_,ai,?_⟩
  ·refine List.Pairwise.map _ (fun a b O e=>?_) (List.Pairwise.imp_of_mem (fun {a b} D hb O=>And.intro D O) (zxv _ _ I (nlq _) e2));have q:=zeo (zkn e2 a O.1).2.2.2.2;have q1:a.fin=a.loc+3+a.len:=rfl;have:=O.2;omega
  intro a D b hb e;obtain ⟨t,A,rfl⟩:=List.mem_map.1 D;have h1:=((N t).1 A).2;have h2:=(zuw.1 (Y b hb)).2;omega
 ·intro q E a D;rcases L q E with ⟨t,A,rfl⟩ | ⟨p,F,rfl⟩
  ·obtain ⟨V,ac⟩:=(N t).1 A;have qo:=zu7 r V ac;have D:a∈refsOf d.fields t:=by have D:a∈refsOf d.fields (bj h.ab t.loc):=D;rwa [<-qo.2.2.1]at D
   refine X _ (zu6 r V D) fun G=>?_;by_cases cn:t.loc∈h.am
   ·have hd:=(x.dn1 a (Or.inl ⟨t.loc,cn,t,V,rfl,D⟩)).2.2;have:=qo.2.2.2.2 a D;have:=qo.2.1;rw [x.srcLow r (by omega)]at hd;rw [<-J];exact hd G
   exfalso;have ao:=List.any_eq_false.1 r.un t V;refine ao ?_;unfold iq gc;rw [Bool.and_eq_true,Bool.and_eq_true,decide_eq_true_eq];refine ⟨⟨ac,?_⟩,List.any_eq_true.2 ⟨_,D,G⟩⟩;cases hcc:h.am.contains t.loc with
   | false=>rfl
   | true=>exact absurd (List.contains_iff_mem.1 hcc) cn
  obtain ⟨t,A,au,e1,e3,e4,-⟩:=x.fr p F;have y:=zuv r A (zuw.1 au).2;have D:a∈refsOf d.fields (bj h.ab p.1):=D;rw [e1,<-y.eq]at D;refine X _ (zu6 r A D) fun G=>?_;obtain ⟨n,ea,hn,an⟩:=zto D;have hf:p.2.fin=p.2.loc+3+p.2.len:=rfl;have hm:p.2.loc+3+(n:Int)∈refsOf d.fields p.2:=ztp (by omega) (by rw [zva e3];exact an);obtain ⟨j,hj,ej⟩:=List.mem_iff_getElem.1 F;have hd:=(x.dn1 (p.2.loc+3+n) (Or.inr ⟨j,p,hj,by rw [List.getElem?_eq_getElem hj,ej],hm⟩)).2.2;rw [zup (p:=p) (by omega) (by omega) x.laid (x.lens r) F,e1,show t.loc+(p.2.loc+3+(n:Int) - p.2.loc)=a by omega]at hd;rw [<-J];exact hd G
 ·intro q E;rw [ad];rcases L q E with ⟨t,A,rfl⟩ | ⟨p,F,rfl⟩
  ·unfold jl;rw [zur]
   ·rfl
   intro hc;rw [J]at hc;have h1:=((N t).1 A).2;have h2:=(zuw.1 (Y _ hc)).2;have h2:t.loc<=h.ag:=h2;omega
  unfold jl;show (ii s.mv p.1).getD p.1=p.2.loc;rw [zus F x.nd];rfl
 ·rw [ad];unfold jl;rw [zur (by rw [J];exact ah)];rfl
 exact zzj Z (by rw [zv8];exact G)
end
end Go.Proofs.YtjdnmblggdobgaaGreat
