import Derived.Test.YtjdnmblggdobgaaGreatJHxOHxP
import Derived.Test.YtjdnmblggdobgaaGreatJHuPHxD
namespace Go.Proofs.YtjdnmblggdobgaaGreat
open Go.RowKit Go.Maps
section
variable {d:bd} {h x:ar} {ts:List bk} {l:List (Int×Int)} {tau:Int->Int} {hi:Int} {rs:List Int}
theorem yq {v:Int} (h:nz v=true):v≠0:=fun e=>by subst e;cases h
theorem Ac {v:Int} (h:v≠0):nz v=true:=by unfold nz;simpa using h
theorem Kept.rch (k:Kept d h ts l tau hi) (D:∀v∈rs,v=0\/∃q∈l,q.1=v) {v:Int} (F:kh nz (ed d.fields h.ab) rs v):∃q∈l,q.1=v:=by
 apply kh.ind F
 ·intro _ h1 h2
  exact (D _ h1).resolve_left (yq h2)
 intro _ _ _ h1 h2 ih
 obtain ⟨p,E,rfl⟩:=ih;unfold ed at h1;obtain ⟨a,A,rfl⟩:=List.mem_map.1 h1;exact (k.refs p E a A).resolve_left (yq h2)
theorem Into.rch (n:Into d h l tau hi x) (k:Kept d h ts l tau hi) (r:Right d h ts) (G:∀v∈rs,v=0\/∃q∈l,q.1=v) (u:Int):kh nz (ed d.fields x.ab) (rs.map tau) u↔∃v,kh nz (ed d.fields h.ab) rs v/\tau v=u:=by
 constructor
 ·intro N;apply kh.ind N
  ·intro _ h1 h2
   obtain ⟨v,A,rfl⟩:=List.mem_map.1 h1;exact ⟨v,kh.root A (Ac fun e=>yq h2 (by rw [e];exact k.zero)),rfl⟩
  intro _ _ _ h1 h2 ih
  obtain ⟨v,A,rfl⟩:=ih;obtain ⟨p,E,rfl⟩:=k.rch G A;rw [k.tq p E]at h1;unfold ed at h1;rw [n.head k r E]at h1;obtain ⟨a,J,rfl⟩:=List.mem_map.1 h1;obtain ⟨m,e,D,F⟩:=y9 J;rw [Cr (x:=nk h.ab p) (y:=bj h.ab p.1) rfl]at F;have D:(m:Int)<(bj h.ab p.1).len:=D;obtain ⟨I,-⟩:=n.ref k E D F;have e:a=p.2+3+m:=e;rw [e,I]at h2 ⊢;refine ⟨_,kh.step A ?_ (Ac fun e=>yq h2 (by rw [e];exact k.zero)),rfl⟩;unfold ed;exact List.mem_map.2 ⟨_,Co (x:=bj h.ab p.1) D F,rfl⟩
 rintro ⟨v,A,rfl⟩;apply kh.ind A
 ·intro _ h1 h2
  exact kh.root (List.mem_map.2 ⟨_,h1,rfl⟩) (Ac (k.pos r ((G _ h1).resolve_left (yq h2))).1)
 intro _ _ A h1 h2 ih
 obtain ⟨p,E,rfl⟩:=k.rch G A;have L:=k.rch G (kh.step A h1 h2);refine kh.step ih ?_ (Ac (k.pos r L).1);rw [k.tq p E];unfold ed at h1 ⊢;rw [n.head k r E];obtain ⟨a,J,rfl⟩:=List.mem_map.1 h1;obtain ⟨m,e,D,F⟩:=y9 J;obtain ⟨I,-⟩:=n.ref k E D F;have e:a=p.1+3+m:=e;rw [e];refine List.mem_map.2 ⟨p.2+3+m,?_,I⟩;exact Co (x:=nk h.ab p) D (by rw [Cr (x:=nk h.ab p) (y:=bj h.ab p.1) rfl];exact F)
theorem Into.live (n:Into d h l tau hi x) (k:Kept d h ts l tau hi) (r:Right d h ts) (L:∀v∈rs,b8 ts v=true) (E:∀v∈rs,v=0\/∃q∈l,q.1=v):dp d x (rs.map tau)=dp d h rs:=by
 obtain ⟨N,F⟩:=Fs r L;have J:((cz d h rs).map tau).Nodup:=by refine List.Pairwise.map _ (fun a b A e=>A.2.2 (k.inj r (k.rch E ((F a).1 A.1)) (k.rch E ((F b).1 A.2.1)) e)) (List.Pairwise.imp_of_mem (S:=fun a b=>a∈cz d h rs/\b∈cz d h rs/\a≠b) (fun {a b} D I A=>⟨D,I,A⟩) N)
 rw [<-zvo (n.right k r) (k.leads E) J fun v=>?_]
 ·unfold dp;rw [List.map_map];refine congrArg List.sum (List.map_congr_left fun a D=>?_);obtain ⟨p,G,rfl⟩:=k.rch E ((F a).1 D);show 3+wd x.ab (tau p.1+1)=3+wd h.ab (p.1+1);rw [k.tq p G];have:(bj x.ab p.2).len=(nk h.ab p).len:=congrArg bk.len (n.head k r G);exact congrArg (3+ ·) this
 rw [n.rch k r E v,List.mem_map];constructor
 ·rintro ⟨a,D,e⟩;exact ⟨a,(F a).1 D,e⟩
 rintro ⟨a,D,e⟩;exact ⟨a,(F a).2 D,e⟩
end
theorem z0y {ws:List Int} {hi:Int} :∀(m:List (Int×Int)) (lo:Int),nh ws lo m hi->∀a:Int,lo<=a->a<hi->∃p∈m,p.2<=a/\a<p.2+3+(bj ws p.1).len
 | [],lo,h,a,h1,h2=>by have h:lo=hi:=h;omega
 | p::m,lo,h,a,h1,h2=>by
   have e:=h.1;by_cases c:a<p.2+3+(bj ws p.1).len
   ·exact ⟨p,List.mem_cons_self ..,by omega,c⟩
   obtain ⟨q,D,A⟩:=z0y m _ h.2 a (by omega) h2;exact ⟨q,List.mem_cons_of_mem _ D,A⟩
theorem z0z {ws:List Int} {hi:Int} :∀(m:List (Int×Int)) (lo:Int) (ws':List Int),nh ws lo m hi->(∀p∈m,wd ws' (p.2+1)=(bj ws p.1).len)->gq ws' lo (m.map (·.2))=m.map (·.2)/\toR ws' lo (m.map (·.2))=hi
 | [],lo,_,h,_=>⟨rfl,h⟩
 | p::m,lo,ws',h,hs=>by
   have e:=h.1;have F:=hs p (List.mem_cons_self ..);obtain ⟨h1,D⟩:=z0z m _ ws' h.2 fun q E=>hs q (List.mem_cons_of_mem _ E);have A:lo+(3+wd ws' (p.2+1))=lo+3+(bj ws p.1).len:=by omega
   constructor
   ·show lo::gq ws' (lo+(3+wd ws' (p.2+1))) (m.map (·.2))=p.2::m.map (·.2);rw [A,h1,e]
   show toR ws' (lo+(3+wd ws' (p.2+1))) (m.map (·.2))=hi;rw [A,D]
theorem z00 (o:List Int) (v:Int):mr o o v=v:=by
 unfold mr;rcases zxe o v with ⟨-,A⟩ | ⟨k,h1,A⟩
 ·rw [if_pos (Or.inr (by omega))]
 by_cases c:v=0\/jv o v<0
 ·rw [if_pos c]
 rw [if_neg c,A];unfold wd;rw [show ((k:Int)).toNat=k by omega,h1];rfl
theorem z01:∀(l:List Int),∀q∈l.zip l,q.1=q.2
 | [],q,h=>by cases h
 | a::l,q,h=>by
   rcases List.mem_cons.1 h with rfl | h
   ·rfl
   exact z01 l q h
theorem z02 {d:bd} {h:ar} {ts:List bk} (r:Right d h ts) (rs:List Int) (hr:∀v∈rs,b8 ts v=true) (hl:dp d h rs<=h.old) (hw:∀v∈h.ab,(Lit.int .i64 v).wf=true):
 ∃tx,Right d (la d h rs) tx/\(∀v∈pu d h rs,b8 tx v=true)/\(pu d h rs).length=rs.length/\ii d (la d h rs) (pu d h rs)=ii d h rs/\(∀v∈(la d h rs).ab,(Lit.int .i64 v).wf=true)/\(la d h rs).bo=1/\(la d h rs).am= []/\(la d h rs).next=h.next/\(la d h rs).ae=h.ae/\(la d h rs).old=h.old/\(la d h rs).ba=h.ae+1+dp d h rs/\dp d (la d h rs) (pu d h rs)=dp d h rs/\la d (la d h rs) (pu d h rs)=la d h rs/\pu d (la d h rs) (pu d h rs)=pu d h rs:=by
 obtain ⟨E,D,e1,e2,ap⟩:=xu r.both;obtain ⟨s1,s2⟩:=z0x r e1 e2 rs hr hl;obtain ⟨k,O,ah,ao,X⟩:=zyf r e1 e2 rs hr hl;have n:=zyb r k;rw [s1,s2];have aa:ji h [] (gc (cz d h rs) E D) (h.ae+1)=(gc (cz d h rs) E D).zip (gq h.ab (h.ae+1) (gc (cz d h rs) E D)):=by unfold ji;rw [List.map_nil,List.nil_append]
 unfold zn;rw [aa]at n k O;rw [ah]at n k;generalize hx:ny d h [] (gc (cz d h rs) E D) (h.ae+1)=x at*;generalize mr (gc (cz d h rs) E D) (gq h.ab (h.ae+1) (gc (cz d h rs) E D))=tau at*;have I:∀q∈(gc (cz d h rs) E D).zip (gq h.ab (h.ae+1) (gc (cz d h rs) E D)),kh nz (ed d.fields h.ab) rs q.1:=fun q hq=>(X q.1).1 (List.of_mem_zip hq).1;generalize (gc (cz d h rs) E D).zip (gq h.ab (h.ae+1) (gc (cz d h rs) E D))=kl at*;have rx:=n.right k r;have F:=k.leads O;have W:=n.live k r hr O;have ai:b9 d.aj.length d.fields x.ab (h.ae+1) (h.ae+1+dp d h rs)=some (kl.map (nk h.ab)):=n.walk k r kl _ (fun p L=>L) k.laid;have f1:b9 d.aj.length d.fields x.ab 1 x.bo=some []:=by rw [n.yt,A6 (by omega)]
 have f2:b9 d.aj.length d.fields x.ab (x.ae+1) x.ba=some (kl.map (nk h.ab)):=by rw [n.yo,n.ot];exact ai
 have V:dp d x (rs.map tau)<=x.old:=by rw [W,n.ol];exact hl
 obtain ⟨t1,t2⟩:=z0x rx f1 f2 (rs.map tau) F V;obtain ⟨Z,an,G,al,ad⟩:=zyf rx f1 f2 (rs.map tau) F V;have A:=zyb rx Z;have af:gc (cz d x (rs.map tau)) [] (kl.map (nk h.ab))=kl.map (·.2):=by unfold gc;rw [List.map_nil,List.filter_nil,List.append_nil,List.map_map];show (kl.map (·.2)).filter _=_;rw [List.filter_eq_self];intro v hv;obtain ⟨q,hq,rfl⟩:=List.mem_map.1 hv;rw [List.contains_iff_mem,(Fs rx F).2,n.rch k r O];exact ⟨q.1,I q hq,k.tq q hq⟩
 obtain ⟨g1,g2⟩:=z0z kl (h.ae+1) x.ab k.laid fun p L=>congrArg bk.len (n.head k r L);have J:=n.yo;rw [af]at t1 t2 A Z G;rw [J]at t1 t2 A Z G;have N:∀v,mr (kl.map (·.2)) (gq x.ab (h.ae+1) (kl.map (·.2))) v=v:=fun v=>by rw [g1];exact z00 _ v
 have ac:ji x [] (kl.map (·.2)) (h.ae+1)=(kl.map (·.2)).zip (kl.map (·.2)):=by unfold ji;rw [List.map_nil,List.nil_append,g1]
 rw [ac,g2]at A Z;have ak:ny d x [] (kl.map (·.2)) (h.ae+1)=x:=by
  generalize ny d x [] (kl.map (·.2)) (h.ae+1)=x' at*;have Y:x'.ab=x.ab:=by
   refine zxl A.len fun i hi=>?_;by_cases c:(i:Int)<=h.ae\/h.ae+1+dp d h rs<=(i:Int)
   ·rw [A.rest i (by omega) (by rw [J];exact c),n.rest i (by omega) c]
   obtain ⟨p,L,c1,c2⟩:=z0y _ _ Z.laid (i:Int) (by rw [J];omega) (by omega);have e:=z01 _ p L;have w:=A.word p L ((i:Int) - p.2).toNat (by omega);rw [N,e,show p.2+((((i:Int) - p.2).toNat:Nat):Int)=i by omega]at w;rw [w];split<;>rfl
  have a1:=A.yo;have a2:=A.ol;have a3:=A.yt;have a4:=A.ot;have a5:=A.no;have a6:=A.nx;have b3:=n.yt;have b4:=n.ot;have b5:=n.no;cases x';cases x;simp only at Y a1 a2 a3 a4 a5 a6 b3 b4 b5;simp [Y,a1,a2,a3,a4,a5,a6,b3,b4,b5]
 refine ⟨_,rx,F,by rw [List.length_map],n.shape k r O,n.small k r hw,n.yt,n.no,n.nx,n.yo,n.ol,n.ot,W,t1.trans ak,?_⟩;rw [t2];unfold zn;rw [List.map_congr_left (g:=id) fun v _=>N v,List.map_id]
theorem z03 {d:bd} {h:ar} {ts:List bk} (r:Right d h ts) {rs:List Int} (E:∀v∈rs,b8 ts v=true):∀v∈rs,(Lit.int .i64 v).wf=true:=fun v G=>by
 by_cases h0:v=0
 ·rw [h0];rfl
 obtain ⟨t,F,rfl⟩:=Du (E v G) h0;have A:=wv r.sized r.both t F;have D:t.fin=t.loc+3+t.len:=rfl;have I:=r.sized.ae;have J:=r.sized.old;have L:=r.sized.len;exact WalkArith.wf_i64 (by omega)
theorem z04 {A D:List Int} (h:A.Perm D):A.sum=D.sum:=by
 induction h with
 | nil=>rfl
 | cons x _ ih=>simp only [List.sum_cons]at ih ⊢;omega
 | swap x y l=>simp only [List.sum_cons];omega
 | trans _ _ h1 h2=>exact h1.trans h2
theorem z05 {d:bd} {h:ar} {ts X:List bk} (r:Right d h ts) (hl:0<=leftD h) (E:b9 d.aj.length d.fields h.ab (h.ae+1) h.ba=some X) (rs:List Int) (hr:∀v∈rs,b8 ts v=true):
 dp d (im d h rs) (j8 h rs)=dp d h rs/\dp d h rs<=h.old/\(im d h rs).old=h.old/\(im d h rs).ae=h.ae:=by
 obtain ⟨s1,s2,-⟩:=zxu r hl E rs hr;obtain ⟨k,hk⟩:=zyc r hl E rs hr;have n:=zyb r k;have N:=n.live k r hr hk;rw [s1,s2];refine ⟨N,?_,rfl,rfl⟩;have Z:dp d h rs<=toR h.ab h.ba (kv d h rs) - (h.ae+1):=by
  rw [<-N];have rx:=n.right k r;have O:=k.leads hk;obtain ⟨l1,l2⟩:=Fs rx O;have D:∀(m:List (Int×Int)) (lo:Int) (l:List Int),nh h.ab lo m (toR h.ab h.ba (kv d h rs))->(∀p∈m,0<=(bj h.ab p.1).len)->l.Nodup->(∀v∈l,∃p∈m,p.2=v/\wd (ny d h X (kv d h rs) h.ba).ab (v+1)=(bj h.ab p.1).len)->(l.map fun a=>3+wd (ny d h X (kv d h rs) h.ba).ab (a+1)).sum<=toR h.ab h.ba (kv d h rs) - lo:=by
   intro m;induction m with
   | nil=>
     intro lo l G _ _ V;cases l with
     | nil=>have G:lo=_:=G;show (0:Int)<=_;omega
     | cons v l=>obtain ⟨p,Y,-⟩:=V v (List.mem_cons_self ..);cases Y
   | cons p m ih=>
     intro lo l G h0 hn V;have ac:=h0 p (List.mem_cons_self ..);have Z:=Dv G h0;have L:=zx0 G h0;rw [List.map_cons,List.nodup_cons]at L;by_cases c:p.2∈l
     ·have aa:=ih (lo+3+(bj h.ab p.1).len) (l.erase p.2) G.2 (fun q A=>h0 q (List.mem_cons_of_mem _ A)) (hn.erase _) fun v J=>by
       have W:=(hn.mem_erase_iff.1 J);obtain ⟨q,A,e,E⟩:=V v W.2;rcases List.mem_cons.1 A with rfl | A
       ·exact absurd e.symm W.1
       exact ⟨q,A,e,E⟩
      have I:=List.perm_cons_erase c;have F:=z04 (I.map fun a=>3+wd (ny d h X (kv d h rs) h.ba).ab (a+1));rw [List.map_cons,List.sum_cons]at F;have hw:wd (ny d h X (kv d h rs) h.ba).ab (p.2+1)=(bj h.ab p.1).len:=by
       obtain ⟨q,A,e,E⟩:=V p.2 c;rcases List.mem_cons.1 A with rfl | A
       ·exact E
       exact absurd (List.mem_map.2 ⟨q,A,e⟩) L.1
      rw [F,hw];omega
     have aa:=ih (lo+3+(bj h.ab p.1).len) l G.2 (fun q A=>h0 q (List.mem_cons_of_mem _ A)) hn fun v J=>by
      obtain ⟨q,A,e,E⟩:=V v J;rcases List.mem_cons.1 A with rfl | A
      ·exact absurd (e ▸ J) c
      exact ⟨q,A,e,E⟩
     omega
  refine D _ _ _ k.laid (k.lens r) l1 fun v J=>?_;obtain ⟨t,ht,e⟩:=Fr rx O ((l2 v).1 J);obtain ⟨p,Y,rfl⟩:=List.mem_map.1 ht;have e:p.2=v:=e;subst e;exact ⟨p,Y,rfl,congrArg bk.len (n.head k r Y)⟩
 have ht:=k.top;have z1:=r.sized.ae;have z2:=r.sized.old;have z3:=r.sized.len;omega
structure vg (d:bd) (h:ar) (rs:List Int) (x:ar) (l:List Int) (tx:List bk):Prop where
 right:Right d x tx
 lead:∀v∈l,b8 tx v=true
 len:l.length=rs.length
 shape:ii d x l=ii d h rs
 ww:∀v∈x.ab,(Lit.int .i64 v).wf=true
 wn:∀v∈x.am,(Lit.int .i64 v).wf=true
 nx:x.next=h.next
 yo:x.ae=h.ae
 ol:x.old=h.old
 lv:dp d x l=dp d h rs
section
variable {d:bd} {h x:ar} {rs l:List Int} {ts tx:List bk}
theorem vg.refl (r:Right d h ts) (D:∀v∈rs,b8 ts v=true) (E:∀v∈h.ab,(Lit.int .i64 v).wf=true) (A:∀v∈h.am,(Lit.int .i64 v).wf=true):vg d h rs h rs ts:=⟨r,D,rfl,rfl,E,A,rfl,rfl,rfl,rfl⟩
theorem vg.ae (a:vg d h rs x l tx) (E:0<=leftD x):(∃A,vg d h rs (im d x l) (j8 x l) A)/\(im d x l).bo=1/\(im d x l).am= []:=by obtain ⟨W,O,N,D,-⟩:=xu a.right.both;obtain ⟨A,L,q1,q2,q3,q4,q5,q6,q7⟩:=z15 a.right E D l a.lead a.ww;obtain ⟨G,V,I,J⟩:=z05 a.right E D l a.lead;exact ⟨⟨A,L,q1,q2.trans a.len,q3.trans a.shape,q4,fun v F=>(by rw [q6]at F;cases F),q7.trans a.nx,J.trans a.yo,I.trans a.ol,G.trans a.lv⟩,q5,q6⟩
theorem vg.full (a:vg d h rs x l tx) (G:dp d h rs<=h.old):(∃E,vg d h rs (la d x l) (pu d x l) E)/\(la d x l).bo=1/\(la d x l).am= []/\(la d x l).ba=h.ae+1+dp d h rs:=by obtain ⟨E,I,q1,q2,q3,q4,q5,q6,q7,q8,q9,A,D,-⟩:=z02 a.right l a.lead (by rw [a.lv,a.ol];exact G) a.ww;exact ⟨⟨E,I,q1,q2.trans a.len,q3.trans a.shape,q4,fun v F=>(by rw [q6]at F;cases F),q7.trans a.nx,q8.trans a.yo,q9.trans a.ol,D.trans a.lv⟩,q5,q6,by rw [A,a.yo,a.lv]⟩
theorem z17 {ws A:List Int} {t:bk} {s:ja} {n:Nat} (h:wd A (t.loc+3+n)=wd ws (t.loc+3+n)):ja.word d A t s n=ja.word d ws t s n:=by unfold ja.word;rw [h]
theorem z18 {ws A:List Int} {t:bk} :∀(is:List Nat) (s:ja),(∀n∈is,wd A (t.loc+3+n)=wd ws (t.loc+3+n))->is.foldl (ja.word d A t) s=is.foldl (ja.word d ws t) s
 | [],_,_=>rfl
 | n::is,s,h=>by rw [List.foldl_cons,List.foldl_cons,z17 (h n (List.mem_cons_self ..))];exact z18 is _ fun m D=>h m (List.mem_cons_of_mem _ D)
theorem z19 {y:ar} (r:Right d x tx) (O:∀v∈l,b8 tx v=true) (N:y.ab.length=x.ab.length) (D:∀t∈tx,∀a,t.loc<=a->a<t.fin->wd y.ab a=wd x.ab a):ii d y l=ii d x l:=by
 have E:∀(f k:Nat) (s:ja),yz d x tx l k s->ja.all d y.ab f k s=ja.all d x.ab f k s:=by
  intro f;induction f with
  | zero=>intro k s i;rfl
  | succ f ih=>
    intro k s i;rw [ja.all,ja.all];cases ha:s.met[k]? with
    | none=>rfl
    | some a=>
      obtain ⟨t,A,rfl⟩:=i.sub a (List.mem_of_getElem? ha);have I:=pg r A;have J:=wv r.sized r.both t A;have L:t.fin=t.loc+3+t.len:=rfl;have G:bj y.ab t.loc=bj x.ab t.loc:=by unfold bj;rw [D t A t.loc (by omega) (by omega),D t A (t.loc+1) (by omega) (by omega),D t A (t.loc+2) (by omega) (by omega)]
      have e:s.thing d y.ab t.loc=s.thing d x.ab t.loc:=by unfold ja.thing;rw [G];refine z18 _ _ fun n F=>?_;have F:=List.mem_range.1 F;rw [<-I]at F ⊢;exact D t A _ (by omega) (by omega)
      show ja.all d y.ab f (k+1) (s.thing d y.ab t.loc)=ja.all d x.ab f (k+1) (s.thing d x.ab t.loc);rw [e];exact ih (k+1) _ (i.next r ha).1
 unfold ii;rw [N,E _ 0 _ (yz.start O)]
structure Mad (d:bd) (h:ar) (rs:List Int) (tag ln:Int) (y:ar) (l:List Int) (top:Int) (ty:List bk):Prop where
 right:Right d y ty
 lead:∀v∈l,b8 ty v=true
 len:l.length=rs.length
 shape:ii d y l=ii d h rs
 ww:∀v∈y.ab,(Lit.int .i64 v).wf=true
 wn:∀v∈y.am,(Lit.int .i64 v).wf=true
 nx:y.next<=9223372036854775807
 th:⟨top,tag,ln,h.next⟩∈ty
 new:top∉l
 pos:1<=top
theorem vg.make (a:vg d h rs x l tx) {E len:Int} {D:Bool} (ac:dq d.aj.length E=true) (L:cg d.fields E len=true) (hr:kd x D len=true) (hn:h.next<=4611686018427387904) (aa:(Lit.int .i64 h.next).wf=true) (F:(Lit.int .i64 E).wf=true) (Z:(Lit.int .i64 len).wf=true):∃I,Mad d h rs E len (ir x E len D) l (fy x D) I:=by
 have r:=a.right;have Y:=vd L;obtain ⟨I,ry,N⟩:=r.make ac L hr (by rw [a.nx];exact hn);obtain ⟨f1,f2,f3,f4⟩:=ztw r Y hr;have O:∀t∈tx,t∈I:=fun t F=>N.mem_iff.2 (List.mem_cons_of_mem _ F);have hm:(((fy x D).toNat:Nat):Int)=fy x D:=by omega
 have V:=ztv (ws:=x.ab) (m:=(fy x D).toNat) (by omega) E len x.next;rw [hm]at V;have ad:=zud tx;refine ⟨I,ry,fun v A=>?_,a.len,?_,?_,a.wn,?_,?_,fun hc=>?_,f3⟩
 ·by_cases h0:v=0
  ·subst h0;have:=zud I 0;simpa using this
  obtain ⟨t,F,rfl⟩:=Du (a.lead v A) h0;have:=zud I t.loc;have hc:(I.map bk.loc).contains t.loc=true:=List.contains_iff_mem.2 (List.mem_map.2 ⟨t,O t F,rfl⟩);rw [hc]at this;simpa using this
 ·rw [<-a.shape];refine z19 r a.lead (zlu _ _ _ (by omega)) fun t F b h1 h2=>?_;have W:=wv r.sized r.both t F;have X:t.fin=t.loc+3+t.len:=rfl;refine V.2.2.2 b ?_ (by omega);rcases f1 t F with f | f<;>omega
 ·intro v A;have J:∀(ws:List Int) (m:Nat) (p q s:Int),∀v∈lu ws m p q s,v=p\/v=q\/v=s\/v∈ws:=fun ws m p q s v A=>by
   unfold lu at A;rcases List.mem_append.1 A with A | A
   ·exact Or.inr (Or.inr (Or.inr (List.mem_of_mem_take A)))
   rcases List.mem_append.1 A with A | A
   ·simp at A;rcases A with A | A | A
    ·exact Or.inl A
    ·exact Or.inr (Or.inl A)
    exact Or.inr (Or.inr (Or.inl A))
   exact Or.inr (Or.inr (Or.inr (List.mem_of_mem_drop A)))
  rcases J _ _ _ _ _ v A with e | e | e | e
  ·rw [e];exact F
  ·rw [e];exact Z
  ·rw [e,a.nx];exact aa
  exact a.ww v e
 ·show IntKind.i64.wrap (x.next+1)<=_;have G:=r.B8;unfold jx at G;simp only [Bool.and_eq_true,decide_eq_true_eq]at G;have:=G.2;rw [a.nx]at this ⊢;rw [IntKind.wrap_i64];omega
 ·rw [<-a.nx];exact N.mem_iff.2 (List.mem_cons_self ..)
 have h0:fy x D≠0:=by omega
 obtain ⟨t,F,e⟩:=Du (a.lead _ hc) h0;have W:=wv r.sized r.both t F;have X:t.fin=t.loc+3+t.len:=rfl;rcases f1 t F with f | f<;>omega
end
end Go.Proofs.YtjdnmblggdobgaaGreat
