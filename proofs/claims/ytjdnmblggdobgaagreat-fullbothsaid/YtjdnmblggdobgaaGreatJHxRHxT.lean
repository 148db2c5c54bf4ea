import Derived.Test.YtjdnmblggdobgaaGreatJHxOHxP
import Derived.Test.YtjdnmblggdobgaaGreatJHuPHxD
import Derived.Test.YtjdnmblggdobgaaGreatJHzJHzL
set_option maxHeartbeats 8000000
set_option maxRecDepth 100000
namespace Go.Proofs.YtjdnmblggdobgaaGreat
open Go.Maps Go.RowKit Tryz List Or
section
variable {d:ax} {h x:ar} {ts:List bq} {l:List (Int×Int)} {tau:Int->Int} {hi:Int} {rs:List Int}
theorem zw {v:Int} (h:nz v=true):v≠0:=fun e=>by subst e;cases h
theorem A5 {v:Int} (h:v≠0):nz v=true:=by unfold nz;simpa using h
theorem Kept.rch (k:Kept d h ts l tau hi) (D:∀v∈rs,v=0\/∃q∈l,q.1=v) {v:Int} (F:ld nz (ev d.fields h.ab) rs v):∃q∈l,q.1=v:=by
 apply ld.ind F
 ·intro _ h1 h2
  exact (D _ h1).resolve_left (zw h2)
 intro _ _ _ h1 h2 ih
 obtain ⟨p,E,rfl⟩:=ih;unfold ev at h1;obtain ⟨a,A,rfl⟩:=mem_map.1 h1;exact (k.refs p E a A).resolve_left (zw h2)
theorem Into.rch (n:Into d h l tau hi x) (k:Kept d h ts l tau hi) (r:Right d h ts) (G:∀v∈rs,v=0\/∃q∈l,q.1=v) (u:Int):ld nz (ev d.fields x.ab) (rs.map tau) u↔∃v,ld nz (ev d.fields h.ab) rs v/\tau v=u:=by
 constructor
 ·intro N;apply ld.ind N
  ·intro _ h1 h2
   obtain ⟨v,A,rfl⟩:=mem_map.1 h1;exact ⟨v,ld.root A (A5 fun e=>zw h2 (by rw [e];exact k.zero)),rfl⟩
  intro _ _ _ h1 h2 ih
  obtain ⟨v,A,rfl⟩:=ih;obtain ⟨p,E,rfl⟩:=k.rch G A;rw [k.tq p E]at h1;unfold ev at h1;rw [n.head k r E]at h1;obtain ⟨a,J,rfl⟩:=mem_map.1 h1;obtain ⟨m,e,D,F⟩:=Bb J;rw [C7 (x:=oe h.ab p) (y:=bp h.ab p.1) rfl]at F;have D:(m:Int)<(bp h.ab p.1).len:=D;obtain ⟨I,-⟩:=n.ref k E D F;have e:a=p.2+3+m:=e;rw [e,I]at h2 ⊢;refine ⟨_,ld.step A ?_ (A5 fun e=>zw h2 (by rw [e];exact k.zero)),rfl⟩;unfold ev;exact mem_map.2 ⟨_,C6 (x:=bp h.ab p.1) D F,rfl⟩
 rintro ⟨v,A,rfl⟩;apply ld.ind A
 ·intro _ h1 h2
  exact ld.root (mem_map.2 ⟨_,h1,rfl⟩) (A5 (k.pos r ((G _ h1).resolve_left (zw h2))).1)
 intro _ _ A h1 h2 ih
 obtain ⟨p,E,rfl⟩:=k.rch G A;have L:=k.rch G (ld.step A h1 h2);refine ld.step ih ?_ (A5 (k.pos r L).1);rw [k.tq p E];unfold ev at h1 ⊢;rw [n.head k r E];obtain ⟨a,J,rfl⟩:=mem_map.1 h1;obtain ⟨m,e,D,F⟩:=Bb J;obtain ⟨I,-⟩:=n.ref k E D F;have e:a=p.1+3+m:=e;rw [e];refine mem_map.2 ⟨p.2+3+m,?_,I⟩;exact C6 (x:=oe h.ab p) D (by rw [C7 (x:=oe h.ab p) (y:=bp h.ab p.1) rfl];exact F)
theorem Into.live (n:Into d h l tau hi x) (k:Kept d h ts l tau hi) (r:Right d h ts) (L:∀v∈rs,cq ts v=true) (E:∀v∈rs,v=0\/∃q∈l,q.1=v):ic d x (rs.map tau)=ic d h rs:=by
 obtain ⟨N,F⟩:=zvd r L;have J:((de d h rs).map tau).Nodup:=by refine Pairwise.map _ (fun a b A e=>A.2.2 (k.inj r (k.rch E ((F a).1 A.1)) (k.rch E ((F b).1 A.2.1)) e)) (Pairwise.imp_of_mem (S:=fun a b=>a∈de d h rs/\b∈de d h rs/\a≠b) (fun {a b} D I A=>⟨D,I,A⟩) N)
 rw [<-zve (n.right k r) (k.leads E) J fun v=>?_]
 ·unfold ic;rw [map_map];refine congrArg List.sum (map_congr_left fun a D=>?_);obtain ⟨p,G,rfl⟩:=k.rch E ((F a).1 D);show 3+wd x.ab (tau p.1+1)=3+wd h.ab (p.1+1);rw [k.tq p G];have:(bp x.ab p.2).len=(oe h.ab p).len:=congrArg bq.len (n.head k r G);exact congrArg (3+ ·) this
 rw [n.rch k r E v,mem_map];constructor
 ·rintro ⟨a,D,e⟩;exact ⟨a,(F a).1 D,e⟩
 rintro ⟨a,D,e⟩;exact ⟨a,(F a).2 D,e⟩
end
variable {d:ax} {h:ar} {ts:List bq}
theorem z0o {ws:List Int} {hi:Int} :∀(m:List (Int×Int)) (lo:Int),od ws lo m hi->∀a:Int,lo<=a->a<hi->∃p∈m,p.2<=a/\a<p.2+3+(bp ws p.1).len
 | [],lo,h,a,h1,h2=>by have h:lo=hi:=h;omega
 | p::m,lo,h,a,h1,h2=>by
   have e:=h.1;by_cases c:a<p.2+3+(bp ws p.1).len
   ·exact ⟨p,mem_cons_self ..,by omega,c⟩
   obtain ⟨q,D,A⟩:=z0o m _ h.2 a (by omega) h2;exact ⟨q,mem_cons_of_mem _ D,A⟩
theorem z0p {ws:List Int} {hi:Int} :∀(m:List (Int×Int)) (lo:Int) (ws':List Int),od ws lo m hi->(∀p∈m,wd ws' (p.2+1)=(bp ws p.1).len)->ia ws' lo (m.map (·.2))=m.map (·.2)/\toR ws' lo (m.map (·.2))=hi
 | [],lo,_,h,_=>⟨rfl,h⟩
 | p::m,lo,ws',h,hs=>by
   have e:=h.1;have F:=hs p (mem_cons_self ..);obtain ⟨h1,D⟩:=z0p m _ ws' h.2 fun q E=>hs q (mem_cons_of_mem _ E);have A:lo+(3+wd ws' (p.2+1))=lo+3+(bp ws p.1).len:=by omega
   constructor
   ·show lo::ia ws' (lo+(3+wd ws' (p.2+1))) (m.map (·.2))=p.2::m.map (·.2);rw [A,h1,e]
   show toR ws' (lo+(3+wd ws' (p.2+1))) (m.map (·.2))=hi;rw [A,D]
theorem z0q (o:List Int) (v:Int):nj o o v=v:=by
 unfold nj;rcases zw4 o v with ⟨-,A⟩ | ⟨k,h1,A⟩
 ·rw [if_pos (inr (by omega))]
 by_cases c:v=0\/mh o v<0
 ·rw [if_pos c]
 rw [if_neg c,A];unfold wd;rw [show ((k:Int)).toNat=k by omega,h1];rfl
theorem z0r:∀(l:List Int),∀q∈l.zip l,q.1=q.2
 | [],q,h=>by cases h
 | a::l,q,h=>by
   rcases mem_cons.1 h with rfl | h
   ·rfl
   exact z0r l q h
theorem z0s (r:Right d h ts) (rs:List Int) (hr:∀v∈rs,cq ts v=true) (hl:ic d h rs<=h.old) (hw:∀v∈h.ab,(Lit.int .i64 v).wf=true):
 ∃tx,Right d (dr d h rs) tx/\(∀v∈gu d h rs,cq tx v=true)/\(gu d h rs).length=rs.length/\ko d (dr d h rs) (gu d h rs)=ko d h rs/\(∀v∈(dr d h rs).ab,(Lit.int .i64 v).wf=true)/\(dr d h rs).bk=1/\(dr d h rs).ap= []/\(dr d h rs).next=h.next/\(dr d h rs).ae=h.ae/\(dr d h rs).old=h.old/\(dr d h rs).be=h.ae+1+ic d h rs/\ic d (dr d h rs) (gu d h rs)=ic d h rs/\dr d (dr d h rs) (gu d h rs)=dr d h rs/\gu d (dr d h rs) (gu d h rs)=gu d h rs:=by
 obtain ⟨E,D,e1,e2,av⟩:=Ab r.both;obtain ⟨s1,s2⟩:=z0n r e1 e2 rs hr hl;obtain ⟨k,O,ah,au,X⟩:=zx5 r e1 e2 rs hr hl;have n:=zx1 r k;rw [s1,s2];have aa:jm h [] (gi (de d h rs) E D) (h.ae+1)=(gi (de d h rs) E D).zip (ia h.ab (h.ae+1) (gi (de d h rs) E D)):=by unfold jm;rw [map_nil,nil_append]
 unfold Ar;rw [aa]at n k O;rw [ah]at n k;generalize hx:pc d h [] (gi (de d h rs) E D) (h.ae+1)=x at*;generalize nj (gi (de d h rs) E D) (ia h.ab (h.ae+1) (gi (de d h rs) E D))=tau at*;have I:∀q∈(gi (de d h rs) E D).zip (ia h.ab (h.ae+1) (gi (de d h rs) E D)),ld nz (ev d.fields h.ab) rs q.1:=fun q hq=>(X q.1).1 (of_mem_zip hq).1;generalize (gi (de d h rs) E D).zip (ia h.ab (h.ae+1) (gi (de d h rs) E D))=kl at*;have rx:=n.right k r;have F:=k.leads O;have W:=n.live k r hr O;have ai:cw d.am.length d.fields x.ab (h.ae+1) (h.ae+1+ic d h rs)=some (kl.map (oe h.ab)):=n.walk k r kl _ (fun p L=>L) k.laid;have f1:cw d.am.length d.fields x.ab 1 x.bk=some []:=by rw [n.yt,Dw (by omega)]
 have f2:cw d.am.length d.fields x.ab (x.ae+1) x.be=some (kl.map (oe h.ab)):=by rw [n.yo,n.ot];exact ai
 have V:ic d x (rs.map tau)<=x.old:=by rw [W,n.ol];exact hl
 obtain ⟨t1,t2⟩:=z0n rx f1 f2 (rs.map tau) F V;obtain ⟨Z,an,G,al,ad⟩:=zx5 rx f1 f2 (rs.map tau) F V;have A:=zx1 rx Z;have af:gi (de d x (rs.map tau)) [] (kl.map (oe h.ab))=kl.map (·.2):=by unfold gi;rw [map_nil,filter_nil,append_nil,map_map];show (kl.map (·.2)).filter _=_;rw [filter_eq_self];intro v hv;obtain ⟨q,hq,rfl⟩:=mem_map.1 hv;rw [contains_iff_mem,(zvd rx F).2,n.rch k r O];exact ⟨q.1,I q hq,k.tq q hq⟩
 obtain ⟨g1,g2⟩:=z0p kl (h.ae+1) x.ab k.laid fun p L=>congrArg bq.len (n.head k r L);have J:=n.yo;rw [af]at t1 t2 A Z G;rw [J]at t1 t2 A Z G;have N:∀v,nj (kl.map (·.2)) (ia x.ab (h.ae+1) (kl.map (·.2))) v=v:=fun v=>by rw [g1];exact z0q _ v
 have ac:jm x [] (kl.map (·.2)) (h.ae+1)=(kl.map (·.2)).zip (kl.map (·.2)):=by unfold jm;rw [map_nil,nil_append,g1]
 rw [ac,g2]at A Z;have ak:pc d x [] (kl.map (·.2)) (h.ae+1)=x:=by
  generalize pc d x [] (kl.map (·.2)) (h.ae+1)=x' at*;have Y:x'.ab=x.ab:=by
   refine zxb A.len fun i hi=>?_;by_cases c:(i:Int)<=h.ae\/h.ae+1+ic d h rs<=(i:Int)
   ·rw [A.rest i (by omega) (by rw [J];exact c),n.rest i (by omega) c]
   obtain ⟨p,L,c1,c2⟩:=z0o _ _ Z.laid (i:Int) (by rw [J];omega) (by omega);have e:=z0r _ p L;have w:=A.word p L ((i:Int) - p.2).toNat (by omega);rw [N,e,show p.2+((((i:Int) - p.2).toNat:Nat):Int)=i by omega]at w;rw [w];split<;>rfl
  have a1:=A.yo;have a2:=A.ol;have a3:=A.yt;have a4:=A.ot;have a5:=A.no;have a6:=A.nx;have b3:=n.yt;have b4:=n.ot;have b5:=n.no;cases x';cases x;simp only at Y a1 a2 a3 a4 a5 a6 b3 b4 b5;simp [Y,a1,a2,a3,a4,a5,a6,b3,b4,b5]
 refine ⟨_,rx,F,by rw [length_map],n.shape k r O,n.small k r hw,n.yt,n.no,n.nx,n.yo,n.ol,n.ot,W,t1.trans ak,?_⟩;rw [t2];unfold Ar;rw [map_congr_left (g:=id) fun v _=>N v,map_id]
theorem z0t (r:Right d h ts) {rs:List Int} (E:∀v∈rs,cq ts v=true):∀v∈rs,(Lit.int .i64 v).wf=true:=fun v G=>by
 by_cases h0:v=0
 ·rw [h0];rfl
 obtain ⟨t,F,rfl⟩:=Fy (E v G) h0;have A:=B5 r.sized r.both t F;have D:t.fin=t.loc+3+t.len:=rfl;have I:=r.sized.ae;have J:=r.sized.old;have L:=r.sized.len;exact WalkArith.wf_i64 (by omega)
theorem z0u {A D:List Int} (h:A.Perm D):A.sum=D.sum:=by
 induction h with
 | nil=>rfl
 | cons x _ ih=>simp only [sum_cons]at ih ⊢;omega
 | swap x y l=>simp only [sum_cons];omega
 | trans _ _ h1 h2=>exact h1.trans h2
theorem z0v {X:List bq} (r:Right d h ts) (hl:0<=leftD h) (E:cw d.am.length d.fields h.ab (h.ae+1) h.be=some X) (rs:List Int) (hr:∀v∈rs,cq ts v=true):
 ic d (bw d h rs) (cb h rs)=ic d h rs/\ic d h rs<=h.old/\(bw d h rs).old=h.old/\(bw d h rs).ae=h.ae:=by
 obtain ⟨s1,s2,-⟩:=zxk r hl E rs hr;obtain ⟨k,hk⟩:=zx2 r hl E rs hr;have n:=zx1 r k;have N:=n.live k r hr hk;rw [s1,s2];refine ⟨N,?_,rfl,rfl⟩;have Z:ic d h rs<=toR h.ab h.be (ma d h rs) - (h.ae+1):=by
  rw [<-N];have rx:=n.right k r;have O:=k.leads hk;obtain ⟨l1,l2⟩:=zvd rx O;have D:∀(m:List (Int×Int)) (lo:Int) (l:List Int),od h.ab lo m (toR h.ab h.be (ma d h rs))->(∀p∈m,0<=(bp h.ab p.1).len)->l.Nodup->(∀v∈l,∃p∈m,p.2=v/\wd (pc d h X (ma d h rs) h.be).ab (v+1)=(bp h.ab p.1).len)->(l.map fun a=>3+wd (pc d h X (ma d h rs) h.be).ab (a+1)).sum<=toR h.ab h.be (ma d h rs) - lo:=by
   intro m;induction m with
   | nil=>
     intro lo l G _ _ V;cases l with
     | nil=>have G:lo=_:=G;show (0:Int)<=_;omega
     | cons v l=>obtain ⟨p,Y,-⟩:=V v (mem_cons_self ..);cases Y
   | cons p m ih=>
     intro lo l G h0 hn V;have ac:=h0 p (mem_cons_self ..);have Z:=D0 G h0;have L:=zxq G h0;rw [map_cons,nodup_cons]at L;by_cases c:p.2∈l
     ·have aa:=ih (lo+3+(bp h.ab p.1).len) (l.erase p.2) G.2 (fun q A=>h0 q (mem_cons_of_mem _ A)) (hn.erase _) fun v J=>by
       have W:=(hn.mem_erase_iff.1 J);obtain ⟨q,A,e,E⟩:=V v W.2;rcases mem_cons.1 A with rfl | A
       ·exact absurd e.symm W.1
       exact ⟨q,A,e,E⟩
      have I:=perm_cons_erase c;have F:=z0u (I.map fun a=>3+wd (pc d h X (ma d h rs) h.be).ab (a+1));rw [map_cons,sum_cons]at F;have hw:wd (pc d h X (ma d h rs) h.be).ab (p.2+1)=(bp h.ab p.1).len:=by
       obtain ⟨q,A,e,E⟩:=V p.2 c;rcases mem_cons.1 A with rfl | A
       ·exact E
       exact absurd (mem_map.2 ⟨q,A,e⟩) L.1
      rw [F,hw];omega
     have aa:=ih (lo+3+(bp h.ab p.1).len) l G.2 (fun q A=>h0 q (mem_cons_of_mem _ A)) hn fun v J=>by
      obtain ⟨q,A,e,E⟩:=V v J;rcases mem_cons.1 A with rfl | A
      ·exact absurd (e ▸ J) c
      exact ⟨q,A,e,E⟩
     omega
  refine D _ _ _ k.laid (k.lens r) l1 fun v J=>?_;obtain ⟨t,ht,e⟩:=zvb rx O ((l2 v).1 J);obtain ⟨p,Y,rfl⟩:=mem_map.1 ht;have e:p.2=v:=e;subst e;exact ⟨p,Y,rfl,congrArg bq.len (n.head k r Y)⟩
 have ht:=k.top;have z1:=r.sized.ae;have z2:=r.sized.old;have z3:=r.sized.len;omega
theorem z2g (r:Right d h ts) {rs:List Int} (h1:rs.length<=1000) (A:∀v∈rs,cq ts v=true):dq d h rs=0:=by
 have e:sw d h=ts:=by unfold sw;rw [r.both];rfl
 unfold dq;rw [if_pos r.err,e,z1s h1 A]
theorem z2h {rs:List Int} (h0:dq d h rs=0):jc d h rs=if ic d h rs<=h.old then 0 else 8:=by unfold jc;rw [if_pos h0]
theorem z2i (V:World) (b B:Nat) (xW xO xR:Option Addr) (E D F:Nat) (kC kS kF kN kT:Value) (x:ar) (A:List Int) (d:ax) (tx:List bq) (L:Right d x tx) (lk:nh (· <B) V kC kS kF kN kT d) (hB:B<=V.heap.size) (J:ik b V (.slice xW x.ab.length E) (.slice xO 0 D) x) (Z:V.ownsRow b 3 1 (.slice xR A.length F) A.length (b8 A)) (I:x.ap= []) (aa:∀v∈x.ab,(Lit.int .i64 v).wf=true) (hm:∀v∈A,cq tx v=true) (X:A.length<=1000) (hl:ic d x A<=x.old):
 Calls prog 43 #[.agg #[.slice xW x.ab.length E,.i x.ae,.i x.old,.i x.bk,.i x.be,.slice xO 0 D,.i x.next],.agg #[kC,kS,kF,kN,kT],.slice xR A.length F] V fun r w'=>Bl V w'/\∃W E N D O F,r=.returned (.tuple #[.agg #[.slice W (dr d x A).ab.length E,.i (dr d x A).ae,.i (dr d x A).old,.i 1,.i (dr d x A).be,.slice N 0 D,.i (dr d x A).next],.slice O (gu d x A).length F,.i 0])/\ik V.heap.size w' (.slice W (dr d x A).ab.length E) (.slice N 0 D) (dr d x A)/\w'.ownsRow V.heap.size 3 1 (.slice O (gu d x A).length F) (gu d x A).length (b8 (gu d x A)):=by
 have z1:=L.sized.ae;have z2:=L.sized.old;have z3:=L.sized.len;have ac:x.ap.length=0:=by rw [I];rfl
 have Y:∀k,k<B->k<V.heap.size:=fun k G=>by omega
 have gx:Hd V.heap.size V (.slice xW x.ab.length E) (.slice xO 0 D) kC kS kF kN kT x d:=⟨(rg J.rW (by omega)).monoI fun _ G=>G.lt,(rg J.rO (by omega)).monoI fun _ G=>G.lt,lk.mono Y,nlq _,aa,fun v hv=>by rw [I]at hv;cases hv⟩;have:=z0g V V.heap.size _ _ _ _ _ _ _ x d gx _ A ((rg Z (by omega)).monoI fun _ G=>G.lt) (z0t L hm);refine this.mono ?_;have hz:jc d x A=0:=by rw [z2h (z2g L X hm),if_pos hl]
 rintro r w' ⟨hb,⟨-,W,E,N,D,O,F,q1,q2,q3⟩ | ⟨q,-⟩⟩
 ·exact ⟨hb,W,E,N,D,O,F,q1,q2,q3⟩
 exact absurd hz q
theorem ym (w:World) (B:Nat) (vW vO kC kS kF kN kT:Value) (h:ar) (d:ax) (g:Hd B w vW vO kC kS kF kN kT h d) (dl:h.next<=9223372036854775807) (vR:Value) (rs:List Int) (hs:SL 1 RI (· <B) w vR rs) (ce:∀x∈rs,(Lit.int .i64 x).wf=true):
 Calls prog 16 #[.agg #[vW,.i h.ae,.i h.old,.i h.bk,.i h.be,vO,.i h.next],.agg #[kC,kS,kF,kN,kT],vR] w fun r w'=>r=.returned (.bool true)/\Bl w w':=by
 have HG:=aj g;have ef:=aj hs;obtain ⟨aW,cW,aO,cO,aC,cC,aS,cS,aF,cF,aN,cN,aT,cT,rfl,rfl,rfl,rfl,rfl,rfl,rfl⟩:=g.agg;obtain ⟨aR,cR,rfl,-⟩:=hs;clear g;obtain ⟨E,cy,ak,el,k0,k1⟩:=nf w (H7 aW cW aO cO h) (K5 aC cC aS cS aF cF aN cN aT cT d) 24 36;have cj:=bz k0;have Aq:=bz k1;have X:=aj ak;have b2:=aj cy;have Y:=aj (And.intro k0 k1);have a7:Hid (∀V,Bl E V->Hd B V (.slice aW h.ab.length cW) (.slice aO h.ap.length cO) (.slice aC d.am.length cC) (.slice aS d.bj.length cS) (.slice aF d.fields.length cF) (.slice aN d.names.length cN) (.slice aT d.ba.length cT) h d):=fun V W=>HG.o.below ((ak.trans (W.mono ak.size)).mono HG.o.le);have cv:Hid (∀V,Bl E V->SL 1 RI (· <B) V (.slice aR rs.length cR) rs):=fun V W=>ef.o.keptI (Kp.below ((ak.trans (W.mono ak.size)).mono HG.o.le));have a6:=aj fun V (W:Bl E V)=>z0e V B _ _ _ _ _ _ _ h d (a7.o V W) _ rs (cv.o V W) ce;have b3:=aj fun V (W:Bl E V)=>z0g V B _ _ _ _ _ _ _ h d (a7.o V W) _ rs (cv.o V W) ce;have av:=aj (z2f E);rw [b2.o]at av;have hE:ir d h rs=0\/ir d h rs≠0:=by omega
 clear ak cy el k0 k1 ce;rcases hE with hE | hE
 ·have a4:dq d h rs=0/\0<=leftD h:=by
   unfold ir at hE;by_cases h1:dq d h rs=0
   ·rw [if_pos h1]at hE;by_cases h2:0<=leftD h
    ·exact ⟨h1,h2⟩
    rw [if_neg h2]at hE;cases hE
   rw [if_neg h1]at hE;exact absurd hE h1
  obtain ⟨ts,rt,ey,bh⟩:=z0c a4.1;obtain ⟨ys,os,e1,e2,-⟩:=Ab rt.both;obtain ⟨tx,rx,b6,ej,d1,cf,ch,b9,ek⟩:=z1u rt a4.2 e2 rs bh HG.o.ww;obtain ⟨b5,hL,c8,c9⟩:=z0v rt a4.2 e2 rs bh;have b4:ic d (bw d h rs) (cb h rs)<=(bw d h rs).old:=by rw [b5,c8];exact hL
  obtain ⟨ty,ry,dj,df,bu,d2,b0,a2,ds,d4,du,bn,-⟩:=z0s rx (cb h rs) b6 b4 cf;obtain ⟨tz,rz,dk,dg,bx,d3,b1,a3,bm,d5,dz,bo,-⟩:=z0s rt rs bh hL HG.o.ww;have dd:jc d h rs=0:=by rw [z2h a4.1,if_pos hL]
  have ca:(dr d (bw d h rs) (cb h rs)).be=(dr d h rs).be:=by rw [bn,bo,b5,c9]
  have cc:∀(x:ar) (tx:List bq),Right d x tx->x.ab.length<=1000000:=fun x tx rx=>by have z1:=rx.sized.ae;have z2:=rx.sized.old;have z3:=rx.sized.len;omega
  have au:Hid (∀V,Bl E V->Calls prog 33 #[.agg (H7 aW cW aO cO h),.agg (K5 aC cC aS cS aF cF aN cN aT cT d),.slice aR rs.length cR] V fun r w'=>Bl V w'/\∃L G J F O N,r=.returned (.tuple #[.agg #[.slice L (bw d h rs).ab.length G,.i (bw d h rs).ae,.i (bw d h rs).old,.i 1,.i (bw d h rs).be,.slice J 0 F,.i (bw d h rs).next],.slice O (cb h rs).length N,.i 0])/\ik V.heap.size w' (.slice L (bw d h rs).ab.length G) (.slice J 0 F) (bw d h rs)/\w'.ownsRow V.heap.size 3 1 (.slice O (cb h rs).length N) (cb h rs).length (b8 (cb h rs))):=fun V W=>(a6.o V W).mono fun r w' ⟨hb,q⟩=>by
   have b7:(bw d h rs).ap.length=0:=by rw [b9];rfl
   rcases q with ⟨-,L,G,J,F,O,N,q1,q2,q3⟩ | ⟨q,-⟩
   ·unfold H7 at q1;rw [b7,ch]at q1;rw [b7]at q2;exact ⟨hb,L,G,J,F,O,N,q1,q2,q3⟩
   exact absurd hE q
  have cs:Hid (∀V,Bl E V->Calls prog 43 #[.agg (H7 aW cW aO cO h),.agg (K5 aC cC aS cS aF cF aN cN aT cT d),.slice aR rs.length cR] V fun r w'=>Bl V w'/\∃L G J F O N,r=.returned (.tuple #[.agg #[.slice L (dr d h rs).ab.length G,.i (dr d h rs).ae,.i (dr d h rs).old,.i 1,.i (dr d h rs).be,.slice J 0 F,.i (dr d h rs).next],.slice O (gu d h rs).length N,.i 0])/\ik V.heap.size w' (.slice L (dr d h rs).ab.length G) (.slice J 0 F) (dr d h rs)/\w'.ownsRow V.heap.size 3 1 (.slice O (gu d h rs).length N) (gu d h rs).length (b8 (gu d h rs))):=fun V W=>(b3.o V W).mono fun r w' ⟨hb,q⟩=>by
   rcases q with ⟨-,L,G,J,F,O,N,q1,q2,q3⟩ | ⟨q,-⟩
   ·exact ⟨hb,L,G,J,F,O,N,q1,q2,q3⟩
   exact absurd dd q
  have ct:Hid (∀(V:World) (L J O:Option Addr) (G F N:Nat),Bl E V->ik E.heap.size V (.slice L (bw d h rs).ab.length G) (.slice J 0 F) (bw d h rs)->V.ownsRow E.heap.size 3 1 (.slice O (cb h rs).length N) (cb h rs).length (b8 (cb h rs))->Calls prog 43 #[.agg #[.slice L (bw d h rs).ab.length G,.i (bw d h rs).ae,.i (bw d h rs).old,.i 1,.i (bw d h rs).be,.slice J 0 F,.i (bw d h rs).next],.agg (K5 aC cC aS cS aF cF aN cN aT cT d),.slice O (cb h rs).length N] V fun r w'=>Bl V w'/\∃L G J F O N,r=.returned (.tuple #[.agg #[.slice L (dr d (bw d h rs) (cb h rs)).ab.length G,.i (dr d (bw d h rs) (cb h rs)).ae,.i (dr d (bw d h rs) (cb h rs)).old,.i 1,.i (dr d (bw d h rs) (cb h rs)).be,.slice J 0 F,.i (dr d (bw d h rs) (cb h rs)).next],.slice O (gu d (bw d h rs) (cb h rs)).length N,.i 0])/\ik V.heap.size w' (.slice L (dr d (bw d h rs) (cb h rs)).ab.length G) (.slice J 0 F) (dr d (bw d h rs) (cb h rs))/\w'.ownsRow V.heap.size 3 1 (.slice O (gu d (bw d h rs) (cb h rs)).length N) (gu d (bw d h rs) (cb h rs)).length (b8 (gu d (bw d h rs) (cb h rs)))):=fun V L J O G F N W D I=>by have cx:B<=V.heap.size:=lt3 HG.o.le (X.o.trans (W.mono X.o.size)).size;have:=z2i V E.heap.size B L J O G F N _ _ _ _ _ (bw d h rs) (cb h rs) d tx rx (a7.o V W).lk cx D I b9 cf b6 (by omega) b4;rw [ch]at this;exact this
  have cm:Hid (∀(V:World) (L J O mW mO mR:Option Addr) (G F N eW eO eR:Nat),Bl E V->ik E.heap.size V (.slice L (dr d (bw d h rs) (cb h rs)).ab.length G) (.slice J 0 F) (dr d (bw d h rs) (cb h rs))->V.ownsRow E.heap.size 3 1 (.slice O (gu d (bw d h rs) (cb h rs)).length N) (gu d (bw d h rs) (cb h rs)).length (b8 (gu d (bw d h rs) (cb h rs)))->ik E.heap.size V (.slice mW (dr d h rs).ab.length eW) (.slice mO 0 eO) (dr d h rs)->V.ownsRow E.heap.size 3 1 (.slice mR (gu d h rs).length eR) (gu d h rs).length (b8 (gu d h rs))->Calls prog 39 #[.agg #[.slice L (dr d (bw d h rs) (cb h rs)).ab.length G,.i (dr d (bw d h rs) (cb h rs)).ae,.i (dr d (bw d h rs) (cb h rs)).old,.i 1,.i (dr d (bw d h rs) (cb h rs)).be,.slice J 0 F,.i (dr d (bw d h rs) (cb h rs)).next],.agg (K5 aC cC aS cS aF cF aN cN aT cT d),.slice O (gu d (bw d h rs) (cb h rs)).length N,.agg #[.slice mW (dr d h rs).ab.length eW,.i (dr d h rs).ae,.i (dr d h rs).old,.i 1,.i (dr d h rs).be,.slice mO 0 eO,.i (dr d h rs).next],.slice mR (gu d h rs).length eR] V fun r w'=>r=.returned (.bool true)/\Bl V w'):=fun V L J O mW mO mR G F N eW eO eR W D I bs d0=>by
   have cx:B<=V.heap.size:=lt3 HG.o.le (X.o.trans (W.mono X.o.size)).size;have hm:∀k,k<B->k<V.heap.size:=fun k hk=>by omega
   have g1:=a7.o V W;have b7:(dr d (bw d h rs) (cb h rs)).ap.length=0:=by rw [a2];rfl
   have eq:(dr d h rs).ap.length=0:=by rw [a3];rfl
   have gy:Hd V.heap.size V (.slice L (dr d (bw d h rs) (cb h rs)).ab.length G) (.slice J 0 F) (.slice aC d.am.length cC) (.slice aS d.bj.length cS) (.slice aF d.fields.length cF) (.slice aN d.names.length cN) (.slice aT d.ba.length cT) (dr d (bw d h rs) (cb h rs)) d:=⟨(rg D.rW (cc _ _ ry)).monoI fun _ hk=>hk.lt,(rg D.rO (by omega)).monoI fun _ hk=>hk.lt,g1.lk.mono hm,nlq _,d2,fun v hv=>by rw [a2]at hv;cases hv⟩;have gz:Hd V.heap.size V (.slice mW (dr d h rs).ab.length eW) (.slice mO 0 eO) (.slice aC d.am.length cC) (.slice aS d.bj.length cS) (.slice aF d.fields.length cF) (.slice aN d.names.length cN) (.slice aT d.ba.length cT) (dr d h rs) d:=⟨(rg bs.rW (cc _ _ rz)).monoI fun _ hk=>hk.lt,(rg bs.rO (by omega)).monoI fun _ hk=>hk.lt,g1.lk.mono hm,nlq _,d3,fun v hv=>by rw [a3]at hv;cases hv⟩;have:=z1t V V.heap.size _ _ _ _ _ _ _ _ _ (dr d (bw d h rs) (cb h rs)) (dr d h rs) d gy gz ty tz ry rz (by rw [bm];exact dl) _ (gu d (bw d h rs) (cb h rs)) ((rg I (by omega)).monoI fun _ hk=>hk.lt) dj (by omega) _ (gu d h rs) ((rg d0 (by omega)).monoI fun _ hk=>hk.lt) dk (by omega) (by rw [bu,d1,bx]);rw [b0,b1]at this;exact this
  clear a6 b3 hE a4 dd rt bh e1 e2 rx b6 d1 cf ch b9 ek b5 hL c8 c9 b4 ry dj bu d2 b0 a2 ds d4 du bn rz dk bx d3 b1 a3 bm d5 dz bo cc dl ej df dg;generalize dr d (bw d h rs) (cb h rs)=yc at*;generalize gu d (bw d h rs) (cb h rs)=yr at*;generalize dr d h rs=zc at*;generalize gu d h rs=zr at*;generalize bw d h rs=hc at*;generalize cb h rs=rc at*;have eb:Hid ((yc.be==zc.be)=true):=by
   have:(yc.be==zc.be)=true:=by rw [ca];simp
   exact this
  clear ca;go_enter func16,ntmps16;go_wp2_with fail;refine av.o.mono ?_;rw [<-b2.o];rintro r w1 ⟨rfl,az⟩;have al:=aj az;clear az;go_wp2_with fail;refine (z1h w1).mono ?_;rintro r w2 ⟨rfl,a0⟩;have A:Bl E w2:=al.o.trans (a0.mono al.o.size);have j0:=(A.block _ cj).trans Y.o.1;have j1:=(A.block _ Aq).trans Y.o.2;have ad:=aj A;have an:=aj (au.o w2 A);have ac:=il j0;have bc:=cells5 j1;clear A a0 j0 j1 av au;go_wp2_with fail;refine an.o.mono ?_;rintro r w3 ⟨a1,L,G,J,F,O,N,rfl,D,I⟩;clear an;clear ac;clear bc;have aw:Bl E w3:=ad.o.trans (a1.mono ad.o.size);obtain ⟨W4,c0,a8,em,kx⟩:=jq w3 #[.slice L hc.ab.length G,.i hc.ae,.i hc.old,.i 1,.i hc.be,.slice J 0 F,.i hc.next] 24;have af:Bl E W4:=aw.trans (a8.mono aw.size);have cp:=aj (ct.o W4 L J O G F N af ((D.below a8).mono ad.o.size) (vb (km I a8) ad.o.size));have j1:=(af.block _ Aq).trans Y.o.2;have xc:=il kx;have bc:=cells5 j1;have eg:=aj c0;have a5:=aj af;have es:w3.heap.size<W4.heap.size:=by omega
  have c1:=eg.o.symm;clear c0 em kx af j1 a8 D I a1 aw ct;go_wp2_with fail;refine cp.o.mono ?_;clear c1;rintro r w5 ⟨c7,mW,eW,mO,eO,mR,eR,rfl,D,I⟩;clear cp;clear xc;clear bc;have ay:Bl E w5:=a5.o.trans (c7.mono a5.o.size);obtain ⟨W6,c2,a9,en,ky⟩:=jq w5 #[.slice mW yc.ab.length eW,.i yc.ae,.i yc.old,.i 1,.i yc.be,.slice mO 0 eO,.i yc.next] 24;have Z:Bl E W6:=ay.trans (a9.mono ay.size);have cr:=aj (cs.o W6 Z);have ee:=aj ((D.below a9).mono a5.o.size);have ec:=aj (vb (km I a9) a5.o.size);have j0:=(Z.block _ cj).trans Y.o.1;have j1:=(Z.block _ Aq).trans Y.o.2;have ac:=il j0;have bc:=cells5 j1;have eh:=aj c2;have ai:=aj Z;have cu:=aj ky;have et:w5.heap.size<W6.heap.size:=by omega
  have c3:=eh.o.symm;clear c2 en ky Z j0 j1 a9 D I c7 ay cs;go_wp2_with fail;refine cr.o.mono ?_;clear c3;rintro r w7 ⟨bd,pW,fW,pO,fO,pR,fR,rfl,D,I⟩;clear cr;clear ac;clear bc;have c6:Bl E w7:=ai.o.trans (bd.mono ai.o.size);obtain ⟨W8,c4,bb,eo,kz⟩:=jq w7 #[.slice pW zc.ab.length fW,.i zc.ae,.i zc.old,.i 1,.i zc.be,.slice pO 0 fO,.i zc.next] 24;have aa:Bl W6 W8:=bd.trans (bb.mono bd.size);have ah:Bl E W8:=ai.o.trans (aa.mono ai.o.size);have ck:=aj (cm.o W8 mW mO mR pW pO pR eW eO eR fW fO fR ah (ee.o.below aa) (km ec.o aa) ((D.below bb).mono ai.o.size) (vb (km I bb) ai.o.size));have ci:=(aa.block _ (bz cu.o)).trans cu.o;have j1:=(ah.block _ Aq).trans Y.o.2;have bi:=aj ci;have bl:=aj kz;have yc:=il ci;have zc:=il kz;have bc:=cells5 j1;have ei:=aj c4;have co:=aj ah;have eu:w7.heap.size<W8.heap.size:=by omega
  have c5:=ei.o.symm;clear c4 eo kz ci ah aa j1 bb D I bd c6 cm;go_wp2_with fail;refine ck.o.mono ?_;clear c5;rintro r w9 ⟨rfl,bf⟩;clear ck;clear yc;clear zc;clear bc;have d6:=(bf.block _ (bz bi.o)).trans bi.o;have d8:=(bf.block _ (bz bl.o)).trans bl.o;have yc:=il d6;have zc:=il d8;have ea:Hid (Bl w w9):=X.o.trans ((co.o.trans (bf.mono co.o.size)).mono X.o.size);have ca:=eb.o;clear d6 d8 bf;go_wp2_with fail;go_ret;exact ⟨by simp,ea.o⟩
 have au:Hid (∀V,Bl E V->Calls prog 33 #[.agg (H7 aW cW aO cO h),.agg (K5 aC cC aS cS aF cF aN cN aT cT d),.slice aR rs.length cR] V fun r w'=>Bl V w'/\r=.returned (.tuple #[.agg #[.nl,.i 0,.i 0,.i 0,.i 0,.nl,.i 0],.nl,.i (ir d h rs)])):=fun V W=>(a6.o V W).mono fun r w' ⟨hb,q⟩=>by
  rcases q with ⟨q,-⟩ | ⟨-,q⟩
  ·exact absurd q hE
  exact ⟨hb,q⟩
 have ex:(ir d h rs==0)=false:=by simpa using hE
 generalize ir d h rs=er at*;clear a6 b3 hE;go_enter func16,ntmps16;go_wp2_with fail;refine av.o.mono ?_;rw [<-b2.o];rintro r w1 ⟨rfl,az⟩;have al:=aj az;clear az;go_wp2_with fail;refine (z1h w1).mono ?_;rintro r w2 ⟨rfl,a0⟩;have A:Bl E w2:=al.o.trans (a0.mono al.o.size);have j0:=(A.block _ cj).trans Y.o.1;have j1:=(A.block _ Aq).trans Y.o.2;have ad:=aj A;have an:=aj (au.o w2 A);have ac:=il j0;have bc:=cells5 j1;clear A a0 j0 j1 av au;go_wp2_with fail;refine an.o.mono ?_;rintro r w3 ⟨a1,rfl⟩;clear an;clear ac;clear bc;have cn:Hid (Bl w w3):=X.o.trans ((ad.o.trans (a1.mono ad.o.size)).mono X.o.size);clear a1;go_wp2_with fail;go_ret;exact ⟨by simp,cn.o.alloc cn.o.size _⟩
end Go.Proofs.YtjdnmblggdobgaaGreat
