import Derived.Test.YtjdnmblggdobgaaGreatJHzBHzD
set_option maxHeartbeats 8000000
set_option maxRecDepth 100000
namespace Go.Proofs.YtjdnmblggdobgaaGreat
open Go.RowKit Go.Maps
def ng (l:List Int) (n:Int):Int:=idx (fun x=>decide (x=n)) l
theorem zwa (w:World) (M:Nat->Prop) (v:Value) (l:List Int) (I:SL 1 RI M w v l) (n:Int):
 Calls Tryz.prog 47 #[v,.int .i64 n] w fun r w'=>r=.returned (.int .i64 (ng l n))/\w'=w:=by
 have J:=ag I;obtain ⟨L,W,rfl,-,F,-⟩:=I;unfold maxLen at F;go_enter Tryz.func47,Tryz.ntmps47;go_wp2_with fail;go_loopw [5] (fun i wr=>∃k:Nat,k<=l.length/\i=.int .i64 k/\wr=w/\Hid (∀x∈l.take k,decide (x=n)=false)) (fun i _=>l.length - (intOf i).toNat)
 case atStart=>exact ⟨0,n0q _,rfl,rfl,fun x O=>by cases O⟩
 case round=>
  obtain ⟨k,Y,rfl,rfl,E⟩:=hrel;by_cases u:k<l.length
  ·obtain ⟨V,off,rfl,N,X⟩:=J.o.atI k u;by_cases D:l[k]=n
   ·have A:=ag (zch u E.o (decide_eq_true D));have G:(l[k]==n)=true:=by simpa using D
    go_wp2_with fail;go_ret;exact ⟨by unfold ng;rw [A.o];rfl,rfl⟩
   have A:=ag (zck u E.o (decide_eq_false D));have G:(l[k]==n)=false:=by simpa using D
   go_wp2_with fail;go_roundw
   case rel=>exact ⟨k+1,by omega,by go_num,by trivial,A.o⟩
   case measure=>simp [intOf];omega
  have A:Hid (ng l n= -1):=zci (by have:=E.o;rwa [List.take_of_length_le (by omega)]at this);go_wp2_with fail;go_ret;exact ⟨by rw [A.o];rfl,rfl⟩
theorem zwb {α:Type} (p:α->Bool):∀(l:List α),idx p l= -1\/∃k:Nat,k<l.length/\idx p l=k:=by
 intro l;by_cases h:∃k,∃D:k<l.length,p l[k]=true/\∀x∈l.take k,p x=false
 ·obtain ⟨k,D,h1,E⟩:=h;exact Or.inr ⟨k,D,zch D E h1⟩
 refine Or.inl (zci ?_);intro x u;cases hp:p x with
 | false=>rfl
 | true=>
   exfalso;have A:∀n:Nat,n<=l.length->∀x∈l.take n,p x=false:=by
    intro n;induction n with
    | zero=>intro _ x u;cases u
    | succ n ih=>
      intro F x u;rw [List.take_succ_eq_append_getElem (by omega)]at u;rcases List.mem_append.1 u with u | u
      ·exact ih (by omega) x u
      rw [List.mem_singleton]at u;cases hq:p x with
      | false=>rfl
      | true=>exact absurd ⟨n,by omega,by rw [<-u];exact hq,ih (by omega)⟩ h
   have:=A l.length (nlq _) x (by rw [List.take_length];exact u);rw [hp]at this;cases this
def gp (order news:List Int) (v:Int):Int:=if v=0\/ng order v<0 then v else wd news (ng order v)
theorem zwc (w:World) (M:Nat->Prop) (I J:Nat) (O X:Value) (order news:List Int) (h1:w.cell? ⟨I,0,none⟩=some O) (h2:w.cell? ⟨J,0,none⟩=some X) (l1:I<w.heap.size) (l2:J<w.heap.size) (W:SL 1 RI M w O order) (V:SL 1 RI M w X news) (hl:news.length=order.length) (v:Int):
 Calls Tryz.prog 143 #[.int .i64 v,.pointer (some ⟨I,0,none⟩),.pointer (some ⟨J,0,none⟩)] w fun r w'=>r=.returned (.int .i64 (gp order news v))/\w'=w:=by
 have u:=ag (zwa w M O order W v);obtain ⟨ao,co,rfl,-⟩:=W;have G:=ag V;obtain ⟨Z,cn,rfl,-,L,-⟩:=V;unfold maxLen at L;rcases zwb (fun x=>decide (x=v)) order with hi | ⟨k,hk,hi⟩
 ·have A:ng order v= -1:=hi;have E:Hid (gp order news v=v):=by show _=_;unfold gp;rw [A,if_pos (Or.inr (by omega))]
  rw [A]at u;clear hi A;by_cases D:v=0
  ·subst D;go_enter Tryz.func143,Tryz.ntmps143;go_wp2_with fail;refine u.o.mono ?_;rintro r w ⟨rfl,rfl⟩;go_wp2_with fail;go_ret;exact ⟨by rw [E.o];rfl,rfl⟩
  have N:(v==0)=false:=by simpa using D
  go_enter Tryz.func143,Tryz.ntmps143;go_wp2_with fail;refine u.o.mono ?_;rintro r w ⟨rfl,rfl⟩;go_wp2_with fail;go_ret;exact ⟨by rw [E.o];rfl,rfl⟩
 have A:ng order v=(k:Int):=hi;by_cases D:v=0
 ·have E:Hid (gp order news v=v):=by show _=_;unfold gp;rw [if_pos (Or.inl D)]
  subst D;rw [A]at u;clear hi A;go_enter Tryz.func143,Tryz.ntmps143;go_wp2_with fail;refine u.o.mono ?_;rintro r w ⟨rfl,rfl⟩;go_wp2_with fail;go_ret;exact ⟨by rw [E.o];rfl,rfl⟩
 have N:(v==0)=false:=by simpa using D
 have F:k<news.length:=by omega
 have E:Hid (gp order news v=news[k]):=by show _=_;unfold gp;rw [A,if_neg (by rintro (q | q);exact D q;omega),zen F]
 rw [A]at u;clear hi A;go_enter Tryz.func143,Tryz.ntmps143;go_wp2_with fail;refine u.o.mono ?_;rintro r w ⟨rfl,rfl⟩;obtain ⟨bN,oN,rfl,Y,e0⟩:=G.o.atI k F;go_wp2_with fail;go_ret;exact ⟨by rw [E.o];rfl,rfl⟩
theorem callTurn (args:Array Value) (w:World):(callFunc 143 args).run Tryz.prog w=.ok (.enter 143 args) w:=by kernel_rfl
def putW (d:be) (fy order news:List Int) (loc i:Nat):Int:=if decide (3<=i)&&jl d.fields (bq fy loc) (i - 3) then gp order news (wd fy (loc+i:Nat)) else wd fy (loc+i:Nat)
def np (d:be) (fy order news:List Int) (loc new:Nat):Nat->List Int->List Int
 | 0,ws=>ws
 | n+1,ws=>(np d fy order news loc new n ws).set (new+n) (putW d fy order news loc n)
theorem zwd (d:be) (fy order news:List Int) (u new:Nat):∀(n:Nat) (ws:List Int),(np d fy order news u new n ws).length=ws.length
 | 0,_=>rfl
 | n+1,ws=>by unfold np;rw [List.length_set,zwd]
structure Rb (b B:Nat) (w:World) (H K T P1 P2 O:Nat) (vW vO vo vn oW kC kS kF kN kT:Value) (h:bd) (d:be) (cs:List Value) (order news ws:List Int):Prop where
 hH:w.heap[H]? =some (.cells #[vW,.int .i64 h.ae,.int .i64 h.old,.int .i64 h.bg,.int .i64 h.bj,vO,.int .i64 h.next] 24 (0,0))
 hK:w.heap[K]? =some (.cells #[kC,kS,kF,kN,kT] 36 (0,0))
 hT:w.heap[T]? =some (.cells #[.func (.func 143) #[] #[.pointer (some ⟨P1,0,none⟩),.pointer (some ⟨P2,0,none⟩)]] 109 (0,0))
 h1:w.heap[P1]? =some (.cells #[vo] 22 (0,0))
 h2:w.heap[P2]? =some (.cells #[vn] 22 (0,0))
 hO:w.heap[O]? =some (.cells (oW::cs).toArray 24 (0,0))
 sW:SL 1 RI (· <B) w vW h.ab
 lk:lf (· <B) w kC kS kF kN kT d
 so:SL 1 RI (· <B) w vo order
 rN:w.ownsRow b 3 1 vn news.length (b8 news)
 rO:w.ownsRow b 3 1 oW ws.length (b8 ws)
 le:B<=b
 bw:b<=w.heap.size
 neN:∀j,oW.ownBlock=some j->vn.ownBlock≠some j
 ne:∀j,oW.ownBlock=some j->j≠H/\j≠K/\j≠T/\j≠P1/\j≠P2/\j≠O
theorem Rb.below {b B H K T D E O:Nat} {w w':World} {X W Z Y V G L I J N:Value} {h:bd} {d:be} {F:List Value} {order news ws:List Int} (o:Rb b B w H K T D E O X W Z Y V G L I J N h d F order news ws) (u:Below w.heap.size w w'):Rb b B w' H K T D E O X W Z Y V G L I J N h d F order news ws:=
 have A:Kp (· <B) w w':=⟨u.size,fun j _ hl=>u.block j hl⟩
 ⟨(u.block _ (bv o.hH)).trans o.hH,(u.block _ (bv o.hK)).trans o.hK,(u.block _ (bv o.hT)).trans o.hT,(u.block _ (bv o.h1)).trans o.h1,(u.block _ (bv o.h2)).trans o.h2,(u.block _ (bv o.hO)).trans o.hO,o.sW.keptI A,o.lk.kept A,o.so.keptI A,jj o.rN u,jj o.rO u,o.le,lt3 o.bw u.size,o.neN,o.ne⟩
theorem Rb.ab {b B H K T L N O:Nat} {w w':World} {vW vO vo vn G W Z X Y kT:Value} {h:bd} {d:be} {V:List Value} {order news ws A:List Int} (o:Rb b B w H K T L N O vW vO vo vn G W Z X Y kT h d V order news ws) {k:Nat} (I:G.ownBlock=some k) (u:w.grownBy w' (some k)) (hr:w'.ownsRow b 3 1 G A.length (b8 A)):Rb b B w' H K T L N O vW vO vo vn G W Z X Y kT h d V order news A:=
 have aa:=(o.rO.lt k I).1;have J:Kp (· <B) w w':=⟨u.size,fun j F hl=>u.block j hl (fun e=>by have:=ojq e;have:=o.le;have F:j<B:=F;omega)⟩;have D:=o.ne k I;have E:∀j,k≠j->some j≠some k:=fun j F e=>F (ojq e).symm
 ⟨(u.block _ (bv o.hH) (E _ D.1)).trans o.hH,(u.block _ (bv o.hK) (E _ D.2.1)).trans o.hK,(u.block _ (bv o.hT) (E _ D.2.2.1)).trans o.hT,(u.block _ (bv o.h1) (E _ D.2.2.2.1)).trans o.h1,(u.block _ (bv o.h2) (E _ D.2.2.2.2.1)).trans o.h2,(u.block _ (bv o.hO) (E _ D.2.2.2.2.2)).trans o.hO,o.sW.keptI J,o.lk.kept J,o.so.keptI J,o.rN.kept u (Or.inr fun e=>o.neN k I e),hr,o.le,lt3 o.bw u.size,o.neN,o.ne⟩
theorem zwe (w:World) (b B H K T P1 P2 O:Nat) (vW vO vo vn oW kC kS kF kN kT:Value) (h:bd) (d:be) (cs:List Value) (order news ws:List Int) (o:Rb b B w H K T P1 P2 O vW vO vo vn oW kC kS kF kN kT h d cs order news ws) (ao:news.length=order.length) (ap:news.length<=1000000) (bg:h.ab.length<=100000) (bf:ws.length<=100000) (u new:Nat) (hf:mw d (bq h.ab u)) (hl:(u:Int)+3+(bq h.ab u).len<=h.ab.length) (hn:(new:Int)+3+(bq h.ab u).len<=ws.length):
 Calls Tryz.prog 144 #[.int .i64 (u:Int),.int .i64 (new:Int),.pointer (some ⟨H,0,none⟩),.pointer (some ⟨K,0,none⟩),.pointer (some ⟨T,0,none⟩),.pointer (some ⟨O,0,none⟩)] w fun r w'=>r=.returned (.tuple #[])/\Rb b B w' H K T P1 P2 O vW vO vo vn oW kC kS kF kN kT h d cs order news (np d h.ab order news u new (3+(bq h.ab u).len).toNat ws)/\lh w.heap.size O O O oW (.slice none 0 0) w (.slice none 0 0) w':=by
 have a9:=callTurn;have HO:=ag o;have ax:=ag hf;have a6:=hf.lo;obtain ⟨aC,cC,aS,cS,aF,cF,aN,cN,aT,cT,rfl,rfl,rfl,rfl,rfl⟩:=o.lk.agg;obtain ⟨aW,cW,rfl,-,hm,-⟩:=o.sW;unfold maxLen at hm;obtain ⟨X,oO,rfl,a1,-⟩:=HO.o.sW.atI u (by omega);obtain ⟨D,J,a4,a2⟩:∃D J,oW=.slice (some ⟨D,0,none⟩) ws.length J/\ws.length<=J:=by
  rcases o.rO.2 with ⟨e,h0⟩ | ⟨g,cap,a7,e,-,-,hc,-⟩
  ·omega
  exact ⟨g,cap,e,hc⟩
 subst a4;have af:Hid (h.ab[u]'(by omega)=(bq h.ab u).tag/\h.ab[u+1]'(by omega)=(bq h.ab u).len):=⟨(zen (by omega)).symm,by show _=wd h.ab ((u:Int)+1);rw [show (u:Int)+1=((u+1:Nat):Int) by omega];exact (zen (by omega)).symm⟩;have q0:(0:Int)<=u:=by omega
 have q1:(u:Int)<h.ab.length:=by omega
 have q2:(0:Int)<=(u:Int)+1:=by omega
 have q3:(u:Int)+1<h.ab.length:=by omega
 have q6:((u:Int)+1).toNat=u+1:=by omega
 have w1:IntKind.i64.wrap ((u:Int)+1)=(u:Int)+1:=fy _ (by omega) (by omega);have w2:IntKind.i64.wrap (3+(bq h.ab u).len)=3+(bq h.ab u).len:=fy _ (by omega) (by omega);have ae:Hid (∀V N,Rb b B V H K T P1 P2 O (.slice (some ⟨X,oO,none⟩) h.ab.length cW) vO vo vn (.slice (some ⟨D,0,none⟩) ws.length J) (.slice aC d.aj.length cC) (.slice aS d.ar.length cS) (.slice aF d.fields.length cF) (.slice aN d.names.length cN) (.slice aT d.aq.length cT) h d cs order news N->V.cell? ⟨H,0,none⟩=some (.slice (some ⟨X,oO,none⟩) h.ab.length cW)/\V.cell? ⟨X,oO+u,none⟩=some (.int .i64 (bq h.ab u).tag)/\V.cell? ⟨X,oO+(u+1),none⟩=some (.int .i64 (bq h.ab u).len)/\(∀n,u+n<h.ab.length->V.cell? ⟨X,oO+(u+n),none⟩=some (.int .i64 (wd h.ab (u+n:Nat))))/\H<V.heap.size/\X<V.heap.size):=fun V N G=>by obtain ⟨b1,o1,e1,a0,c1⟩:=G.sW.atI u (by omega);obtain ⟨b2,o2,e2,a8,c2⟩:=G.sW.atI (u+1) (by omega);cases e1;cases e2;rw [af.o.1]at c1;rw [af.o.2]at c2;refine ⟨ba G.hH 0 rfl,c1,c2,fun n hn=>?_,bv G.hH,a0⟩;obtain ⟨b3,o3,e3,-,c3⟩:=G.sW.atI (u+n) hn;cases e3;rw [zen hn];exact c3
 have az:Hid (∀V N (n:Nat),Rb b B V H K T P1 P2 O (.slice (some ⟨X,oO,none⟩) h.ab.length cW) vO vo vn (.slice (some ⟨D,0,none⟩) ws.length J) (.slice aC d.aj.length cC) (.slice aS d.ar.length cS) (.slice aF d.fields.length cF) (.slice aN d.names.length cN) (.slice aT d.aq.length cT) h d cs order news N->(n:Int)<(bq h.ab u).len->Calls Tryz.prog 31 #[.agg #[.slice aC d.aj.length cC,.slice aS d.ar.length cS,.slice aF d.fields.length cF,.slice aN d.names.length cN,.slice aT d.aq.length cT],.int .i64 (bq h.ab u).tag,.int .i64 (n:Int)] V fun r w'=>r=.returned (.bool (jl d.fields (bq h.ab u) n))/\Below V.heap.size V w'):=fun V N n G hn=>zky V B _ _ _ _ _ d G.lk (bq h.ab u) ax.o n hn;have ay:Hid (∀V N,Rb b B V H K T P1 P2 O (.slice (some ⟨X,oO,none⟩) h.ab.length cW) vO vo vn (.slice (some ⟨D,0,none⟩) ws.length J) (.slice aC d.aj.length cC) (.slice aS d.ar.length cS) (.slice aF d.fields.length cF) (.slice aN d.names.length cN) (.slice aT d.aq.length cT) h d cs order news (N)->∀v,Calls Tryz.prog 143 #[.int .i64 v,.pointer (some ⟨P1,0,none⟩),.pointer (some ⟨P2,0,none⟩)] V fun r w'=>r=.returned (.int .i64 (gp order news v))/\w'=V):=fun V N G v=>zwc V (· <V.heap.size) P1 P2 vo vn order news (ba G.h1 0 rfl) (ba G.h2 0 rfl) (bv G.h1) (bv G.h2) (G.so.monoI fun k hk=>by have:=G.le;have:=G.bw;have hk:k<B:=hk;show k<_;omega) ((zfb G.rN ap).monoI fun k hk=>hk.lt) ao v;have ac:Hid (∀n,np d h.ab order news u new (n+1) ws=(np d h.ab order news u new n ws).set (new+n) (putW d h.ab order news u n)):=fun n=>rfl;have E:Hid (∀n,(np d h.ab order news u new n ws).length=ws.length):=fun n=>zwd _ _ _ _ _ _ n ws;clear o hf af hm ao ap a2 a1;go_enter Tryz.func144,Tryz.ntmps144;go_wp2_with fail;go_loopw [8] (fun i wr=>∃n:Nat,i=.int .i64 n/\(n:Int)<=3+(bq h.ab u).len/\Hid (Rb b B wr H K T P1 P2 O (.slice (some ⟨X,oO,none⟩) h.ab.length cW) vO vo vn (.slice (some ⟨D,0,none⟩) ws.length J) (.slice aC d.aj.length cC) (.slice aS d.ar.length cS) (.slice aF d.fields.length cF) (.slice aN d.names.length cN) (.slice aT d.aq.length cT) h d cs order news (np d h.ab order news u new n ws)/\lh w.heap.size O O O (.slice (some ⟨D,0,none⟩) ws.length J) (.slice none 0 0) w (.slice none 0 0) wr)) (fun i _=>(3+(bq h.ab u).len - intOf i).toNat)
 case atStart=>exact ⟨0,rfl,by omega,HO.o,lh.ofBelow (br _ _)⟩
 case round=>
  obtain ⟨n,rfl,bc,W⟩:=hrel;obtain ⟨k0,k1,k2,k3,k4,k5⟩:=ae.o wr _ W.o.1;by_cases bb:(n:Int)<3+(bq h.ab u).len
  ·obtain ⟨vv,Y⟩:∃vv,wd h.ab ((u+n:Nat):Int)=vv:=⟨_,rfl⟩;have x0:=k3 n (by omega);rw [Y]at x0;clear k3;have p0:(0:Int)<=(u:Int)+n:=by omega
   have p1:(u:Int)+n<h.ab.length:=by omega
   have p2:((u:Int)+n).toNat=u+n:=by omega
   have p3:IntKind.i64.wrap ((u:Int)+n)=(u:Int)+n:=fy _ (by omega) (by omega);have p4:(0:Int)<=(new:Int)+n:=by omega
   have p5:(new:Int)+n<ws.length:=by omega
   have p6:((new:Int)+n).toNat=new+n:=by omega
   have p7:IntKind.i64.wrap ((new:Int)+n)=(new:Int)+n:=fy _ (by omega) (by omega);by_cases h3:3<=n
   ·obtain ⟨m,a3⟩:∃m,n=m+3:=⟨n - 3,by omega⟩;have ak:Hid (n - 3=m):=by show _=_;omega
    have al:(m:Int)<(bq h.ab u).len:=by omega
    have g1:((3:Int)<=(n:Int))=True:=by simp;omega
    have p8:IntKind.i64.wrap ((n:Int) - 3)=(m:Int):=by rw [show (n:Int) - 3=m by omega];exact fy _ (by omega) (by omega)
    have an:Nonempty (Gr wr.heap.size wr):=⟨⟨wr,br _ _⟩⟩;have HG:∀g:Gr wr.heap.size wr,Rb b B g.w H K T P1 P2 O (.slice (some ⟨X,oO,none⟩) h.ab.length cW) vO vo vn (.slice (some ⟨D,0,none⟩) ws.length J) (.slice aC d.aj.length cC) (.slice aS d.ar.length cS) (.slice aF d.fields.length cF) (.slice aN d.names.length cN) (.slice aT d.aq.length cT) h d cs order news (np d h.ab order news u new n ws):=fun g=>W.o.1.below g.ok;have c0:∀g:Gr wr.heap.size wr,g.w.cell? ⟨H,0,none⟩=some (.slice (some ⟨X,oO,none⟩) h.ab.length cW):=fun g=>(ae.o g.w _ (HG g)).1;have c1:∀g:Gr wr.heap.size wr,g.w.cell? ⟨X,oO+u,none⟩=some (.int .i64 (bq h.ab u).tag):=fun g=>(ae.o g.w _ (HG g)).2.1;have y0:∀g:Gr wr.heap.size wr,g.w.cell? ⟨K,0,none⟩=some (.slice aC d.aj.length cC):=fun g=>ba (HG g).hK 0 rfl;have y1:∀g:Gr wr.heap.size wr,g.w.cell? ⟨K,1,none⟩=some (.slice aS d.ar.length cS):=fun g=>ba (HG g).hK 1 rfl;have y2:∀g:Gr wr.heap.size wr,g.w.cell? ⟨K,2,none⟩=some (.slice aF d.fields.length cF):=fun g=>ba (HG g).hK 2 rfl;have y3:∀g:Gr wr.heap.size wr,g.w.cell? ⟨K,3,none⟩=some (.slice aN d.names.length cN):=fun g=>ba (HG g).hK 3 rfl;have y4:∀g:Gr wr.heap.size wr,g.w.cell? ⟨K,4,none⟩=some (.slice aT d.aq.length cT):=fun g=>ba (HG g).hK 4 rfl;have lb:∀g:Gr wr.heap.size wr,H<g.w.heap.size:=fun g=>bv (HG g).hH;have au:∀g:Gr wr.heap.size wr,K<g.w.heap.size:=fun g=>bv (HG g).hK;have av:∀g:Gr wr.heap.size wr,X<g.w.heap.size:=fun g=>(ae.o g.w _ (HG g)).2.2.2.2.2;have aa:Hid (∀g:Gr wr.heap.size wr,Calls Tryz.prog 31 #[.agg #[.slice aC d.aj.length cC,.slice aS d.ar.length cS,.slice aF d.fields.length cF,.slice aN d.names.length cN,.slice aT d.aq.length cT],.int .i64 (bq h.ab u).tag,.int .i64 (m:Int)] g.w fun e a5=>e=.returned (.bool (jl d.fields (bq h.ab u) m))/\∃g':Gr wr.heap.size wr,a5=g'.w):=fun g=>Gr.calls g (nlq _) (az.o g.w _ m (HG g) al);clear HG a3 al;cases G:jl d.fields (bq h.ab u) m with
    | false=>
      have HV:Hid (putW d h.ab order news u n=vv):=by show _=_;unfold putW;rw [ak.o,G,Y,Bool.and_false];rfl
      rw [G]at aa;clear Y;go_wp2_with fail;refine zev wr.heap.size wr (by kernel_rfl) (by kernel_rfl) (br _ _) ?_
      repeat (go_big_quiet_step (first | (go_at_call 31;exact aa.o _)))
      refine wpQuiet_nil ?_;intro _ ai;obtain ⟨g,rfl⟩:=ai;have I:=W.o.1.below g.ok;have M4:=W.o.2.trans ((lh.ofBelow g.ok).mono W.o.2.size);generalize g.w=w4 at*;clear c0 c1 y0 y1 y2 y3 y4 lb au av an aa W;have A:=I.rO;rw [E.o]at A;have L:new+(n)<(np d h.ab order news u new (n) ws).length:=by rw [E.o];omega
      have y0:=ba I.hO 0 (x:=.slice (some ⟨D,0,none⟩) ws.length J) rfl;have y1:=bv I.hO;obtain ⟨xo,x4⟩:∃xo,w4.cell? ⟨D,new+(n),none⟩=some xo:=⟨_,(A.cellAt (new+(n)) (by rw [Nat.mul_one];omega)).trans (zmp L)⟩;have x5:=A.frozenAt (new+(n));have x6:=(A.lt D rfl).2;obtain ⟨Z,F⟩:∃Z,Z=w4.setCell ⟨D,new+(n),none⟩ (.int .i64 (vv)):=⟨_,rfl⟩;obtain ⟨r1,hg⟩:=A.stored (new+(n)) (.int .i64 (vv));rw [<-F]at r1 hg;have HF:Hid (Rb b B Z H K T P1 P2 O (.slice (some ⟨X,oO,none⟩) h.ab.length cW) vO vo vn (.slice (some ⟨D,0,none⟩) ws.length J) (.slice aC d.aj.length cC) (.slice aS d.ar.length cS) (.slice aF d.fields.length cF) (.slice aN d.names.length cN) (.slice aT d.aq.length cT) h d cs order news (np d h.ab order news u new (n+1) ws)/\lh w.heap.size O O O (.slice (some ⟨D,0,none⟩) ws.length J) (.slice none 0 0) w (.slice none 0 0) Z):=⟨I.ab (k:=D) rfl hg (by rw [ac.o,HV.o,List.length_set,E.o,b8,List.map_set];exact r1),M4.trans (lh.ofGrown hg (Or.inr (Or.inr (Or.inr (Or.inl rfl)))))⟩;have ad:=ag F;clear r1 hg A L F I M4 ac E HV;go_wp2_with fail;rw [<-ad.o];go_roundw
      case rel=>exact ⟨(n)+1,by simp,by omega,HF.o⟩
      case measure=>simp [intOf];omega
    | true=>
      have HV:Hid (putW d h.ab order news u n=gp order news vv):=by show _=_;unfold putW;rw [ak.o,G,Y,decide_eq_true h3];rfl
      rw [G]at aa;clear Y;go_wp2_with fail;refine zev wr.heap.size wr (by kernel_rfl) (by kernel_rfl) (br _ _) ?_
      repeat (go_big_quiet_step (first | (go_at_call 31;exact aa.o _)))
      refine wpQuiet_nil ?_;intro _ ai;obtain ⟨g,rfl⟩:=ai;have I:=W.o.1.below g.ok;have M4:=W.o.2.trans ((lh.ofBelow g.ok).mono W.o.2.size);generalize g.w=w4 at*;clear c0 c1 y0 y1 y2 y3 y4 lb au av an aa W;have z0:=ba I.hT 0 (x:=.func (.func 143) #[] #[.pointer (some ⟨P1,0,none⟩),.pointer (some ⟨P2,0,none⟩)]) rfl;have z1:=bv I.hT;have aw:=ag (ay.o w4 _ I vv);go_wp2_with fail;refine aw.o.mono ?_;rintro r w4 ⟨rfl,rfl⟩;have A:=I.rO;rw [E.o]at A;have L:new+(n)<(np d h.ab order news u new (n) ws).length:=by rw [E.o];omega
      have y0:=ba I.hO 0 (x:=.slice (some ⟨D,0,none⟩) ws.length J) rfl;have y1:=bv I.hO;obtain ⟨xo,x4⟩:∃xo,w4.cell? ⟨D,new+(n),none⟩=some xo:=⟨_,(A.cellAt (new+(n)) (by rw [Nat.mul_one];omega)).trans (zmp L)⟩;have x5:=A.frozenAt (new+(n));have x6:=(A.lt D rfl).2;obtain ⟨Z,F⟩:∃Z,Z=w4.setCell ⟨D,new+(n),none⟩ (.int .i64 (gp order news vv)):=⟨_,rfl⟩;obtain ⟨r1,hg⟩:=A.stored (new+(n)) (.int .i64 (gp order news vv));rw [<-F]at r1 hg;have HF:Hid (Rb b B Z H K T P1 P2 O (.slice (some ⟨X,oO,none⟩) h.ab.length cW) vO vo vn (.slice (some ⟨D,0,none⟩) ws.length J) (.slice aC d.aj.length cC) (.slice aS d.ar.length cS) (.slice aF d.fields.length cF) (.slice aN d.names.length cN) (.slice aT d.aq.length cT) h d cs order news (np d h.ab order news u new (n+1) ws)/\lh w.heap.size O O O (.slice (some ⟨D,0,none⟩) ws.length J) (.slice none 0 0) w (.slice none 0 0) Z):=⟨I.ab (k:=D) rfl hg (by rw [ac.o,HV.o,List.length_set,E.o,b8,List.map_set];exact r1),M4.trans (lh.ofGrown hg (Or.inr (Or.inr (Or.inr (Or.inl rfl)))))⟩;have ad:=ag F;clear r1 hg A L F I M4 ac E HV;go_wp2_with fail;rw [<-ad.o];go_roundw
      case rel=>exact ⟨(n)+1,by simp,by omega,HF.o⟩
      case measure=>simp [intOf];omega
   have g1:((3:Int)<=(n:Int))=False:=by simp;omega
   have HV:Hid (putW d h.ab order news u n=vv):=by show _=_;unfold putW;rw [decide_eq_false h3,Y];rfl
   clear Y;go_wp2_with fail;go_quiet (fail);have ah:Below wr.heap.size wr (wr.drewN nq):=⟨rfl,rfl,rfl,nlq _,fun _ _=>rfl⟩;have I:=W.o.1.below ah;have M4:=W.o.2.trans ((lh.ofBelow ah).mono W.o.2.size);generalize wr.drewN nq=w4 at*;clear ah W;have A:=I.rO;rw [E.o]at A;have L:new+(n)<(np d h.ab order news u new (n) ws).length:=by rw [E.o];omega
   have y0:=ba I.hO 0 (x:=.slice (some ⟨D,0,none⟩) ws.length J) rfl;have y1:=bv I.hO;obtain ⟨xo,x4⟩:∃xo,w4.cell? ⟨D,new+(n),none⟩=some xo:=⟨_,(A.cellAt (new+(n)) (by rw [Nat.mul_one];omega)).trans (zmp L)⟩;have x5:=A.frozenAt (new+(n));have x6:=(A.lt D rfl).2;obtain ⟨Z,F⟩:∃Z,Z=w4.setCell ⟨D,new+(n),none⟩ (.int .i64 (vv)):=⟨_,rfl⟩;obtain ⟨r1,hg⟩:=A.stored (new+(n)) (.int .i64 (vv));rw [<-F]at r1 hg;have HF:Hid (Rb b B Z H K T P1 P2 O (.slice (some ⟨X,oO,none⟩) h.ab.length cW) vO vo vn (.slice (some ⟨D,0,none⟩) ws.length J) (.slice aC d.aj.length cC) (.slice aS d.ar.length cS) (.slice aF d.fields.length cF) (.slice aN d.names.length cN) (.slice aT d.aq.length cT) h d cs order news (np d h.ab order news u new (n+1) ws)/\lh w.heap.size O O O (.slice (some ⟨D,0,none⟩) ws.length J) (.slice none 0 0) w (.slice none 0 0) Z):=⟨I.ab (k:=D) rfl hg (by rw [ac.o,HV.o,List.length_set,E.o,b8,List.map_set];exact r1),M4.trans (lh.ofGrown hg (Or.inr (Or.inr (Or.inr (Or.inl rfl)))))⟩;have ad:=ag F;clear r1 hg A L F I M4 ac E HV;go_wp2_with fail;rw [<-ad.o];go_roundw
   case rel=>exact ⟨(n)+1,by simp,by omega,HF.o⟩
   case measure=>simp [intOf];omega
  have hE:n=(3+(bq h.ab u).len).toNat:=by omega
  go_wp2_with fail;go_end0;exact ⟨rfl,hE ▸ W.o.1,W.o.2⟩
def toR (fy:List Int) (lo:Int) (order:List Int):Int:=order.foldl (fun lo a=>lo+(3+wd fy (a+1))) lo
def gj (fy:List Int):Int->List Int->List Int
 | _,[]=>[]
 | lo,a::l=>lo::gj fy (lo+(3+wd fy (a+1))) l
theorem zwf (fy:List Int) (lo:Int) (l:List Int) (a:Int):toR fy lo (l++ [a])=toR fy lo l+(3+wd fy (a+1)):=by unfold toR;rw [List.foldl_append];rfl
theorem zwg (fy:List Int):∀(l:List Int) (lo a:Int),gj fy lo (l++ [a])=gj fy lo l++ [toR fy lo l]
 | [],_,_=>rfl
 | b::l,lo,a=>by show lo::gj fy _ (l++ [a])=_;rw [zwg fy l];rfl
theorem zwh (fy:List Int):∀(l:List Int) (lo:Int),(gj fy lo l).length=l.length
 | [],_=>rfl
 | b::l,lo=>by show (gj fy _ l).length+1=_;rw [zwh fy l];rfl
def putT (d:be) (fy order news:List Int) (ws:List Int) (loc new:Int):List Int:=np d fy order news loc.toNat new.toNat (3+(bq fy loc).len).toNat ws
theorem zwi (d:be) (fy order news ws:List Int) (u new:Int):(putT d fy order news ws u new).length=ws.length:=zwd _ _ _ _ _ _ _ _
def kh (d:be) (fy order news:List Int) (ts:List bo) (ws:List Int):List Int:=ts.foldl (fun ws t=>putT d fy order news ws t.loc t.loc) ws
def j9 (d:be) (fy order news:List Int) (l:List (Int×Int)) (ws:List Int):List Int:=l.foldl (fun ws p=>putT d fy order news ws p.1 p.2) ws
theorem zwj (d:be) (fy order news:List Int) (ts:List bo) (t:bo) (ws:List Int):kh d fy order news (ts++ [t]) ws=putT d fy order news (kh d fy order news ts ws) t.loc t.loc:=by unfold kh;rw [List.foldl_append];rfl
theorem zwk (d:be) (fy order news:List Int) (l:List (Int×Int)) (p:Int×Int) (ws:List Int):j9 d fy order news (l++ [p]) ws=putT d fy order news (j9 d fy order news l ws) p.1 p.2:=by unfold j9;rw [List.foldl_append];rfl
theorem zwl (d:be) (fy order news:List Int):∀(ts:List bo) (ws:List Int),(kh d fy order news ts ws).length=ws.length
 | [],_=>rfl
 | t::ts,ws=>by show (kh d fy order news ts _).length=_;rw [zwl d fy order news ts,zwi]
theorem zwm (d:be) (fy order news:List Int):∀(l:List (Int×Int)) (ws:List Int),(j9 d fy order news l ws).length=ws.length
 | [],_=>rfl
 | p::l,ws=>by show (j9 d fy order news l _).length=_;rw [zwm d fy order news l,zwi]
def kg (d:be) (h:bd) (stay:List bo) (order:List Int) (lo:Int):bd:=
 { h with ab:=j9 d h.ab order (gj h.ab lo order) (order.zip (gj h.ab lo order)) (kh d h.ab order (gj h.ab lo order) stay (List.replicate h.ab.length 0)),bg:=1,bj:=toR h.ab lo order,ap:=[] }
def rebR (h:bd) (order:List Int) (lo:Int) (rs:List Int):List Int:=rs.map (gp order (gj h.ab lo order))
end Go.Proofs.YtjdnmblggdobgaaGreat
