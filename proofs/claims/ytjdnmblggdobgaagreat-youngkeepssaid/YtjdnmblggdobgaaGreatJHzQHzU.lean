import Derived.Test.YtjdnmblggdobgaaGreatJHzNHzP
import Derived.Test.YtjdnmblggdobgaaGreatJHyIHyJ
set_option maxHeartbeats 8000000
set_option maxRecDepth 100000
namespace Go.Proofs.YtjdnmblggdobgaaGreat
open Go.RowKit Go.Maps
theorem zwe (w:World) (b B H K T P1 P2 O:Nat) (vW vO vo vn oW kC kS kF kN kT:Value) (h:bb) (d:bd) (cs:List Value) (order news ws:List Int) (o:Rb b B w H K T P1 P2 O vW vO vo vn oW kC kS kF kN kT h d cs order news ws) (ao:news.length=order.length) (au:news.length<=1000000) (bl:h.ab.length<=100000) (bi:ws.length<=100000) (A new:Nat) (hf:lg d (bj h.ab A)) (hl:(A:Int)+3+(bj h.ab A).len<=h.ab.length) (hn:(new:Int)+3+(bj h.ab A).len<=ws.length):
 Calls Tryz.prog 144 #[.int .i64 (A:Int),.int .i64 (new:Int),.pointer (some ⟨H,0,none⟩),.pointer (some ⟨K,0,none⟩),.pointer (some ⟨T,0,none⟩),.pointer (some ⟨O,0,none⟩)] w fun r w'=>r=.returned (.tuple #[])/\Rb b B w' H K T P1 P2 O vW vO vo vn oW kC kS kF kN kT h d cs order news (na d h.ab order news A new (3+(bj h.ab A).len).toNat ws)/\jc w.heap.size O O O oW (.slice none 0 0) w (.slice none 0 0) w':=by
 have be:=callTurn;have HO:=ae o;have a0:=ae hf;have a9:=hf.lo;obtain ⟨aC,cC,aS,cS,aF,cF,aN,cN,aT,cT,rfl,rfl,rfl,rfl,rfl⟩:=o.lk.agg;obtain ⟨aW,cW,rfl,-,hm,-⟩:=o.sW;unfold maxLen at hm;obtain ⟨Y,oO,rfl,a4,-⟩:=HO.o.sW.atI A (by omega);obtain ⟨E,L,a7,a5⟩:∃E L,oW=.slice (some ⟨E,0,none⟩) ws.length L/\ws.length<=L:=by
  rcases o.rO.2 with ⟨e,h0⟩ | ⟨g,cap,ba,e,-,-,hc,-⟩
  ·omega
  exact ⟨g,cap,e,hc⟩
 subst a7;have ag:Hid (h.ab[A]'(by omega)=(bj h.ab A).tag/\h.ab[A+1]'(by omega)=(bj h.ab A).len):=⟨(mw (by omega)).symm,by show _=wd h.ab ((A:Int)+1);rw [show (A:Int)+1=((A+1:Nat):Int) by omega];exact (mw (by omega)).symm⟩;have q0:(0:Int)<=A:=by omega
 have q1:(A:Int)<h.ab.length:=by omega
 have q2:(0:Int)<=(A:Int)+1:=by omega
 have q3:(A:Int)+1<h.ab.length:=by omega
 have q6:((A:Int)+1).toNat=A+1:=by omega
 have w1:IntKind.i64.wrap ((A:Int)+1)=(A:Int)+1:=fy _ (by omega) (by omega);have w2:IntKind.i64.wrap (3+(bj h.ab A).len)=3+(bj h.ab A).len:=fy _ (by omega) (by omega);have af:Hid (∀V W,Rb b B V H K T P1 P2 O (.slice (some ⟨Y,oO,none⟩) h.ab.length cW) vO vo vn (.slice (some ⟨E,0,none⟩) ws.length L) (.slice aC d.aj.length cC) (.slice aS d.ax.length cS) (.slice aF d.fields.length cF) (.slice aN d.names.length cN) (.slice aT d.aq.length cT) h d cs order news W->V.cell? ⟨H,0,none⟩=some (.slice (some ⟨Y,oO,none⟩) h.ab.length cW)/\V.cell? ⟨Y,oO+A,none⟩=some (.int .i64 (bj h.ab A).tag)/\V.cell? ⟨Y,oO+(A+1),none⟩=some (.int .i64 (bj h.ab A).len)/\(∀n,A+n<h.ab.length->V.cell? ⟨Y,oO+(A+n),none⟩=some (.int .i64 (wd h.ab (A+n:Nat))))/\H<V.heap.size/\Y<V.heap.size):=fun V W I=>by obtain ⟨b1,o1,e1,a3,c1⟩:=I.sW.atI A (by omega);obtain ⟨b2,o2,e2,bc,c2⟩:=I.sW.atI (A+1) (by omega);cases e1;cases e2;rw [ag.o.1]at c1;rw [ag.o.2]at c2;refine ⟨aw I.hH 0 rfl,c1,c2,fun n hn=>?_,bk I.hH,a3⟩;obtain ⟨b3,o3,e3,-,c3⟩:=I.sW.atI (A+n) hn;cases e3;rw [mw hn];exact c3
 have a2:Hid (∀V W (n:Nat),Rb b B V H K T P1 P2 O (.slice (some ⟨Y,oO,none⟩) h.ab.length cW) vO vo vn (.slice (some ⟨E,0,none⟩) ws.length L) (.slice aC d.aj.length cC) (.slice aS d.ax.length cS) (.slice aF d.fields.length cF) (.slice aN d.names.length cN) (.slice aT d.aq.length cT) h d cs order news W->(n:Int)<(bj h.ab A).len->Calls Tryz.prog 31 #[.agg #[.slice aC d.aj.length cC,.slice aS d.ax.length cS,.slice aF d.fields.length cF,.slice aN d.names.length cN,.slice aT d.aq.length cT],.int .i64 (bj h.ab A).tag,.int .i64 (n:Int)] V fun r w'=>r=.returned (.bool (je d.fields (bj h.ab A) n))/\Below V.heap.size V w'):=fun V W n I hn=>zky V B _ _ _ _ _ d I.lk (bj h.ab A) a0.o n hn;have a1:Hid (∀V W,Rb b B V H K T P1 P2 O (.slice (some ⟨Y,oO,none⟩) h.ab.length cW) vO vo vn (.slice (some ⟨E,0,none⟩) ws.length L) (.slice aC d.aj.length cC) (.slice aS d.ax.length cS) (.slice aF d.fields.length cF) (.slice aN d.names.length cN) (.slice aT d.aq.length cT) h d cs order news (W)->∀v,Calls Tryz.prog 143 #[.int .i64 v,.pointer (some ⟨P1,0,none⟩),.pointer (some ⟨P2,0,none⟩)] V fun r w'=>r=.returned (.int .i64 (ia order news v))/\w'=V):=fun V W I v=>zwc V (· <V.heap.size) P1 P2 vo vn order news (aw I.h1 0 rfl) (aw I.h2 0 rfl) (bk I.h1) (bk I.h2) (I.so.monoI fun k hk=>by have:=I.le;have:=I.bw;have hk:k<B:=hk;show k<_;omega) ((zfb I.rN au).monoI fun k hk=>hk.lt) ao v;have ac:Hid (∀n,na d h.ab order news A new (n+1) ws=(na d h.ab order news A new n ws).set (new+n) (putW d h.ab order news A n)):=fun n=>rfl;have F:Hid (∀n,(na d h.ab order news A new n ws).length=ws.length):=fun n=>zwd _ _ _ _ _ _ n ws;clear o hf ag hm ao au a5 a4;go_enter Tryz.func144,Tryz.ntmps144;go_wp2_with fail;go_loopw [8] (fun i wr=>∃n:Nat,i=.int .i64 n/\(n:Int)<=3+(bj h.ab A).len/\Hid (Rb b B wr H K T P1 P2 O (.slice (some ⟨Y,oO,none⟩) h.ab.length cW) vO vo vn (.slice (some ⟨E,0,none⟩) ws.length L) (.slice aC d.aj.length cC) (.slice aS d.ax.length cS) (.slice aF d.fields.length cF) (.slice aN d.names.length cN) (.slice aT d.aq.length cT) h d cs order news (na d h.ab order news A new n ws)/\jc w.heap.size O O O (.slice (some ⟨E,0,none⟩) ws.length L) (.slice none 0 0) w (.slice none 0 0) wr)) (fun i _=>(3+(bj h.ab A).len - intOf i).toNat)
 case atStart=>exact ⟨0,rfl,by omega,HO.o,jc.ofBelow (br _ _)⟩
 case round=>
  obtain ⟨n,rfl,bh,X⟩:=hrel;obtain ⟨k0,k1,k2,k3,k4,k5⟩:=af.o wr _ X.o.1;by_cases bf:(n:Int)<3+(bj h.ab A).len
  ·obtain ⟨vv,Z⟩:∃vv,wd h.ab ((A+n:Nat):Int)=vv:=⟨_,rfl⟩;have x0:=k3 n (by omega);rw [Z]at x0;clear k3;have p0:(0:Int)<=(A:Int)+n:=by omega
   have p1:(A:Int)+n<h.ab.length:=by omega
   have p2:((A:Int)+n).toNat=A+n:=by omega
   have p3:IntKind.i64.wrap ((A:Int)+n)=(A:Int)+n:=fy _ (by omega) (by omega);have p4:(0:Int)<=(new:Int)+n:=by omega
   have p5:(new:Int)+n<ws.length:=by omega
   have p6:((new:Int)+n).toNat=new+n:=by omega
   have p7:IntKind.i64.wrap ((new:Int)+n)=(new:Int)+n:=fy _ (by omega) (by omega);by_cases h3:3<=n
   ·obtain ⟨m,a6⟩:∃m,n=m+3:=⟨n - 3,by omega⟩;have ak:Hid (n - 3=m):=by show _=_;omega
    have al:(m:Int)<(bj h.ab A).len:=by omega
    have g1:((3:Int)<=(n:Int))=True:=by simp;omega
    have p8:IntKind.i64.wrap ((n:Int) - 3)=(m:Int):=by rw [show (n:Int) - 3=m by omega];exact fy _ (by omega) (by omega)
    have an:Nonempty (Gr wr.heap.size wr):=⟨⟨wr,br _ _⟩⟩;have HG:∀g:Gr wr.heap.size wr,Rb b B g.w H K T P1 P2 O (.slice (some ⟨Y,oO,none⟩) h.ab.length cW) vO vo vn (.slice (some ⟨E,0,none⟩) ws.length L) (.slice aC d.aj.length cC) (.slice aS d.ax.length cS) (.slice aF d.fields.length cF) (.slice aN d.names.length cN) (.slice aT d.aq.length cT) h d cs order news (na d h.ab order news A new n ws):=fun g=>X.o.1.below g.ok;have c0:∀g:Gr wr.heap.size wr,g.w.cell? ⟨H,0,none⟩=some (.slice (some ⟨Y,oO,none⟩) h.ab.length cW):=fun g=>(af.o g.w _ (HG g)).1;have c1:∀g:Gr wr.heap.size wr,g.w.cell? ⟨Y,oO+A,none⟩=some (.int .i64 (bj h.ab A).tag):=fun g=>(af.o g.w _ (HG g)).2.1;have y0:∀g:Gr wr.heap.size wr,g.w.cell? ⟨K,0,none⟩=some (.slice aC d.aj.length cC):=fun g=>aw (HG g).hK 0 rfl;have y1:∀g:Gr wr.heap.size wr,g.w.cell? ⟨K,1,none⟩=some (.slice aS d.ax.length cS):=fun g=>aw (HG g).hK 1 rfl;have y2:∀g:Gr wr.heap.size wr,g.w.cell? ⟨K,2,none⟩=some (.slice aF d.fields.length cF):=fun g=>aw (HG g).hK 2 rfl;have y3:∀g:Gr wr.heap.size wr,g.w.cell? ⟨K,3,none⟩=some (.slice aN d.names.length cN):=fun g=>aw (HG g).hK 3 rfl;have y4:∀g:Gr wr.heap.size wr,g.w.cell? ⟨K,4,none⟩=some (.slice aT d.aq.length cT):=fun g=>aw (HG g).hK 4 rfl;have lb:∀g:Gr wr.heap.size wr,H<g.w.heap.size:=fun g=>bk (HG g).hH;have av:∀g:Gr wr.heap.size wr,K<g.w.heap.size:=fun g=>bk (HG g).hK;have ay:∀g:Gr wr.heap.size wr,Y<g.w.heap.size:=fun g=>(af.o g.w _ (HG g)).2.2.2.2.2;have aa:Hid (∀g:Gr wr.heap.size wr,Calls Tryz.prog 31 #[.agg #[.slice aC d.aj.length cC,.slice aS d.ax.length cS,.slice aF d.fields.length cF,.slice aN d.names.length cN,.slice aT d.aq.length cT],.int .i64 (bj h.ab A).tag,.int .i64 (m:Int)] g.w fun e a8=>e=.returned (.bool (je d.fields (bj h.ab A) m))/\∃g':Gr wr.heap.size wr,a8=g'.w):=fun g=>Gr.calls g (nlq _) (a2.o g.w _ m (HG g) al);clear HG a6 al;cases I:je d.fields (bj h.ab A) m with
    | false=>
      have HV:Hid (putW d h.ab order news A n=vv):=by show _=_;unfold putW;rw [ak.o,I,Z,Bool.and_false];rfl
      rw [I]at aa;clear Z;go_wp2_with fail;refine zev wr.heap.size wr (by kernel_rfl) (by kernel_rfl) (br _ _) ?_
      repeat (go_big_quiet_step (first | (go_at_call 31;exact aa.o _)))
      refine wpQuiet_nil ?_;intro _ ai;obtain ⟨g,rfl⟩:=ai;have J:=X.o.1.below g.ok;have M4:=X.o.2.trans ((jc.ofBelow g.ok).mono X.o.2.size);generalize g.w=w4 at*;clear c0 c1 y0 y1 y2 y3 y4 lb av ay an aa X;have D:=J.rO;rw [F.o]at D;have N:new+(n)<(na d h.ab order news A new (n) ws).length:=by rw [F.o];omega
      have y0:=aw J.hO 0 (x:=.slice (some ⟨E,0,none⟩) ws.length L) rfl;have y1:=bk J.hO;obtain ⟨xo,x4⟩:∃xo,w4.cell? ⟨E,new+(n),none⟩=some xo:=⟨_,(D.cellAt (new+(n)) (by rw [Nat.mul_one];omega)).trans (zmp N)⟩;have x5:=D.frozenAt (new+(n));have x6:=(D.lt E rfl).2;obtain ⟨W6,G⟩:∃W6,W6=w4.setCell ⟨E,new+(n),none⟩ (.int .i64 (vv)):=⟨_,rfl⟩;obtain ⟨r1,hg⟩:=D.stored (new+(n)) (.int .i64 (vv));rw [<-G]at r1 hg;have HF:Hid (Rb b B W6 H K T P1 P2 O (.slice (some ⟨Y,oO,none⟩) h.ab.length cW) vO vo vn (.slice (some ⟨E,0,none⟩) ws.length L) (.slice aC d.aj.length cC) (.slice aS d.ax.length cS) (.slice aF d.fields.length cF) (.slice aN d.names.length cN) (.slice aT d.aq.length cT) h d cs order news (na d h.ab order news A new (n+1) ws)/\jc w.heap.size O O O (.slice (some ⟨E,0,none⟩) ws.length L) (.slice none 0 0) w (.slice none 0 0) W6):=⟨J.ab (k:=E) rfl hg (by rw [ac.o,HV.o,List.length_set,F.o,b8,List.map_set];exact r1),M4.trans (jc.ofGrown hg (Or.inr (Or.inr (Or.inr (Or.inl rfl)))))⟩;have ad:=ae G;clear r1 hg D N G J M4 ac F HV;go_wp2_with fail;rw [<-ad.o];go_roundw
      case rel=>exact ⟨(n)+1,by simp,by omega,HF.o⟩
      case measure=>simp [intOf];omega
    | true=>
      have HV:Hid (putW d h.ab order news A n=ia order news vv):=by show _=_;unfold putW;rw [ak.o,I,Z,decide_eq_true h3];rfl
      rw [I]at aa;clear Z;go_wp2_with fail;refine zev wr.heap.size wr (by kernel_rfl) (by kernel_rfl) (br _ _) ?_
      repeat (go_big_quiet_step (first | (go_at_call 31;exact aa.o _)))
      refine wpQuiet_nil ?_;intro _ ai;obtain ⟨g,rfl⟩:=ai;have J:=X.o.1.below g.ok;have M4:=X.o.2.trans ((jc.ofBelow g.ok).mono X.o.2.size);generalize g.w=w4 at*;clear c0 c1 y0 y1 y2 y3 y4 lb av ay an aa X;have z0:=aw J.hT 0 (x:=.func (.func 143) #[] #[.pointer (some ⟨P1,0,none⟩),.pointer (some ⟨P2,0,none⟩)]) rfl;have z1:=bk J.hT;have az:=ae (a1.o w4 _ J vv);go_wp2_with fail;refine az.o.mono ?_;rintro r w4 ⟨rfl,rfl⟩;have D:=J.rO;rw [F.o]at D;have N:new+(n)<(na d h.ab order news A new (n) ws).length:=by rw [F.o];omega
      have y0:=aw J.hO 0 (x:=.slice (some ⟨E,0,none⟩) ws.length L) rfl;have y1:=bk J.hO;obtain ⟨xo,x4⟩:∃xo,w4.cell? ⟨E,new+(n),none⟩=some xo:=⟨_,(D.cellAt (new+(n)) (by rw [Nat.mul_one];omega)).trans (zmp N)⟩;have x5:=D.frozenAt (new+(n));have x6:=(D.lt E rfl).2;obtain ⟨W6,G⟩:∃W6,W6=w4.setCell ⟨E,new+(n),none⟩ (.int .i64 (ia order news vv)):=⟨_,rfl⟩;obtain ⟨r1,hg⟩:=D.stored (new+(n)) (.int .i64 (ia order news vv));rw [<-G]at r1 hg;have HF:Hid (Rb b B W6 H K T P1 P2 O (.slice (some ⟨Y,oO,none⟩) h.ab.length cW) vO vo vn (.slice (some ⟨E,0,none⟩) ws.length L) (.slice aC d.aj.length cC) (.slice aS d.ax.length cS) (.slice aF d.fields.length cF) (.slice aN d.names.length cN) (.slice aT d.aq.length cT) h d cs order news (na d h.ab order news A new (n+1) ws)/\jc w.heap.size O O O (.slice (some ⟨E,0,none⟩) ws.length L) (.slice none 0 0) w (.slice none 0 0) W6):=⟨J.ab (k:=E) rfl hg (by rw [ac.o,HV.o,List.length_set,F.o,b8,List.map_set];exact r1),M4.trans (jc.ofGrown hg (Or.inr (Or.inr (Or.inr (Or.inl rfl)))))⟩;have ad:=ae G;clear r1 hg D N G J M4 ac F HV;go_wp2_with fail;rw [<-ad.o];go_roundw
      case rel=>exact ⟨(n)+1,by simp,by omega,HF.o⟩
      case measure=>simp [intOf];omega
   have g1:((3:Int)<=(n:Int))=False:=by simp;omega
   have HV:Hid (putW d h.ab order news A n=vv):=by show _=_;unfold putW;rw [decide_eq_false h3,Z];rfl
   clear Z;go_wp2_with fail;go_quiet (fail);have ah:Below wr.heap.size wr (wr.drewN nq):=⟨rfl,rfl,rfl,nlq _,fun _ _=>rfl⟩;have J:=X.o.1.below ah;have M4:=X.o.2.trans ((jc.ofBelow ah).mono X.o.2.size);generalize wr.drewN nq=w4 at*;clear ah X;have D:=J.rO;rw [F.o]at D;have N:new+(n)<(na d h.ab order news A new (n) ws).length:=by rw [F.o];omega
   have y0:=aw J.hO 0 (x:=.slice (some ⟨E,0,none⟩) ws.length L) rfl;have y1:=bk J.hO;obtain ⟨xo,x4⟩:∃xo,w4.cell? ⟨E,new+(n),none⟩=some xo:=⟨_,(D.cellAt (new+(n)) (by rw [Nat.mul_one];omega)).trans (zmp N)⟩;have x5:=D.frozenAt (new+(n));have x6:=(D.lt E rfl).2;obtain ⟨W6,G⟩:∃W6,W6=w4.setCell ⟨E,new+(n),none⟩ (.int .i64 (vv)):=⟨_,rfl⟩;obtain ⟨r1,hg⟩:=D.stored (new+(n)) (.int .i64 (vv));rw [<-G]at r1 hg;have HF:Hid (Rb b B W6 H K T P1 P2 O (.slice (some ⟨Y,oO,none⟩) h.ab.length cW) vO vo vn (.slice (some ⟨E,0,none⟩) ws.length L) (.slice aC d.aj.length cC) (.slice aS d.ax.length cS) (.slice aF d.fields.length cF) (.slice aN d.names.length cN) (.slice aT d.aq.length cT) h d cs order news (na d h.ab order news A new (n+1) ws)/\jc w.heap.size O O O (.slice (some ⟨E,0,none⟩) ws.length L) (.slice none 0 0) w (.slice none 0 0) W6):=⟨J.ab (k:=E) rfl hg (by rw [ac.o,HV.o,List.length_set,F.o,b8,List.map_set];exact r1),M4.trans (jc.ofGrown hg (Or.inr (Or.inr (Or.inr (Or.inl rfl)))))⟩;have ad:=ae G;clear r1 hg D N G J M4 ac F HV;go_wp2_with fail;rw [<-ad.o];go_roundw
   case rel=>exact ⟨(n)+1,by simp,by omega,HF.o⟩
   case measure=>simp [intOf];omega
  have hE:n=(3+(bj h.ab A).len).toNat:=by omega
  go_wp2_with fail;go_end0;exact ⟨rfl,hE ▸ X.o.1,X.o.2⟩
def toR (fy:List Int) (lo:Int) (order:List Int):Int:=order.foldl (fun lo a=>lo+(3+wd fy (a+1))) lo
def i8 (fy:List Int):Int->List Int->List Int
 | _,[]=>[]
 | lo,a::l=>lo::i8 fy (lo+(3+wd fy (a+1))) l
theorem zwf (fy:List Int) (lo:Int) (l:List Int) (a:Int):toR fy lo (l++ [a])=toR fy lo l+(3+wd fy (a+1)):=by unfold toR;rw [List.foldl_append];rfl
theorem zwg (fy:List Int):∀(l:List Int) (lo a:Int),i8 fy lo (l++ [a])=i8 fy lo l++ [toR fy lo l]
 | [],_,_=>rfl
 | b::l,lo,a=>by show lo::i8 fy _ (l++ [a])=_;rw [zwg fy l];rfl
theorem zwh (fy:List Int):∀(l:List Int) (lo:Int),(i8 fy lo l).length=l.length
 | [],_=>rfl
 | b::l,lo=>by show (i8 fy _ l).length+1=_;rw [zwh fy l];rfl
def putT (d:bd) (fy order news:List Int) (ws:List Int) (loc new:Int):List Int:=na d fy order news loc.toNat new.toNat (3+(bj fy loc).len).toNat ws
theorem zwi (d:bd) (fy order news ws:List Int) (A new:Int):(putT d fy order news ws A new).length=ws.length:=zwd _ _ _ _ _ _ _ _
def jt (d:bd) (fy order news:List Int) (ts:List bp) (ws:List Int):List Int:=ts.foldl (fun ws t=>putT d fy order news ws t.loc t.loc) ws
def i3 (d:bd) (fy order news:List Int) (l:List (Int×Int)) (ws:List Int):List Int:=l.foldl (fun ws p=>putT d fy order news ws p.1 p.2) ws
theorem zwj (d:bd) (fy order news:List Int) (ts:List bp) (t:bp) (ws:List Int):jt d fy order news (ts++ [t]) ws=putT d fy order news (jt d fy order news ts ws) t.loc t.loc:=by unfold jt;rw [List.foldl_append];rfl
theorem zwk (d:bd) (fy order news:List Int) (l:List (Int×Int)) (p:Int×Int) (ws:List Int):i3 d fy order news (l++ [p]) ws=putT d fy order news (i3 d fy order news l ws) p.1 p.2:=by unfold i3;rw [List.foldl_append];rfl
theorem zwl (d:bd) (fy order news:List Int):∀(ts:List bp) (ws:List Int),(jt d fy order news ts ws).length=ws.length
 | [],_=>rfl
 | t::ts,ws=>by show (jt d fy order news ts _).length=_;rw [zwl d fy order news ts,zwi]
theorem zwm (d:bd) (fy order news:List Int):∀(l:List (Int×Int)) (ws:List Int),(i3 d fy order news l ws).length=ws.length
 | [],_=>rfl
 | p::l,ws=>by show (i3 d fy order news l _).length=_;rw [zwm d fy order news l,zwi]
def rebD (d:bd) (h:bb) (stay:List bp) (order:List Int) (lo:Int):bb:=
 { h with ab:=i3 d h.ab order (i8 h.ab lo order) (order.zip (i8 h.ab lo order)) (jt d h.ab order (i8 h.ab lo order) stay (List.replicate h.ab.length 0)),be:=1,ar:=toR h.ab lo order,am:=[] }
def rebR (h:bb) (order:List Int) (lo:Int) (rs:List Int):List Int:=rs.map (ia order (i8 h.ab lo order))
def ordN (d:bd) (h:bb) (ns o:List Int):List Int:=ns.foldl (fun o n=>(di d.fields h.ab n).foldl (fq (yg h)) o) o
def ordY (d:bd) (h:bb) (rs:List Int):List Int:=bfsP (yg h) (di d.fields h.ab) h.ab.length 0 (ordN d h h.am (rs.foldl (fq (yg h)) []))
theorem zw1 (l:List (Int×bp)) (v:Int):(ii l v).isNone= !(l.map (·.1)).contains v:=by
 have e:(ii l v).isSome=(l.map (·.1)).contains v:=by rw [Bool.eq_iff_iff,zuu,List.contains_iff_mem]
 rw [<-e];cases ii l v<;>rfl
theorem zw2 {m:List (Int×bp)} {v:Int} :∀ {e:List (Int×bp)},v∉e.map (·.1)->ii (m++e) v=ii m v:=by
 intro e h;unfold ii;rw [List.foldl_append];generalize List.foldl _ none m=acc;induction e generalizing acc with
 | nil=>rfl
 | cons p e ih=>
   rw [List.map_cons,List.mem_cons,not_or]at h;rw [List.foldl_cons,if_neg (fun q=>h.1 q.symm)];exact ih h.2 acc
section
variable {d:bd} {h0:bb} {ts:List bp} {s:fp} {dn:Int->Prop}
theorem zw3 {m e:List (Int×bp)} {v:Int} (A:((m++e).map (·.1)).Nodup) (F:∀p∈e,dp h0 p.1=true) (E:dp h0 v=true->v∈m.map (·.1)):jl (m++e) v=jl m v:=by unfold jl;rw [zw2];intro hc;obtain ⟨p,D,rfl⟩:=List.mem_map.1 hc;rw [List.map_append,List.nodup_append]at A;exact A.2.2 _ (E (F p D)) _ (List.mem_map.2 ⟨p,D,rfl⟩) rfl
theorem zw4 (x:il d h0 ts s dn) (v:Int):(s.lead v).mv.map (·.1)=fq (yg h0) (s.mv.map (·.1)) v:=by
 unfold fp.lead fq;rw [x.youngEq,zv8,zw1];by_cases hc:(dp h0 v&& !(s.mv.map (·.1)).contains v)=true
 ·rw [if_pos hc,if_pos hc];show (s.mv++ [((v:Int),(⟨s.h.ar,(bj s.h.ab v).tag,(bj s.h.ab v).len,(bj s.h.ab v).hash⟩:bp))]).map (fun p:Int×bp=>p.1)=s.mv.map (fun p:Int×bp=>p.1)++ [v];rw [List.map_append];rfl
 rw [if_neg hc,if_neg hc]
theorem zw5 (r:Right d h0 ts) (A:0<=leftD h0):∀(rs:List Int) (s:fp) (dn:Int->Prop),il d h0 ts s dn->(∀v∈rs,dh ts v=true)->(s.roots rs).mv.map (·.1)=rs.foldl (fq (yg h0)) (s.mv.map (·.1))
 | [],_,_,_,_=>rfl
 | v::rs,s,dn,x,h=>by obtain ⟨y,-,-⟩:=x.lead r A (h v (List.mem_cons_self ..));have D:=zw5 r A rs _ dn y fun u E=>h u (List.mem_cons_of_mem _ E);rw [zw4 x]at D;exact D
theorem zw6 (r:Right d h0 ts) (E:0<=leftD h0):∀(rs:List Int) (s:fp) (dn:Int->Prop),il d h0 ts s dn->(∀v∈rs,dh ts v=true)->∀(s':fp),Ext (s.roots rs) s'->(s'.mv.map (·.1)).Nodup->(∀p∈s'.mv,dp h0 p.1=true)->s.tos rs=rs.map (jl s'.mv)
 | [],_,_,_,_,_,_,_,_=>rfl
 | v::rs,s,dn,x,h,s',he,hn,hy=>by
   obtain ⟨y,-,V,W⟩:=x.lead r E (h v (List.mem_cons_self ..));have G:=fun u N=>h u (List.mem_cons_of_mem _ N);have O:=zw6 r E rs _ dn y G s' he hn hy;obtain ⟨-,⟨I,D⟩,-⟩:=il.roots r E rs _ dn y G;obtain ⟨⟨F,A⟩,-⟩:=he;have A:s'.mv=((s.lead v).roots rs).mv++F:=A;have L:s'.mv=(s.lead v).mv++(I++F):=by rw [A,D,List.append_assoc]
   show s.dst v::(s.lead v).tos rs=jl s'.mv v::rs.map (jl s'.mv);rw [O,V];congr 1;rw [L]at hn hy ⊢;exact (zw3 hn (fun p J=>hy p (List.mem_append_right _ J)) W).symm
theorem zw7 (r:Right d h0 ts) (E:0<=leftD h0):∀(l:List Int) (s:fp) (dn:Int->Prop),il d h0 ts s dn->l.Nodup->(∀a∈l,¬dn a/\h0.ag<a/\a<s.h.ar/\dh ts (wd h0.ab (ik s.mv a))=true)->(s.refs l).mv.map (·.1)=(l.map fun a=>wd h0.ab (ik s.mv a)).foldl (fq (yg h0)) (s.mv.map (·.1))
 | [],_,_,_,_,_=>rfl
 | a::l,s,dn,x,hn,h=>by
   rw [List.nodup_cons]at hn;obtain ⟨F,J,L,N⟩:=h a (List.mem_cons_self ..);obtain ⟨y,D⟩:=x.ref r E F J L N;have z1:=r.sized.ag;have Z:=x.otopLe r E;have e:=x.nay a (by omega) (by omega) F;have I:=zw7 r E l (s.ref a) _ y hn.2 (fun b A=>by
    obtain ⟨O,V,G,W⟩:=h b (List.mem_cons_of_mem _ A);refine ⟨?_,V,Int.lt_of_lt_of_le G D.2.1,by rw [D.2.2 b G];exact W⟩;rintro (h | rfl)
    ·exact O h
    exact hn.1 A)
   have X:(s.ref a).mv.map (·.1)=fq (yg h0) (s.mv.map (·.1)) (wd h0.ab (ik s.mv a)):=by show (s.lead (wd s.h.ab a)).mv.map (·.1)=_;rw [e];exact zw4 x _
   have Y:(l.map fun b=>wd h0.ab (ik (s.ref a).mv b))=l.map fun b=>wd h0.ab (ik s.mv b):=List.map_congr_left fun b A=>by rw [D.2.2 b (h b (List.mem_cons_of_mem _ A)).2.2.1]
   rw [X,Y]at I;exact I
theorem zw8 (r:Right d h0 ts) (F:0<=leftD h0):∀(l ns:List Int) (s:fp),il d h0 ts s (dnN d.fields ts ns)->(∀n∈ns,h0.ag<n)->(∀n∈l,∃t∈ts,t.loc=n/\h0.ag<n)->(ns++l).Nodup->il d h0 ts (fp.am d.fields s l) (dnN d.fields ts (ns++l))/\Ext s (fp.am d.fields s l)/\(fp.am d.fields s l).mv.map (·.1)=ordN d h0 l (s.mv.map (·.1))
 | [],ns,s,x,_,_,_=>⟨by rw [List.append_nil];exact x,Ext.refl _,rfl⟩
 | n::l,ns,s,x,h1,h2,h3=>by
   obtain ⟨t,G,rfl,D⟩:=h2 n (List.mem_cons_self ..);have E:t.loc∉ns:=fun hc=>(List.nodup_append.1 h3).2.2 _ hc _ (List.mem_cons_self ..) rfl;obtain ⟨e,V⟩:=x.noteAt r h1 G D E;obtain ⟨y,N⟩:=x.noteStep r F h1 G D E;have L:=zw7 r F (refsOf d.fields t) s _ x (zu5 _ _) V;have q:=zu7 r G D;have J:(refsOf d.fields t).map (fun a=>wd h0.ab (ik s.mv a))=di d.fields h0.ab t.loc:=by unfold di;rw [<-q.2.2.1];exact List.map_congr_left fun a O=>by rw [x.srcLow r (by have:=q.2.2.2.2 a O;have:=q.2.1;omega)]
   obtain ⟨I,W,X⟩:=zw8 r F l (ns++ [t.loc]) _ y (by
    intro m A;rcases List.mem_append.1 A with A | A
    ·exact h1 m A
    rw [List.mem_singleton]at A;rw [A];exact D) (fun n D=>h2 n (List.mem_cons_of_mem _ D)) (by rw [List.append_assoc];exact h3)
   rw [List.append_assoc]at I;refine ⟨I,N.trans W,?_⟩;refine Eq.trans X ?_;rw [e,L,J];rfl
theorem zw9 (r:Right d h0 ts) (x:il d h0 ts s dn) {p:Int×bp} (E:p∈s.mv):(refsOf d.fields p.2).map (fun a=>wd h0.ab (ik s.mv a))=di d.fields h0.ab p.1:=by obtain ⟨t,I,J,D,F,G,-⟩:=x.fr p E;have y:=zuv r I (zuw.1 J).2;unfold di;rw [D,<-y.eq];unfold refsOf;rw [List.map_map,List.map_map,G,show je d.fields p.2=je d.fields t from funext fun n=>zva F n];refine List.map_congr_left fun n A=>?_;obtain ⟨A,-⟩:=List.mem_filter.1 A;have A:=List.mem_range.1 A;show wd h0.ab (ik s.mv (p.2.loc+3+(n:Int)))=wd h0.ab (t.loc+3+(n:Int));have L:p.2.fin=p.2.loc+3+p.2.len:=rfl;rw [zup (p:=p) (by omega) (by omega) x.laid (x.lens r) E,D,show t.loc+(p.2.loc+3+(n:Int) - p.2.loc)=t.loc+3+(n:Int) by omega]
theorem zxa (r:Right d h0 ts) (D:0<=leftD h0) {ns:List Int} (A:∀n∈ns,h0.ag<n):∀(f i:Nat) (s:fp),il d h0 ts s (dnG d.fields ts ns i s.mv)->(fp.gone d.fields f i s).mv.map (·.1)=bfsP (yg h0) (di d.fields h0.ab) f i (s.mv.map (·.1))
 | 0,_,_,_=>rfl
 | f+1,i,s,x=>by
   rw [fp.gone,bfsP,List.getElem?_map];cases hp:s.mv[i]? with
   | none=>rfl
   | some p=>
     obtain ⟨y,-⟩:=x.goneStep r D A hp;obtain ⟨-,-,F⟩:=x.goneAt r D A hp;have E:=zw7 r D (refsOf d.fields p.2) s _ x (zu5 _ _) F;rw [zw9 r x (List.mem_of_getElem? hp)]at E;show (fp.gone d.fields f (i+1) (s.refs (refsOf d.fields p.2))).mv.map (·.1)=bfsP (yg h0) (di d.fields h0.ab) f (i+1) ((di d.fields h0.ab p.1).foldl (fq (yg h0)) (s.mv.map (·.1)));rw [zxa r D A f (i+1) _ y,E]
theorem zxb (r:Right d h0 ts) (D:0<=leftD h0) (rs:List Int) (G:∀v∈rs,dh ts v=true):
 il d h0 ts (gq d h0 rs) (dnG d.fields ts h0.am (gq d h0 rs).mv.length (gq d h0 rs).mv)/\(gq d h0 rs).mv.map (·.1)=ordY d h0 rs/\ep h0 rs=rs.map (jl (gq d h0 rs).mv):=by
 have E:∀n∈h0.am,h0.ag<n:=fun n A=>by obtain ⟨_,_,_,q⟩:=zwy r A;exact q
 obtain ⟨N,a2⟩:=il.roots r D rs ⟨h0,[]⟩ _ zu2 G;have O:=zw5 r D rs ⟨h0,[]⟩ _ zu2 G;obtain ⟨V,W,I⟩:=zw8 r D h0.am [] _ (N.iff fun a=>⟨False.elim,fun ⟨n,A,_⟩=>by cases A⟩) (fun n A=>by cases A) (fun n A=>zwy r A) (zwz r);rw [O]at I;have J:il d h0 ts (fp.am d.fields (fp.roots ⟨h0,[]⟩ rs) h0.am) (dnG d.fields ts h0.am 0 (fp.am d.fields (fp.roots ⟨h0,[]⟩ rs) h0.am).mv):=V.iff fun a=>⟨Or.inl,fun h=>h.elim id fun ⟨j,_,hj,_⟩=>by omega⟩;obtain ⟨F,X⟩:=il.goneAll r D E h0.ab.length 0 _ (by omega) (n0q _) J;have L:=zxa r D E h0.ab.length 0 _ J;rw [I]at L;refine ⟨F,L,?_⟩;refine zw6 r D rs ⟨h0,[]⟩ _ zu2 G _ (W.trans X) F.nd fun p Y=>?_;obtain ⟨t,-,Z,e,-⟩:=F.fr p Y;rw [e];exact Z
end
theorem zxc {ws:List Int} :∀ {l:List (Int×bp)} {lo hi:Int},Laid lo l hi->(∀p∈l,p.2.len=wd ws (p.1+1))->i8 ws lo (l.map (·.1))=l.map (·.2.loc)/\toR ws lo (l.map (·.1))=hi
 | [],_,_,h,_=>⟨rfl,h⟩
 | p::l,lo,hi,h,hs=>by
   have D:=hs p (List.mem_cons_self ..);have h1:=h.1;have e:lo+(3+wd ws (p.1+1))=p.2.fin:=by rw [<-D];unfold bp.fin;omega
   have A:=zxc h.2 fun q E=>hs q (List.mem_cons_of_mem _ E);constructor
   ·show lo::i8 ws (lo+(3+wd ws (p.1+1))) (l.map (·.1))=p.2.loc::l.map (·.2.loc);rw [e,A.1,h1]
   show toR ws (lo+(3+wd ws (p.1+1))) (l.map (·.1))=hi;rw [e];exact A.2
theorem zxd (ws:List Int):∀(l:List Int) (lo:Int) (k:Nat),k<l.length->(i8 ws lo l)[k]? =some (toR ws lo (l.take k))
 | [],_,_,h=>by cases h
 | a::l,lo,0,_=>rfl
 | a::l,lo,k+1,h=>by show (lo::i8 ws (lo+(3+wd ws (a+1))) l)[k+1]? =_;rw [List.getElem?_cons_succ,zxd ws l _ k (by simpa using h)];rfl
theorem zxe (l:List Int) (v:Int):(v∉l/\mq l v= -1)\/∃k:Nat,l[k]? =some v/\mq l v=k:=by
 unfold mq idx;cases e:l.findIdx? (fun x=>decide (x=v))with
 | none=>
   refine Or.inl ⟨fun E=>?_,rfl⟩;have:=List.findIdx?_eq_none_iff.1 e v E;simp at this
 | some k=>
   obtain ⟨A,D,-⟩:=List.findIdx?_eq_some_iff_getElem.1 e;refine Or.inr ⟨k,?_,rfl⟩;rw [List.getElem?_eq_getElem A,of_decide_eq_true D]
theorem zxf {l:List (Int×bp)} (D:(l.map (·.1)).Nodup) (F:(0:Int)∉l.map (·.1)) (v:Int):ia (l.map (·.1)) (l.map (·.2.loc)) v=jl l v:=by
 unfold ia jl;rcases zxe (l.map (·.1)) v with ⟨h1,A⟩ | ⟨k,h1,A⟩
 ·rw [if_pos (Or.inr (by omega)),zur h1];rfl
 have E:v≠0:=fun e=>F (by rw [<-e];exact List.mem_of_getElem? h1);rw [if_neg (by rintro (q | q);exact E q;omega),A];rw [List.getElem?_map]at h1;cases hp:l[k]? with
 | none=>rw [hp]at h1;cases h1
 | some p=>
   rw [hp]at h1;have h1:p.1=v:=ojq h1;subst h1;rw [zus (List.mem_of_getElem? hp) D];unfold wd;rw [show ((k:Int)).toNat=k by omega,List.getElem?_map,hp];rfl
section
variable {d:bd} {fy order news:List Int}
theorem zxl (A new:Nat):∀(n:Nat) (ws:List Int),new+n<=ws.length->∀a:Int,0<=a->wd (na d fy order news A new n ws) a=if (new:Int)<=a/\a<new+n then putW d fy order news A (a - new).toNat else wd ws a
 | 0,ws,_,a,_=>by rw [if_neg (by omega)];rfl
 | n+1,ws,h,a,h0=>by
   show wd ((na d fy order news A new n ws).set (new+n) (putW d fy order news A n)) a=_;by_cases e:a=((new+n:Nat):Int)
   ·subst e;rw [zsa (by rw [zwd];omega),if_pos (by omega),show (((new+n:Nat):Int) - new).toNat=n by omega]
   rw [zr9 (by omega),zxl A new n ws (by omega) a h0];by_cases c:(new:Int)<=a/\a<new+n
   ·rw [if_pos c,if_pos (by omega)]
   rw [if_neg c,if_neg (by omega)]
structure PutOk (fy:List Int) (n:Nat) (p:Int×Int):Prop where
 src:0<=p.1
 dst:0<=p.2
 len:0<=(bj fy p.1).len
 fin:p.2+3+(bj fy p.1).len<=n
theorem zxm {ws:List Int} {p:Int×Int} (h:PutOk fy ws.length p) {a:Int} (h0:0<=a):wd (putT d fy order news ws p.1 p.2) a=if p.2<=a/\a<p.2+3+(bj fy p.1).len then putW d fy order news p.1.toNat (a - p.2).toNat else wd ws a:=by
 have h1:=h.dst;have A:=h.len;have D:=h.fin;have e:((p.2.toNat:Nat):Int)=p.2:=by omega
 unfold putT;rw [zxl _ _ _ _ (by omega) _ h0,e];by_cases c:p.2<=a/\a<p.2+3+(bj fy p.1).len
 ·rw [if_pos (by omega),if_pos c]
 rw [if_neg (by omega),if_neg c]
theorem zxn:∀(l:List (Int×Int)) (ws:List Int) (a:Int),0<=a->(∀p∈l,PutOk fy ws.length p)->(∀p∈l,¬(p.2<=a/\a<p.2+3+(bj fy p.1).len))->wd (i3 d fy order news l ws) a=wd ws a
 | [],_,_,_,_,_=>rfl
 | p::l,ws,a,h0,h1,h2=>by show wd (i3 d fy order news l (putT d fy order news ws p.1 p.2)) a=_;rw [zxn l _ a h0 (fun q A=>by rw [zwi];exact h1 q (List.mem_cons_of_mem _ A)) fun q A=>h2 q (List.mem_cons_of_mem _ A),zxm (h1 p (List.mem_cons_self ..)) h0,if_neg (h2 p (List.mem_cons_self ..))]
theorem zxo:∀(l:List (Int×Int)) (ws:List Int) (a:Int),0<=a->(∀p∈l,PutOk fy ws.length p)->l.Pairwise (fun p q=>p.2+3+(bj fy p.1).len<=q.2)->∀p∈l,p.2<=a->a<p.2+3+(bj fy p.1).len->wd (i3 d fy order news l ws) a=putW d fy order news p.1.toNat (a - p.2).toNat
 | [],_,_,_,_,_,_,A,_,_=>by cases A
 | q::l,ws,a,h0,h1,h2,p,A,h3,h4=>by
   rw [List.pairwise_cons]at h2;show wd (i3 d fy order news l (putT d fy order news ws q.1 q.2)) a=_;have D:∀p∈l,PutOk fy (putT d fy order news ws q.1 q.2).length p:=fun p A=>by rw [zwi];exact h1 p (List.mem_cons_of_mem _ A)
   rcases List.mem_cons.1 A with rfl | A
   ·rw [zxn l _ a h0 D fun q E=>by have:=h2.1 q E;omega,zxm (h1 p (List.mem_cons_self ..)) h0,if_pos ⟨h3,h4⟩]
   exact zxo l _ a h0 D h2.2 p A h3 h4
theorem zxp (ts:List bp) (ws:List Int):jt d fy order news ts ws=i3 d fy order news (ts.map fun t=>(t.loc,t.loc)) ws:=by unfold jt i3;rw [List.foldl_map]
end
theorem zxq {l m:List Int} (D:l.length=m.length) (h:∀i:Nat,i<l.length->wd l i=wd m i):l=m:=by refine List.ext_getElem D fun i h1 A=>?_;have:=h i h1;rwa [mw h1,mw A]at this
theorem zxr (n:Nat) (a:Int):wd (List.replicate n 0) a=0:=by unfold wd;rw [List.getElem?_replicate];split<;>rfl
theorem zxs {α β γ:Type} (f:α->β) (g:α->γ):∀l:List α,(l.map f).zip (l.map g)=l.map fun x=>(f x,g x)
 | []=>rfl
 | x::l=>by show (f x,g x)::(l.map f).zip (l.map g)=_;rw [zxs f g l];rfl
theorem zxt {d:bd} {h:bb} {ts:List bp} (r:Right d h ts):wd h.ab 0=0/\∀a:Int,h.ar<=a->wd h.ab a=0:=by
 have I:=r.sized.ag;have J:=r.sized.len;have L:=r.sized.ar;have F:=List.any_eq_false.1 r.rest;have A:∀x∈jq h,x=0:=fun x E=>by have:=F x E;simpa using this
 unfold jq at A;constructor
 ·rw [show (0:Int)=((0:Nat):Int) from rfl,mw (by omega)];exact A _ (List.mem_append_left _ (List.mem_take_iff_getElem.2 ⟨0,by omega,rfl⟩))
 intro a G;by_cases D:a.toNat<h.ab.length
 ·rw [show a=((a.toNat:Nat):Int) by omega,mw D];exact A _ (List.mem_append_right _ (List.mem_append_right _ (List.mem_drop_iff_getElem.2 ⟨a.toNat - h.ar.toNat,by omega,by congr 1;omega⟩)))
 unfold wd;rw [List.getElem?_eq_none (by omega)];rfl
theorem zxu {n:Nat} {fs:List (List bg)} {ws:List Int} {A:Int} :∀(f:Nat) (lo:Int) (ts:List bp),(A - lo).toNat<=f->cb n fs ws lo A=some ts->∀a,lo<=a->a<A->∃t∈ts,t.loc<=a/\a<t.fin
 | f,lo,ts,hf,e,a,h1,h2=>by
   have D:lo<A:=by omega
   by_cases E:io n fs ws lo A=true
   ·rw [zet D E]at e;cases hx:cb n fs ws (bj ws lo).fin A with
    | none=>rw [hx]at e;cases e
    | some ts'=>
      rw [hx]at e;have e:=ojq e;subst e;have G:=zep E;by_cases hc:a<(bj ws lo).fin
      ·exact ⟨_,List.mem_cons_self ..,h1,hc⟩
      match f,hf with
      | 0,hf=>omega
      | f+1,hf=>
        obtain ⟨t,F,q⟩:=zxu f _ ts' (by omega) hx a (by omega) h2;exact ⟨t,List.mem_cons_of_mem _ F,q⟩
   rw [zeu D E]at e;cases e
theorem zxv {n:Nat} {fs:List (List bg)} {ws:List Int} {A:Int} :∀(f:Nat) (lo:Int) (ts:List bp),(A - lo).toNat<=f->cb n fs ws lo A=some ts->ts.Pairwise (fun t u=>t.fin<=u.loc)
 | f,lo,ts,hf,e=>by
   by_cases D:lo<A
   ·by_cases E:io n fs ws lo A=true
    ·rw [zet D E]at e;cases hx:cb n fs ws (bj ws lo).fin A with
     | none=>rw [hx]at e;cases e
     | some ts'=>
       rw [hx]at e;have e:=ojq e;subst e;have G:=zep E;match f,hf with
       | 0,hf=>omega
       | f+1,hf=>
         refine List.pairwise_cons.2 ⟨fun u F=>?_,zxv f _ ts' (by omega) hx⟩;exact (zsf f _ ts' (by omega) hx u F).1
    rw [zeu D E]at e;cases e
   rw [zes D]at e;have e:=ojq e;subst e;exact List.Pairwise.nil
theorem zxw:∀ {l:List (Int×bp)} {lo hi:Int},Laid lo l hi->∀a,lo<=a->a<hi->∃p∈l,p.2.loc<=a/\a<p.2.fin
 | [],lo,hi,h,a,h1,h2=>by have h:lo=hi:=h;omega
 | q::l,lo,hi,h,a,h1,h2=>by
   by_cases hc:a<q.2.fin
   ·exact ⟨q,List.mem_cons_self ..,by rw [h.1];exact h1,hc⟩
   obtain ⟨p,A,e⟩:=zxw h.2 a (by omega) h2;exact ⟨p,List.mem_cons_of_mem _ A,e⟩
theorem zxx:∀ {l:List (Int×bp)} {lo hi:Int},Laid lo l hi->(∀p∈l,0<=p.2.len)->l.Pairwise (fun p q=>p.2.fin<=q.2.loc)
 | [],_,_,_,_=>List.Pairwise.nil
 | q::l,lo,hi,h,hl=>by have A:∀p∈l,0<=p.2.len:=fun p D=>hl p (List.mem_cons_of_mem _ D);exact List.pairwise_cons.2 ⟨fun p D=>((zun h.2 A).2 p D).1,zxx h.2 A⟩
theorem zxy {d:bd} {h:bb} {ts E:List bp} (r:Right d h ts) (hl:0<=leftD h) (e2:cb d.aj.length d.fields h.ab (h.ag+1) h.ar=some E) {s:fp} (x:il d h ts s (dnG d.fields ts h.am s.mv.length s.mv)):
 leaveY s.h=rebD d h E (s.mv.map (·.1)) h.ar:=by
 have z:=r.sized;have z1:=z.ag;have z2:=z.old;have z3:=z.len;have z4:=z.be;have z5:=z.ar;have a7:=x.len;have ba:=x.otopLe r hl;have I:=zun x.laid (x.lens r);have aq:∀p∈s.mv,p.2.len=wd h.ab (p.1+1):=fun p A=>by obtain ⟨t,D,hy,q1,q2,q3,-⟩:=x.fr p A;rw [q3,q1];exact congrArg bp.len (zuv r D (zuw.1 hy).2).eq
 obtain ⟨n1,n2⟩:=zxc (ws:=h.ab) x.laid aq;have Y:∀v∈s.mv.map (·.1),dp h v=true:=fun v hv=>by obtain ⟨p,A,rfl⟩:=List.mem_map.1 hv;obtain ⟨t,-,hy,e,-⟩:=x.fr p A;rw [e];exact hy
 have a9:(0:Int)∉s.mv.map (·.1):=fun hc=>by have:=(zuw.1 (Y _ hc)).1;omega
 have ay:=zxf x.nd a9;have ai:∀t∈E,t∈ts:=fun t D=>by obtain ⟨ys,bh,f1,f2,rfl⟩:=zko r.both;rw [e2]at f2;have f2:=ojq f2;subst f2;exact List.mem_append_right _ D
 have V:∀t∈E,h.ag<t.loc/\t.fin<=h.ar/\t=bj h.ab t.loc/\0<=t.len:=fun t D=>by have q:=zkn e2 t D;have q1:=q.1;exact ⟨by omega,q.2.1,q.2.2.1,zeo q.2.2.2.2⟩
 have au:∀p∈E.map (fun t=>(t.loc,t.loc)),PutOk h.ab h.ab.length p:=fun p A=>by obtain ⟨t,D,rfl⟩:=List.mem_map.1 A;obtain ⟨q1,q2,q3,q4⟩:=V t D;have q5:t.fin=t.loc+3+t.len:=rfl;exact ⟨by show 0<=t.loc;omega,by show 0<=t.loc;omega,by show 0<=(bj h.ab t.loc).len;rw [<-q3];exact q4,by show t.loc+3+(bj h.ab t.loc).len<=_;rw [<-q3];omega⟩
 have W:∀p∈s.mv,bj h.ab p.1=⟨p.1,p.2.tag,p.2.len,p.2.hash⟩:=fun p A=>by obtain ⟨t,D,hy,q1,q2,q3,q4⟩:=x.fr p A;rw [q1,q2,q3,q4];exact (zuv r D (zuw.1 hy).2).eq.symm
 have O:∀p∈s.mv.map (fun p=>(p.1,p.2.loc)),PutOk h.ab h.ab.length p:=fun p A=>by obtain ⟨t,D,rfl⟩:=List.mem_map.1 A;have q1:=I.2 t D;have q2:=(zuw.1 (Y _ (List.mem_map.2 ⟨t,D,rfl⟩))).1;have q3:=x.lens r t D;have q4:t.2.fin=t.2.loc+3+t.2.len:=rfl;exact ⟨by show 0<=t.1;omega,by show 0<=t.2.loc;omega,by show 0<=(bj h.ab t.1).len;rw [W t D];exact q3,by show t.2.loc+3+(bj h.ab t.1).len<=_;rw [W t D];show t.2.loc+3+t.2.len<=_;omega⟩
 have av:(E.map fun t=>(t.loc,t.loc)).Pairwise (fun p q=>p.2+3+(bj h.ab p.1).len<=q.2):=by refine List.pairwise_map.2 (List.Pairwise.imp_of_mem (fun {a b} L hb ad=>?_) (zxv _ _ E (nlq _) e2));show a.loc+3+(bj h.ab a.loc).len<=b.loc;rw [<-(V a L).2.2.1];exact ad
 have ax:(s.mv.map fun p=>(p.1,p.2.loc)).Pairwise (fun p q=>p.2+3+(bj h.ab p.1).len<=q.2):=by refine List.pairwise_map.2 (List.Pairwise.imp_of_mem (fun {a b} L hb ad=>?_) (zxx x.laid (x.lens r)));show a.2.loc+3+(bj h.ab a.1).len<=b.2.loc;rw [W a L];exact ad
 have hw:(leaveY s.h).ab=(rebD d h E (s.mv.map (·.1)) h.ar).ab:=by
  show ni s.h.ab 1 (List.replicate s.h.ag.toNat 0)=i3 d h.ab (s.mv.map (·.1)) (i8 h.ab h.ar (s.mv.map (·.1))) ((s.mv.map (·.1)).zip (i8 h.ab h.ar (s.mv.map (·.1)))) (jt d h.ab (s.mv.map (·.1)) (i8 h.ab h.ar (s.mv.map (·.1))) E (List.replicate h.ab.length 0));rw [n1,zxs,zxp];have bf:=x.yo;have aa:1+(List.replicate s.h.ag.toNat (0:Int)).length<=s.h.ab.length:=by rw [List.length_replicate];omega
  have X:(i3 d h.ab (s.mv.map (·.1)) (s.mv.map (·.2.loc)) (E.map fun t=>(t.loc,t.loc)) (List.replicate h.ab.length 0)).length=h.ab.length:=by rw [zwm,List.length_replicate]
  refine zxq (by rw [zug aa,zwm,X,a7]) fun i hi=>?_;rw [zug aa]at hi;have ao:∀a:Int,0<=a->a<h.ar->wd (i3 d h.ab (s.mv.map (·.1)) (s.mv.map (·.2.loc)) (s.mv.map fun p=>(p.1,p.2.loc)) (i3 d h.ab (s.mv.map (·.1)) (s.mv.map (·.2.loc)) (E.map fun t=>(t.loc,t.loc)) (List.replicate h.ab.length 0))) a=wd (i3 d h.ab (s.mv.map (·.1)) (s.mv.map (·.2.loc)) (E.map fun t=>(t.loc,t.loc)) (List.replicate h.ab.length 0)) a:=fun a a0 a1=>zxn _ _ a a0 (by rw [X];exact O) fun p A hc=>by obtain ⟨t,D,rfl⟩:=List.mem_map.1 A;have q1:=(I.2 t D).1;have F:t.2.loc<=a:=hc.1;omega
  have G:∀p∈E.map (fun t=>(t.loc,t.loc)),PutOk h.ab (List.replicate h.ab.length (0:Int)).length p:=by rw [List.length_replicate];exact au
  by_cases c1:(i:Int)<=h.ag
  ·rw [ao i (by omega) (by omega),zxn _ _ _ (by omega) G (fun p A hc=>by
    obtain ⟨t,D,rfl⟩:=List.mem_map.1 A;have q1:=(V t D).1;have F:t.loc<=(i:Int):=hc.1;omega),zxr]
   by_cases c0:i=0
   ·subst c0;rw [zuk aa (by omega) (by omega),x.low r (by omega) (by omega)];exact (zxt r).1
   rw [zuj (by omega) (by omega) (by rw [List.length_replicate];omega),zxr]
  rw [zuk aa (by omega) (by rw [List.length_replicate];omega)];by_cases c2:(i:Int)<h.ar
  ·obtain ⟨t,D,t1,t2⟩:=zxu _ _ E (nlq _) e2 i (by omega) c2;obtain ⟨q1,q2,q3,q4⟩:=V t D;have q5:t.fin=t.loc+3+t.len:=rfl;have af:=zxo (d:=d) (order:=s.mv.map (·.1)) (news:=s.mv.map (·.2.loc)) _ _ (i:Int) (by omega) G av (t.loc,t.loc) (List.mem_map.2 ⟨t,D,rfl⟩) t1 (by show (i:Int)<t.loc+3+(bj h.ab t.loc).len;rw [<-q3];omega);rw [ao i (by omega) c2,af];show _=putW d h.ab _ _ t.loc.toNat ((i:Int) - t.loc).toNat;unfold putW;rw [show ((t.loc.toNat:Nat):Int)=t.loc by omega,<-q3,show ((t.loc.toNat+((i:Int) - t.loc).toNat:Nat):Int)=(i:Int) by omega];have J:=x.srcLow r c2;have an:dnG d.fields ts h.am s.mv.length s.mv (i:Int)->t.loc∈h.am/\(i:Int)∈refsOf d.fields t:=by
    rintro (⟨n,Z,u,hu,rfl,L⟩ | ⟨j,p,hj,A,L⟩)
    ·obtain ⟨_,_,_,al⟩:=zwy r Z;have qu:=(zu7 r hu al).2.2.2.2 _ L;rcases zu8 r (ai t D) hu with e | e | e
     ·subst e;exact ⟨Z,L⟩
     ·omega
     omega
    obtain ⟨n,e,hn,-⟩:=zto L;have:=(I.2 p (List.mem_of_getElem? A)).1;omega
   by_cases N:(decide (3<=((i:Int) - t.loc).toNat)&&je d.fields t (((i:Int) - t.loc).toNat - 3))=true
   ·rw [if_pos N,ay];rw [Bool.and_eq_true,decide_eq_true_eq]at N;have ac:(i:Int)∈refsOf d.fields t:=by
     have:=ztp (x:=t) (n:=((i:Int) - t.loc).toNat - 3) (by omega) N.2;rwa [show t.loc+3+((((i:Int) - t.loc).toNat - 3:Nat):Int)=(i:Int) by omega]at this
    by_cases cn:t.loc∈h.am
    ·rw [x.yes i (by omega) (by omega) (Or.inl ⟨t.loc,cn,t,ai t D,rfl,ac⟩),J]
    rw [x.nay i (by omega) (by omega) (fun hc=>cn (an hc).1),J];unfold jl;rw [zur]
    ·rfl
    intro hc;have a8:=Y _ hc;have a6:=List.any_eq_false.1 r.un t (ai t D);refine a6 ?_;unfold iq gc;rw [Bool.and_eq_true,Bool.and_eq_true,decide_eq_true_eq];refine ⟨⟨q1,?_⟩,List.any_eq_true.2 ⟨_,ac,a8⟩⟩;cases hcc:h.am.contains t.loc with
    | false=>rfl
    | true=>exact absurd (List.contains_iff_mem.1 hcc) cn
   rw [if_neg N,x.nay i (by omega) (by omega) (fun hc=>N (by
    obtain ⟨n,e,hn,ak⟩:=zto (an hc).2;rw [show ((i:Int) - t.loc).toNat - 3=n by omega,ak,decide_eq_true (by omega:3<=((i:Int) - t.loc).toNat)];rfl)),J]
  by_cases c3:(i:Int)<s.h.ar
  ·obtain ⟨p,A,t1,t2⟩:=zxw x.laid i (by omega) c3;have q3:=W p A;have q4:=x.lens r p A;have q5:p.2.fin=p.2.loc+3+p.2.len:=rfl;have q6:=I.2 p A;have q7:=(zuw.1 (Y _ (List.mem_map.2 ⟨p,A,rfl⟩))).1;have af:=zxo (d:=d) (order:=s.mv.map (·.1)) (news:=s.mv.map (·.2.loc)) (s.mv.map fun p=>(p.1,p.2.loc)) (i3 d h.ab (s.mv.map (·.1)) (s.mv.map (·.2.loc)) (E.map fun t=>(t.loc,t.loc)) (List.replicate h.ab.length 0)) (i:Int) (by omega) (by rw [X];exact O) ax (p.1,p.2.loc) (List.mem_map.2 ⟨p,A,rfl⟩) t1 (by show (i:Int)<p.2.loc+3+(bj h.ab p.1).len;rw [q3];exact t2);rw [af];show _=putW d h.ab _ _ p.1.toNat ((i:Int) - p.2.loc).toNat;unfold putW;rw [show ((p.1.toNat:Nat):Int)=p.1 by omega,show ((p.1.toNat+((i:Int) - p.2.loc).toNat:Nat):Int)=p.1+((i:Int) - p.2.loc) by omega,zva (x:=bj h.ab p.1) (y:=p.2) (by rw [q3])];have J:=zup (p:=p) t1 t2 x.laid (x.lens r) A;by_cases N:(decide (3<=((i:Int) - p.2.loc).toNat)&&je d.fields p.2 (((i:Int) - p.2.loc).toNat - 3))=true
   ·rw [if_pos N,ay];rw [Bool.and_eq_true,decide_eq_true_eq]at N;have ac:(i:Int)∈refsOf d.fields p.2:=by
     have:=ztp (x:=p.2) (n:=((i:Int) - p.2.loc).toNat - 3) (by omega) N.2;rwa [show p.2.loc+3+((((i:Int) - p.2.loc).toNat - 3:Nat):Int)=(i:Int) by omega]at this
    obtain ⟨j,hj,ej⟩:=List.mem_iff_getElem.1 A;rw [x.yes i (by omega) (by omega) (Or.inr ⟨j,p,hj,by rw [List.getElem?_eq_getElem hj,ej],ac⟩),J]
   rw [if_neg N,x.nay i (by omega) (by omega),J];rintro (⟨n,Z,u,hu,rfl,L⟩ | ⟨j,q,hj,hq,L⟩)
   ·obtain ⟨_,_,_,al⟩:=zwy r Z;have qu:=zu7 r hu al;have:=qu.2.2.2.2 _ L;omega
   obtain ⟨n,e,hn,ak⟩:=zto L;have bc:=List.mem_of_getElem? hq;have hf:q.2.fin=q.2.loc+3+q.2.len:=rfl;obtain ⟨k,hk,ek⟩:=List.mem_iff_getElem.1 A;have ah:s.mv[k]? =some p:=by rw [List.getElem?_eq_getElem hk,ek]
   have a3:j=k:=by
    rcases Nat.lt_trichotomy j k with a4 | az | a2
    ·have:=zvb _ x.laid (x.lens r) a4 hq ah;omega
    ·exact az
    have:=zvb _ x.laid (x.lens r) a2 ah hq;omega
   subst a3;rw [ah]at hq;have hq:=ojq hq;subst hq;refine N ?_;rw [show ((i:Int) - p.2.loc).toNat - 3=n by omega,ak,decide_eq_true (by omega:3<=((i:Int) - p.2.loc).toNat)];rfl
  rw [zxn _ _ (i:Int) (by omega) (by rw [X];exact O) (fun p A hc=>by
   obtain ⟨t,D,rfl⟩:=List.mem_map.1 A;have q1:=(I.2 t D).2;have q5:t.2.fin=t.2.loc+3+t.2.len:=rfl;have F:(i:Int)<t.2.loc+3+(bj h.ab t.1).len:=hc.2;rw [W t D]at F;have F:(i:Int)<t.2.loc+3+t.2.len:=F;omega),zxn _ _ _ (by omega) G (fun p A hc=>by
   obtain ⟨t,D,rfl⟩:=List.mem_map.1 A;obtain ⟨q1,q2,q3,q4⟩:=V t D;have q5:t.fin=t.loc+3+t.len:=rfl;have F:(i:Int)<t.loc+3+(bj h.ab t.loc).len:=hc.2;rw [<-q3]at F;omega),zxr,x.nay i (by omega) (by omega) (fun hc=>by have:=(x.dn1 _ hc).2.1;omega),zuo fun p A hc=>by have:=(I.2 p A).2;omega]
  exact (zxt r).2 _ (by omega)
 have a5:rebD d h E (s.mv.map (·.1)) h.ar=⟨(rebD d h E (s.mv.map (·.1)) h.ar).ab,h.ag,h.old,1,s.h.ar,[],h.next⟩:=by show bb.mk _ _ _ _ (toR h.ab h.ar (s.mv.map (·.1))) _ _=_;rw [n2];rfl
 rw [a5,<-hw];show bb.mk (leaveY s.h).ab s.h.ag s.h.old 1 s.h.ar [] s.h.next=_;rw [x.yo,x.ol,x.nx]
theorem zxz {d:bd} {h:bb} {ts X:List bp} (r:Right d h ts) (J:0<=leftD h) (Y:cb d.aj.length d.fields h.ab (h.ag+1) h.ar=some X) (rs:List Int) (hr:∀v∈rs,dh ts v=true):
 ck d h rs=rebD d h X (ordY d h rs) h.ar/\ep h rs=rebR h (ordY d h rs) h.ar rs/\(ordY d h rs).length<h.ab.length/\∀k,(E:k<(ordY d h rs).length)->∃a:Nat,(ordY d h rs)[k]=a/\a+2<h.ab.length/\(a:Int)+3+(bj h.ab a).len<=h.ab.length/\lg d (bj h.ab a)/\0<=toR h.ab h.ar ((ordY d h rs).take k)/\toR h.ab h.ar ((ordY d h rs).take k)+3+(bj h.ab a).len<=h.ab.length:=by
 obtain ⟨x,e,Z⟩:=zxb r J rs hr;have z:=r.sized;have z1:=z.ag;have z2:=z.old;have z3:=z.len;have z4:=z.be;have z5:=z.ar;have F:∀p∈(gq d h rs).mv,p.2.len=wd h.ab (p.1+1):=fun p D=>by obtain ⟨t,O,I,q1,q2,q3,-⟩:=x.fr p D;rw [q3,q1];exact congrArg bp.len (zuv r O (zuw.1 I).2).eq
 obtain ⟨W,n2⟩:=zxc (ws:=h.ab) x.laid F;have ad:=x.otopLe r J;have N:=zun x.laid (x.lens r);have L:=x.count r J;rw [<-e];refine ⟨zxy r J Y x,?_,by rw [List.length_map];exact L,fun k E=>?_⟩
 ·rw [Z];unfold rebR;rw [W];refine List.map_congr_left fun v _=>(zxf x.nd (fun hc=>?_) v).symm;obtain ⟨p,D,e0⟩:=List.mem_map.1 hc;obtain ⟨t,-,I,q,-⟩:=x.fr p D;have:=(zuw.1 I).1;omega
 rw [List.length_map]at E;have D:=gm E;obtain ⟨t,O,I,q1,q2,q3,q4⟩:=x.fr _ D;have y:=zuv r O (zuw.1 I).2;have y1:=y.lo;have y2:=y.fin;have y3:=y.fit.lo;have y4:t.fin=t.loc+3+t.len:=rfl;have A:((t.loc.toNat:Nat):Int)=t.loc:=by omega
 have aa:=N.2 _ D;have ac:(gq d h rs).mv[k].2.fin=(gq d h rs).mv[k].2.loc+3+(gq d h rs).mv[k].2.len:=rfl;have G:toR h.ab h.ar (((gq d h rs).mv.map (·.1)).take k)=(gq d h rs).mv[k].2.loc:=by have V:=zxd h.ab ((gq d h rs).mv.map (·.1)) h.ar k (by rw [List.length_map];exact E);rw [W,List.getElem?_map,List.getElem?_eq_getElem E]at V;exact (ojq V).symm
 refine ⟨t.loc.toNat,by rw [List.getElem_map,q1];exact A.symm,by omega,?_,?_,?_,?_⟩
 ·rw [A,<-y.eq];omega
 ·rw [A,<-y.eq];exact y.fit
 ·rw [G];omega
 rw [G,A,<-y.eq];omega
end Go.Proofs.YtjdnmblggdobgaaGreat
