import Derived.Test.YtjdnmblggdobgaaGreatJTk2Dies
import Derived.Test.YtjdnmblggdobgaaGreatJLNoneLSaD
import Derived.Test.YtjdnmblggdobgaaGreatJLSetLQs
import Derived.Deep.RegionHeld3
import Derived.Deep.RegionLaw
import Derived.Deep.DeepCutAuto
import Derived.Test.YtjdnmblggdobgaaGreatLDif
set_option maxHeartbeats 16000000
set_option maxRecDepth 100000
namespace Go.Proofs.YtjdnmblggdobgaaGreat
open Go.RowKit Go.Maps
theorem zjg (w:World) (B b:Nat) (l:List am) (vC vS vF vN vT vL:Value) (Bm:Nat) (F:Web B w b l vC vS vF vN vT vL Bm) (n:Nat) (hn:n<l.length) (u:Value) (m:dx) (hu:ElM B w u m):
 Calls Tryz.prog 255 #[.pointer (some ⟨b,0,none⟩),.int .i64 n,u] w fun r w'=>r=.returned (.bool (j7 l n m))/\Below w.heap.size w w':=by
 obtain ⟨V,X,ho,ch,rfl,ea,-,a3,-,-⟩:=hu;have aa:=F.le;have al:((List.range l.length).map (d9 l)).length=l.length:=by simp
 have an:((List.range l.length).map (d7 l)).length=l.length:=by simp
 have c0:=F.cell0;have c3:=ba F.blk 3 (x:=vN) rfl;have c4:=ba F.blk 4 (x:=vT) rfl;have Z:=bz F.blk;have ap:=F.sC;obtain ⟨aC,cC,az,-⟩:=F.sC;obtain ⟨aN,cN,aq,-⟩:=F.sN;obtain ⟨aT,cT,au,-⟩:=F.sT;rw [al]at aq;rw [an]at au;subst az aq au;obtain ⟨bN,oN,aL,cL,rfl,aw,e1,sL⟩:=F.sN.atSl n (by omega);obtain ⟨bT,oT,aU,cU,rfl,ax,e2,sU⟩:=F.sT.atSl n (by omega);have g1:((List.range l.length).map (d9 l))[n]'(by omega)=d9 l n:=by simp
 have g2:((List.range l.length).map (d7 l))[n]'(by omega)=d7 l n:=by simp
 rw [g1]at e1 sL;rw [g2]at e2 sU;clear g1 g2 al an F;have a4:(0:Int)<=n:=by omega
 have a5:(n:Int)<l.length:=by omega
 have I:Hid (∀o k,Below w.heap.size w ((w.alloc o).drewN k)):=fun o k=>mp ((br w.heap.size w).alloc (nlq _) o) k;have HI:Hid (∀o k,Calls Tryz.prog 234 #[.slice aL (d9 l n).length cL,.string m.name] ((w.alloc o).drewN k) fun r w'=>r=.returned (.int .i64 (iu (d9 l n) m.name))/\w'=(w.alloc o).drewN k):=fun o k=>zfx _ (· <B) _ _ m.name (sL.keptS (Kp.below ((I.o o k).mono aa)));have aj:=zhf (d9 l n) m.name;have af:=ag (zi1 l n);by_cases N:iu (d9 l n) m.name<0
 ·have HR:=ag (zi3 N);have a9: -1<=iu (d9 l n) m.name:=by unfold iu;split<;>omega
  generalize iu (d9 l n) m.name=ix at*;generalize (d9 l n).length=nl at*;clear ea sL sU e2 aj af;go_enter Tryz.func255,Tryz.ntmps255;go_wp2_with fail;go_quiet (first | (go_at_call 234;exact Calls.quiet_of_same (HI.o _ _)));go_wp2_with fail;go_ret;exact ⟨by rw [HR.o];rfl,I.o _ _⟩
 obtain ⟨k,hk⟩:=Int.eq_ofNat_of_zero_le (by omega:0<=iu (d9 l n) m.name);have J:k<(d7 l n).length:=by rw [<-zi1 l n];omega
 obtain ⟨c,j,ht,hc,hj⟩:=zi0 hn _ (gm J);have HR:=ag (zi4 hk J ht hj);obtain ⟨bt,ot,rfl,ay,t0,t1⟩:=sU.atT k J;rw [ht]at t0 t1;obtain ⟨bc,oc,vf,vm,rfl,Y,-,-,-,d3,-,em,-,-⟩:=ap.atC c hc;rw [<-zay hc]at em;have EM:=ag em;obtain ⟨mo,cm,rfl,-⟩:=em;obtain ⟨E,L,va,vh,rfl,D,y0,y1,y2,y3,y4,y5,y6,y7,y8,sa,sh,-,-,-⟩:=EM.o.atM j hj;have ae:=ag sa;obtain ⟨ah,ai,rfl,-⟩:=sa;obtain ⟨a1,a2,rfl,-⟩:=sh;have ac:Hid (∀W,Below w.heap.size w W->Calls Tryz.prog 302 #[.slice V m.args.length X,.slice ah (b8 l c).ar[j].args.length ai] W fun r w'=>r=.returned (.bool (cz dw m.args (b8 l c).ar[j].args))/\∃n,w'=W.drewN n):=fun W hW=>zef W (· <B) (· <B) _ _ _ _ (ea.keptK (Kp.below (hW.mono aa))) (ae.o.keptK (Kp.below (hW.mono aa)));have ak:=kindEql m.ret.kind (b8 l c).ar[j].ret.kind m.ret.da (b8 l c).ar[j].ret.da;have bg:=kindGuard;rw [zed]at ak;have a8:(0:Int)<=j:=by omega
 have a0:(j:Int)<(b8 l c).ar.length:=by omega
 have a6:(0:Int)<=c:=by omega
 have a7:(c:Int)<l.length:=by omega
 have bb:(0:Int)<=k:=by omega
 have bf:(k:Int)<(d7 l n).length:=by omega
 have bh:¬((k:Int)<0):=by omega
 have hB:=ag (show ∀x:Nat,w.heap.size<=w.heap.size+x from fun x=>by omega);rw [hk]at HI;clear sL sU ht ea EM ae ap N hk aj af J;generalize (b8 l c).ar[j]=y at*;generalize (b8 l c).ar.length=ml at*;generalize (d7 l n).length=tl at*;generalize (d9 l n).length=nl at*;generalize cz dw m.args y.args=ek at*;have ad:Hid (dw (⟨m.ret.kind,m.ret.da⟩:ew) ⟨y.ret.kind,y.ret.da⟩=dw m.ret y.ret):=rfl;rw [ad.o]at ak;clear ad;generalize dw m.ret y.ret=er at*;generalize m.static=sx at*;generalize y.static=sy at*;go_enter Tryz.func255,Tryz.ntmps255;go_wp2_with fail;go_quiet (first | (go_at_call 234;exact Calls.quiet_of_same (HI.o _ _)));go_wp2_with fail;generalize hW5:((w.alloc (.cells #[.string m.name,.bool sx,.slice V m.args.length X,.int .i64 m.ret.kind,.string m.ret.da,.int .i64 m.stack,.int .i64 m.locals,.string m.code,.slice ho m.hands.length ch] 159)).drewN nq).alloc (.cells #[.int .i64 c,.int .i64 j] 233)=W5;have A:Below w.heap.size w W5:=hW5 ▸ (I.o _ _).alloc (by show w.heap.size<=(w.alloc _).heap.size;simp) _;have hX:W5.heap[w.heap.size]? =some (.cells #[.string m.name,.bool sx,.slice V m.args.length X,.int .i64 m.ret.kind,.string m.ret.da,.int .i64 m.stack,.int .i64 m.locals,.string m.code,.slice ho m.hands.length ch] 159 (0,0)):=by rw [<-hW5];exact (Below.heap_alloc _ _ _ (by show w.heap.size<(w.alloc _).heap.size;simp)).trans (heap_alloc_new w _)
 have hY:W5.heap[w.heap.size+1]? =some (.cells #[.int .i64 c,.int .i64 j] 233 (0,0)):=by
  have:=heap_alloc_new ((w.alloc (.cells #[.string m.name,.bool sx,.slice V m.args.length X,.int .i64 m.ret.kind,.string m.ret.da,.int .i64 m.stack,.int .i64 m.locals,.string m.code,.slice ho m.hands.length ch] 159)).drewN nq) (.cells #[.int .i64 c,.int .i64 j] 233);rw [hW5]at this;have e:((w.alloc (.cells #[.string m.name,.bool sx,.slice V m.args.length X,.int .i64 m.ret.kind,.string m.ret.da,.int .i64 m.stack,.int .i64 m.locals,.string m.code,.slice ho m.hands.length ch] 159)).drewN nq).heap.size=w.heap.size+1:=by show (w.alloc _).heap.size=_;simp
  rwa [e]at this
 clear hW5;have x1:=ba hX 1 (x:=.bool sx) rfl;have x2:=ba hX 2 (x:=.slice V m.args.length X) rfl;have x3:=ba hX 3 (x:=.int .i64 m.ret.kind) rfl;have x4:=ba hX 4 (x:=.string m.ret.da) rfl;have u0:=ba hY 0 (x:=.int .i64 c) rfl;have u1:=ba hY 1 (x:=.int .i64 j) rfl;have lX:=bz hX;have lY:=bz hY;have q0:=(A.cell (p:=⟨b,0,none⟩) Z).trans c0;have q3:=(A.cell (p:=⟨bc,oc+c*4+3,none⟩) Y).trans d3;have z0:=(A.cell (p:=⟨E,L+j*9,none⟩) D).trans y0;have z1:=(A.cell (p:=⟨E,L+j*9+1,none⟩) D).trans y1;have z2:=(A.cell (p:=⟨E,L+j*9+2,none⟩) D).trans y2;have z3:=(A.cell (p:=⟨E,L+j*9+3,none⟩) D).trans y3;have z4:=(A.cell (p:=⟨E,L+j*9+4,none⟩) D).trans y4;have z5:=(A.cell (p:=⟨E,L+j*9+5,none⟩) D).trans y5;have z6:=(A.cell (p:=⟨E,L+j*9+6,none⟩) D).trans y6;have z7:=(A.cell (p:=⟨E,L+j*9+7,none⟩) D).trans y7;have z8:=(A.cell (p:=⟨E,L+j*9+8,none⟩) D).trans y8;have lb:b<W5.heap.size:=ll3 Z A.size;have lc:bc<W5.heap.size:=ll3 Y A.size;have ly:E<W5.heap.size:=ll3 D A.size;have O:=ag A;clear hX hY A y0 y1 y2 y3 y4 y5 y6 y7 y8 d3 c0 c3 c4 e1 e2 t0 t1 Z aw ax ay Y D HI I hB
 go_region_held3 (fun W'=>∀p:Addr,p.block<W5.heap.size->W'.cell? p=W5.cell? p) (exact fun p hp=>Below.cell (B:=W5.heap.size) (w:=W5) (by repeat (first | exact br _ _ | refine Below.drew ?_ | refine Below.alloc ?_ (by simp<;>omega) _ | refine Below.setCell ?_ (by simp) _)) hp) (fail)
 have G:Hid (∀o q,Below w.heap.size w ((W5.alloc o).drewN q)):=fun o q=>mp (O.o.alloc O.o.size o) q;have av:Hid (∀o,Calls Tryz.prog 302 #[.slice V m.args.length X,.slice ah y.args.length ai] (W5.alloc o).drew fun r w'=>r=.returned (.bool ek)/\∃n,w'=(W5.alloc o).drewN n):=fun o=>(ac.o (W5.alloc o).drew (G.o o 1)).mono fun _ _ ⟨h,n,e⟩=>⟨h,1+n,by rw [e];simp [World.drewN,World.drew,Nat.add_assoc]⟩;clear ac O;rename_i hS1;clear hS1;cases sx with
 | true=>
   go_wp2_with fail;go_ret;exact ⟨by rw [HR.o];rfl,G.o _ 1⟩
 | false=>
   cases sy with
   | true=>
     go_wp2_with fail;go_ret;exact ⟨by rw [HR.o];rfl,G.o _ 1⟩
   | false=>
     cases er with
     | false=>
       go_wp2_with fail;go_ret;exact ⟨by rw [HR.o];rfl,G.o _ 1⟩
     | true=>
       go_wp2_with (go_at_call 302;refine (av.o _).mono ?_;rintro r w9 ⟨rfl,n9,rfl⟩);go_ret;exact ⟨by rw [HR.o];simp,G.o _ n9⟩
theorem zjh (w:World) (B b P I:Nat) (l:List am) (vC vS vF vN vT vL:Value) (Bm:Nat) (G:Web B w b l vC vS vF vN vT vL Bm) (i n:Nat) (hi:i<l.length) (hs:dj l i=n) (u:Value) (m:dx) (hu:ElM B w u m)
 (hP:w.cell? ⟨P,0,none⟩=some (.pointer (some ⟨b,0,none⟩))) (hI:w.cell? ⟨I,0,none⟩=some (.int .i64 i)):
 Calls Tryz.prog 254 #[u,.pointer (some ⟨P,0,none⟩),.pointer (some ⟨I,0,none⟩)] w fun r w'=>r=.returned (.bool (j7 l n m))/\Below w.heap.size w w':=by
 have ac:=World.block_lt_of_cell? w _ hP;have aa:=World.block_lt_of_cell? w _ hI;have hn:n<l.length:=by have:=(za2 l (b8 l i).bq).2;have e:dj l i=num l (b8 l i).bq:=rfl;omega
 have ae:=bz G.blk;have c1:=ba G.blk 1 (x:=vS) rfl;have O:((List.range l.length).map (dj l)).length=l.length:=by simp
 have HM:Hid (∀W,Below w.heap.size w W->Calls Tryz.prog 255 #[.pointer (some ⟨b,0,none⟩),.int .i64 n,u] W fun r w'=>r=.returned (.bool (j7 l n m))/\Below W.heap.size W w'):=fun W J=>zjg W B b l vC vS vF vN vT vL Bm (G.below (J.mono G.le)) n hn u m (hu.below (J.mono G.le));obtain ⟨aS,cS,V,-⟩:=G.sS;rw [O]at V;subst V;obtain ⟨bS,oS,rfl,ad,e1⟩:=G.sS.atI i (by omega);have g1:((List.range l.length).map (dj l))[i]'(by omega)=dj l i:=by simp
 rw [g1,hs]at e1;obtain ⟨X,Y,ho,Z,rfl,-⟩:=hu;have aj:(0:Int)<=i:=by omega
 have ak:(i:Int)<l.length:=by omega
 clear G O g1 hs hn;generalize hV:j7 l n m=rv at*;clear hV;go_enter Tryz.func254,Tryz.ntmps254;go_wp2_with fail;obtain ⟨A,J⟩:∃A,A=w.alloc (.cells #[.string m.name,.bool m.static,.slice X m.args.length Y,.int .i64 m.ret.kind,.string m.ret.da,.int .i64 m.stack,.int .i64 m.locals,.string m.code,.slice ho m.hands.length Z] 159):=⟨_,rfl⟩;have F:Below w.heap.size w A:=J ▸ (br w.heap.size w).alloc (nlq _) _;have D:A.heap[w.heap.size]? =some (.cells #[.string m.name,.bool m.static,.slice X m.args.length Y,.int .i64 m.ret.kind,.string m.ret.da,.int .i64 m.stack,.int .i64 m.locals,.string m.code,.slice ho m.hands.length Z] 159 (0,0)):=J ▸ heap_alloc_new w _;rw [<-J];clear J;have af:Nonempty (Gr A.heap.size A):=⟨⟨A,br _ _⟩⟩;have L:Hid (∀g:Gr A.heap.size A,Calls Tryz.prog 255 #[.pointer (some ⟨b,0,none⟩),.int .i64 n,.agg #[.string m.name,.bool m.static,.slice X m.args.length Y,.int .i64 m.ret.kind,.string m.ret.da,.int .i64 m.stack,.int .i64 m.locals,.string m.code,.slice ho m.hands.length Z]] g.w fun e ai=>e=.returned (.bool rv)/\∃g':Gr A.heap.size A,ai=g'.w):=fun g=>Gr.calls g (nlq _) (HM.o g.w (F.trans (g.ok.mono F.size)));have E:Hid (∀g:Gr A.heap.size A,Below w.heap.size w g.w):=fun g=>F.trans (g.ok.mono F.size);have k0:∀g:Gr A.heap.size A,g.w.cell? ⟨w.heap.size,0,none⟩=some (.string m.name):=fun g=>(g.ok.cell (p:=⟨w.heap.size,0,none⟩) (bz D)).trans (ba D 0 rfl);have k1:∀g:Gr A.heap.size A,g.w.cell? ⟨w.heap.size,1,none⟩=some (.bool m.static):=fun g=>(g.ok.cell (p:=⟨w.heap.size,1,none⟩) (bz D)).trans (ba D 1 rfl);have k2:∀g:Gr A.heap.size A,g.w.cell? ⟨w.heap.size,2,none⟩=some (.slice X m.args.length Y):=fun g=>(g.ok.cell (p:=⟨w.heap.size,2,none⟩) (bz D)).trans (ba D 2 rfl);have k3:∀g:Gr A.heap.size A,g.w.cell? ⟨w.heap.size,3,none⟩=some (.int .i64 m.ret.kind):=fun g=>(g.ok.cell (p:=⟨w.heap.size,3,none⟩) (bz D)).trans (ba D 3 rfl);have k4:∀g:Gr A.heap.size A,g.w.cell? ⟨w.heap.size,4,none⟩=some (.string m.ret.da):=fun g=>(g.ok.cell (p:=⟨w.heap.size,4,none⟩) (bz D)).trans (ba D 4 rfl);have k5:∀g:Gr A.heap.size A,g.w.cell? ⟨w.heap.size,5,none⟩=some (.int .i64 m.stack):=fun g=>(g.ok.cell (p:=⟨w.heap.size,5,none⟩) (bz D)).trans (ba D 5 rfl);have k6:∀g:Gr A.heap.size A,g.w.cell? ⟨w.heap.size,6,none⟩=some (.int .i64 m.locals):=fun g=>(g.ok.cell (p:=⟨w.heap.size,6,none⟩) (bz D)).trans (ba D 6 rfl);have k7:∀g:Gr A.heap.size A,g.w.cell? ⟨w.heap.size,7,none⟩=some (.string m.code):=fun g=>(g.ok.cell (p:=⟨w.heap.size,7,none⟩) (bz D)).trans (ba D 7 rfl);have k8:∀g:Gr A.heap.size A,g.w.cell? ⟨w.heap.size,8,none⟩=some (.slice ho m.hands.length Z):=fun g=>(g.ok.cell (p:=⟨w.heap.size,8,none⟩) (bz D)).trans (ba D 8 rfl);have kP:∀g:Gr A.heap.size A,g.w.cell? ⟨P,0,none⟩=some (.pointer (some ⟨b,0,none⟩)):=fun g=>((E.o g).cell (p:=⟨P,0,none⟩) ac).trans hP;have kI:∀g:Gr A.heap.size A,g.w.cell? ⟨I,0,none⟩=some (.int .i64 i):=fun g=>((E.o g).cell (p:=⟨I,0,none⟩) aa).trans hI;have kb:∀g:Gr A.heap.size A,g.w.cell? ⟨b,1,none⟩=some (.slice (some ⟨bS,oS,none⟩) l.length cS):=fun g=>((E.o g).cell (p:=⟨b,1,none⟩) ae).trans c1;have kS:∀g:Gr A.heap.size A,g.w.cell? ⟨bS,oS+i,none⟩=some (.int .i64 n):=fun g=>((E.o g).cell (p:=⟨bS,oS+i,none⟩) ad).trans e1;clear HM D F hP hI c1 e1;refine zev A.heap.size A (by kernel_rfl) (by kernel_rfl) (br _ _) ?_
 repeat (go_big_quiet_step (first | (exact L.o _)))
 refine wpQuiet_nil ?_;intro _ ah;obtain ⟨g,rfl⟩:=ah;have N:=ag (E.o g);generalize g.w=w2 at*;clear k0 k1 k2 k3 k4 k5 k6 k7 k8 kP kI kb kS af L E;go_wp2_with fail;go_ret;exact ⟨rfl,N.o⟩
theorem zji (w:World) (B b:Nat) (l:List am) (vC vS vF vN vT vL:Value) (Bm:Nat) (hw:Web B w b l vC vS vF vN vT vL Bm) (av:ld l=true):
 Calls Tryz.prog 211 #[.pointer (some ⟨b,0,none⟩)] w fun r w'=>r=.returned (.bool (ll l))/\Below w.heap.size w w':=by
 have a4:=np Tryz.prog;have c0:=hw.cell0;have a3:=bz hw.blk;have F:=hw.le;have HW:=ag hw;have HV:=ag hw.sC;have aw:=ag av;obtain ⟨ao,cl,rfl,-,az,-⟩:=hw.sC;unfold maxLen at az;have af:=ag (fun o=>(br w.heap.size w).alloc (nlq _) o);clear hw av
 let step:Nat->Bool:=fun i=>decide ((b8 l i).bq=(⟨#[]⟩:ByteArray))||(b8 l i).ar.all (j7 l (dj l i).toNat)
 have aj:Hid (ll l=(List.range l.length).all step):=rfl;go_enter Tryz.func211,Tryz.ntmps211;go_wp2_with fail;obtain ⟨I,X⟩:∃I,I=w.alloc (.cells #[.pointer (some ⟨b,0,none⟩)] 148):=⟨_,rfl⟩;have Y:Hid (Below w.heap.size w I):=X ▸ af.o _;have an:I.cell? ⟨w.heap.size,0,none⟩=some (.pointer (some ⟨b,0,none⟩)):=by rw [X];simp [go_sem]
 have aq:w.heap.size<I.heap.size:=World.block_lt_of_cell? I _ an;rw [<-X];clear X af;go_loopw [11] (fun i wr=>∃k:Nat,k<=l.length/\i=.int .i64 k/\Hid ((∀j,j<k->step j=true)/\Below I.heap.size I wr)) (fun i _=>l.length - (intOf i).toNat)
 case atStart=>exact ⟨0,n0q _,rfl,(fun _ h=>by omega),br _ _⟩
 case round=>
  obtain ⟨k,hk,rfl,HQ⟩:=hrel;have ae:I.heap.size<=wr.heap.size:=HQ.o.2.size;have D:Hid (Below w.heap.size w wr):=Y.o.trans (HQ.o.2.mono Y.o.size);by_cases G:k<l.length
  ·obtain ⟨bc,oc,vf,vm,rfl,a2,e0,e1,e2,e3,ef,em,ak,al⟩:=(HV.o.keptC (Kp.below (D.o.mono F))).atC k G;have EM:=ag em;obtain ⟨fo,cf,rfl,-⟩:=ef;obtain ⟨mo,cm,rfl,-⟩:=em;have O:Hid (step k=(decide (l[k].bq=(⟨#[]⟩:ByteArray))||l[k].ar.all (j7 l (dj l k).toNat))):=by show step k=_;simp only [step,zay G]
   have a0:(0:Int)<=k:=by omega
   have a1:(k:Int)<l.length:=by omega
   have aa:Hid (step k=true->∀w',Below wr.heap.size wr w'->(∀j,j<k+1->step j=true)/\Below I.heap.size I w'):=fun h w' hb=>⟨fun j hj=>by
    by_cases ay:j<k
    ·exact HQ.o.1 j ay
    have:j=k:=by omega
    rw [this];exact h,HQ.o.2.trans (hb.mono ae)⟩
   have ai:Hid (step k=false->∀w',Below wr.heap.size wr w'->ll l=false/\Below w.heap.size w w'):=fun h w' hb=>⟨by
    rw [aj.o,List.all_eq_false];exact ⟨k,List.mem_range.2 G,by simp [h]⟩,D.o.trans (hb.mono (lt3 Y.o.size ae))⟩
   have E:Hid (∀o L,Below wr.heap.size wr ((wr.alloc o).alloc L)):=fun o L=>((br _ _).alloc (nlq _) o).alloc (by simp) L;have ap:wr.cell? ⟨w.heap.size,0,none⟩=some (.pointer (some ⟨b,0,none⟩)):=(HQ.o.2.cell (p:=⟨w.heap.size,0,none⟩) aq).trans an;by_cases A:l[k].bq=⟨#[]⟩
   ·have au:=zcb A;have Z:=ag (aa.o (by rw [O.o];simp [A]));clear A O aa ai ak al;go_wp2_with fail;go_roundw
    case rel=>exact ⟨k+1,by omega,by go_num,Z.o _ (E.o _ _)⟩
    case measure=>simp [intOf];omega
   have au:l[k].bq.toList.isEmpty=false:=by
    cases hq:l[k].bq.toList with
    | nil=>exact absurd (zca hq) A
    | cons _ _=>rfl
   obtain ⟨n,hn⟩:∃n:Nat,dj l k=n:=by
    have h1:=List.all_eq_true.1 aw.o l[k] (gm G);have h2:kw l l[k].bq=true:=by simpa [A]using h1
    have h3:0<=dj l k:=by rw [dj,zay G];simpa [kw]using h2
    exact ⟨(dj l k).toNat,by omega⟩
   have V:Hid (step k=l[k].ar.all (j7 l n)):=by show step k=_;rw [O.o,hn];simp [A]
   have ah:Hid (∀o L,Calls Tryz.prog 245 #[.slice mo l[k].ar.length cm,.func (.func 254) #[] #[.pointer (some ⟨w.heap.size,0,none⟩),.pointer (some ⟨wr.heap.size,0,none⟩)]] ((wr.alloc (.cells #[.int .i64 k] o)).alloc L) fun r w'=>r=.returned (.bool (l[k].ar.all (j7 l n)))/\Below ((wr.alloc (.cells #[.int .i64 k] o)).alloc L).heap.size ((wr.alloc (.cells #[.int .i64 k] o)).alloc L) w'):=fun o L=>by
    have ac:=E.o (.cells #[.int .i64 k] o) L;have ad:Below B w ((wr.alloc (.cells #[.int .i64 k] o)).alloc L):=(D.o.mono F).trans (ac.mono (lt3 F D.o.size));refine zc5 _ B _ l[k].ar (EM.o.keptM (Kp.below (ac.mono (lt3 F D.o.size)))) (lt3 F ad.size) 254 #[] _ (j7 l n) (fun args w=>by kernel_rfl) ?_;intro x _ u W X hu;have ax:((wr.alloc (.cells #[.int .i64 k] o)).alloc L).cell? ⟨wr.heap.size,0,none⟩=some (.int .i64 k):=by refine (World.cell?_alloc_past _ _ _ (by simp)).trans ?_;simp [go_sem]
    exact zjh W B b w.heap.size wr.heap.size l _ vS vF vN vT vL Bm (HW.o.below (ad.trans (X.mono (lt3 F ad.size)))) k n G hn u x hu
     ((X.cell (p:=⟨w.heap.size,0,none⟩) (by simp;omega)).trans ((ac.cell (p:=⟨w.heap.size,0,none⟩) (ll3 aq ae)).trans ap)) ((X.cell (p:=⟨wr.heap.size,0,none⟩) (by simp;omega)).trans ax)
   clear A O ak al hn EM;generalize l[k].ar.all (j7 l n)=rv at*;cases rv with
   | true=>
     have Z:=ag (aa.o V.o);go_wp2_with (go_at_call 245;refine (ah.o _ _).mono ?_;rintro r w9 ⟨rfl,J⟩);have N:=ag (Z.o w9 ((E.o _ _).trans (J.mono (E.o _ _).size)));clear J;go_wp2_with fail;go_roundw
     case rel=>exact ⟨k+1,by omega,by go_num,N.o⟩
     case measure=>simp [intOf];omega
   | false=>
     have Z:=ag (ai.o V.o);go_wp2_with (go_at_call 245;refine (ah.o _ _).mono ?_;rintro r w9 ⟨rfl,J⟩);have N:=ag (Z.o w9 ((E.o _ _).trans (J.mono (E.o _ _).size)));clear J;go_wp2_with fail;go_ret;exact ⟨by rw [N.o.1];rfl,N.o.2⟩
  have Z:Hid (ll l=true):=by show ll l=true;rw [aj.o,List.all_eq_true];exact fun j hj=>HQ.o.1 j (by have:=List.mem_range.1 hj;omega)
  go_wp2_with fail;go_ret;exact ⟨by rw [Z.o];rfl,D.o⟩
end Go.Proofs.YtjdnmblggdobgaaGreat
namespace Go.Proofs.YtjdnmblggdobgaaGreat
open Go.RowKit Go.Sort
theorem Tryz.infoL:(Tryz.prog.info? 22).map (fun i=>(i.zero,i.size,i.bytes))=some (some (.slice none 0 0),1,24):=by kernel_rfl
theorem Tryz.infoFs:(Tryz.prog.info? 126).map (fun i=>(i.zero,i.size,i.bytes))=some (some (.slice none 0 0),1,24):=by kernel_rfl
theorem Tryz.infoNs:(Tryz.prog.info? 225).map (fun i=>(i.zero,i.size,i.bytes))=some (some (.slice none 0 0),1,24):=by kernel_rfl
theorem Tryz.infoTs:(Tryz.prog.info? 226).map (fun i=>(i.zero,i.size,i.bytes))=some (some (.slice none 0 0),1,24):=by kernel_rfl
def isup (l:List am) (k:Nat):List Value:=(List.range k).map fun n=>Value.int .i64 (dj l n)
theorem zjj (l:List am) (k:Nat):isup l (k+1)=isup l k++ [.int .i64 (dj l k)]:=by simp [isup,List.range_succ]
theorem zjk {α:Type} (f:Nat->α) (k:Nat):(List.range (k+1)).map f=(List.range k).map f++ [f k]:=by simp [List.range_succ]
theorem numberB (w:World) (b:Nat) (l:List am) (s:ByteArray) (A:Nums w b l) (D:s.size<=maxLen):
 Calls Tryz.prog 199 #[.pointer (some ⟨b,0,none⟩),.string s] w fun r w'=>r=.returned (.int .i64 (num l s))/\Below w.heap.size w w':=
 (numberN w b l s A D).mono fun _ _ ⟨h1,u⟩=>⟨h1,u ▸ br _ _⟩
theorem ia.drew {w:World} {b:Nat} {l:List am} (h:ia w b l):ia w.drew b l:=by obtain ⟨D,h,u⟩:=h;exact ⟨D,h.drew,u⟩
theorem zjl {w:World} {X:Nat} {v:Value} {l:List am} (h:w.ownsRow (X+2) 3 1 v l.length (isup l l.length)) (E:l.length<=1000):SL 1 RI (MT X [3] w) w v ((List.range l.length).map (dj l)):=by
 have u:((List.range l.length).map fun n=>([Value.int .i64 (dj l n)],dj l n)).length=l.length:=by simp
 have A:((List.range l.length).map fun n=>([Value.int .i64 (dj l n)],dj l n)).flatMap (·.1)=isup l l.length:=by
  rw [List.flatMap_map,isup];generalize List.range l.length=r;induction r with
  | nil=>rfl
  | cons x r ih=>rw [List.flatMap_cons,ih];rfl
 have:=ze4 (n:=1) (R:=RI) (T:=[3]) (zs:=(List.range l.length).map fun n=>([Value.int .i64 (dj l n)],dj l n)) (by rw [u,A];exact zbi h (B':=X) (by omega)) (fun z u=>by
  obtain ⟨s,D,rfl⟩:=List.mem_map.1 u;exact ⟨rfl,rfl⟩) (by simp) (by rw [u];unfold maxLen;omega)
 rwa [List.map_map]at this
structure WebM (M:Nat->Prop) (w:World) (b:Nat) (l:List am) (vC vS vF vN vT vL:Value) (Bm:Nat):Prop where
 bM:M b
 mM:M Bm
 le:∀k,M k->k<w.heap.size
 blk:w.heap[b]? =some (.cells #[vC,vS,vF,vN,vT,.map (some Bm),vL] 155 (0,0))
 sC:SL 4 RC (fun k=>M k/\k≠b) w vC l
 sS:SL 1 RI (fun k=>M k/\k≠b) w vS ((List.range l.length).map (dj l))
 sF:SL 1 (jv 3 RF) (fun k=>M k/\k≠b) w vF ((List.range l.length).map (fieldsOf l))
 sN:SL 1 (jv 1 RS) (fun k=>M k/\k≠b) w vN ((List.range l.length).map (d9 l))
 sT:SL 1 (jv 2 RT) (fun k=>M k/\k≠b) w vT ((List.range l.length).map (d7 l))
 sL:SL 1 (jv 1 RO) (fun k=>M k/\k≠b) w vL ((List.range l.length).map (di l))
 nm:ia w Bm l
theorem WebM.kp {M:Nat->Prop} {w w':World} {b:Nat} (u:Kp M w w'):Kp (fun k=>M k/\k≠b) w w':=⟨u.size,fun k h A=>u.block k h.1 A⟩
theorem WebM.kept {M:Nat->Prop} {w w':World} {b:Nat} {l:List am} {G N I L O J:Value} {E:Nat} (h:WebM M w b l G N I L O J E) (F:Kp M w w'):WebM M w' b l G N I L O J E:=
 have u:=WebM.kp (b:=b) F
 ⟨h.bM,h.mM,fun k X=>ll3 (h.le k X) F.size,(F.block b h.bM (h.le b h.bM)).trans h.blk,h.sC.keptC u,h.sS.keptI u,h.sF.keptSl u fun _ _ h=>h,h.sN.keptSl u fun _ _ h=>h,h.sT.keptSl u fun _ _ h=>h,h.sL.keptSl u fun _ _ h=>h,by
  obtain ⟨D,⟨V,A,e,h'⟩,W⟩:=h.nm;exact ⟨D,⟨V,A,(F.block E h.mM (h.le E h.mM)).trans e,h'⟩,W⟩⟩
theorem WebM.mono {M M':Nat->Prop} {w:World} {b:Nat} {l:List am} {E J F I L G:Value} {D:Nat} (h:WebM M w b l E J F I L G D) (A:∀k,M k->M' k) (N:∀k,M' k->k<w.heap.size):WebM M' w b l E J F I L G D:=
 have u:∀k,(M k/\k≠b)->(M' k/\k≠b):=fun k h=>⟨A k h.1,h.2⟩
 ⟨A _ h.bM,A _ h.mM,N,h.blk,h.sC.monoC u,h.sS.monoI u,h.sF.monoSl u fun _ _ h=>h,h.sN.monoSl u fun _ _ h=>h,h.sT.monoSl u fun _ _ h=>h,h.sL.monoSl u fun _ _ h=>h,h.nm⟩
theorem WebM.web {M:Nat->Prop} {w:World} {b:Nat} {l:List am} {D I E G J F:Value} {A:Nat} (h:WebM M w b l D I E G J F A):Web w.heap.size w b l D I E G J F A:=
 have u:∀k,(M k/\k≠b)->k<w.heap.size:=fun k L=>h.le k L.1
 ⟨h.le _ h.bM,h.le _ h.mM,nlq _,h.blk,h.sC.monoC u,h.sS.monoI u,h.sF.monoSl u fun _ _ h=>h,h.sN.monoSl u fun _ _ h=>h,h.sT.monoSl u fun _ _ h=>h,h.sL.monoSl u fun _ _ h=>h,h.nm⟩
theorem zjm (w:World) (B:Nat) (l:List am) (v:Value) (hv:SL 4 RC (· <B) w v l) (hB:B<=w.heap.size) (bi:dt l=0):
 Calls Tryz.prog 160 #[v] w fun r w'=>r=.returned (.pointer (some ⟨w.heap.size+1,0,none⟩))/\Below w.heap.size w w'/\∃vS vF vN vT vL,WebM (fun k=>(k<B\/w.heap.size<=k)/\k<w'.heap.size) w' (w.heap.size+1) l v vS vF vN vT vL w.heap.size:=by
 obtain ⟨iI,eg,cx,cy,c0⟩:=info_parts Tryz.infoInt;obtain ⟨iL,eh,c1,c2,c3⟩:=info_parts Tryz.infoL;obtain ⟨iF,ee,cs,ct,cv⟩:=info_parts Tryz.infoFs;obtain ⟨iN,ei,c4,c5,c6⟩:=info_parts Tryz.infoNs;obtain ⟨iT,ej,c7,c8,c9⟩:=info_parts Tryz.infoTs;have eq:=@run_makeMap Tryz.prog;obtain ⟨hN,a2⟩:=zgm bi;have b4:=ag a2;have HV:=ag hv;obtain ⟨ao,cl,rfl,-⟩:=hv;clear bi a2;have ci:Below w.heap.size w ((w.alloc (.map #[] 0)).alloc (.cells #[.slice ao l.length cl,.slice none 0 0,.slice none 0 0,.slice none 0 0,.slice none 0 0,.map (some w.heap.size),.slice none 0 0] 155)):=((br _ _).alloc (nlq _) _).alloc (by simp) _;have cn:((w.alloc (.map #[] 0)).alloc (.cells #[.slice ao l.length cl,.slice none 0 0,.slice none 0 0,.slice none 0 0,.slice none 0 0,.map (some w.heap.size),.slice none 0 0] 155)).heap[w.heap.size+1]? =some (.cells #[.slice ao l.length cl,.slice none 0 0,.slice none 0 0,.slice none 0 0,.slice none 0 0,.map (some w.heap.size),.slice none 0 0] 155 (0,0)):=by have:=heap_alloc_new (w.alloc (.map #[] 0)) (.cells #[.slice ao l.length cl,.slice none 0 0,.slice none 0 0,.slice none 0 0,.slice none 0 0,.map (some w.heap.size),.slice none 0 0] 155);simpa using this
 have cp:ia ((w.alloc (.map #[] 0)).alloc (.cells #[.slice ao l.length cl,.slice none 0 0,.slice none 0 0,.slice none 0 0,.slice none 0 0,.map (some w.heap.size),.slice none 0 0] 155)) w.heap.size []:=⟨_,(World.ownsMap_made w _ _ _).alloc _,zcd⟩;have ca:=ag (And.intro ci (And.intro cn cp));clear ci cn cp;generalize hXX:w.heap.size=X at*;go_enter Tryz.func160,Tryz.ntmps160;go_wp2_with fail;go_loopw [21] (fun i wr=>∃k:Nat,k<=l.length/\i=.int .i64 k/\Hid (Below X w wr/\wr.heap[X+1]? =some (.cells #[.slice ao l.length cl,.slice none 0 0,.slice none 0 0,.slice none 0 0,.slice none 0 0,.map (some X),.slice none 0 0] 155 (0,0))/\ia wr X (l.take k))) (fun i _=>l.length - (intOf i).toNat)
 case atStart=>exact ⟨0,n0q _,rfl,ca.o⟩
 case round=>
  obtain ⟨k,hk,rfl,ay⟩:=hrel;clear ca;obtain ⟨Z,I,af⟩:=ay.o;have ak:X<=wr.heap.size:=by have:=Z.size;omega
  have ae:X+1<wr.heap.size:=bz I;by_cases ap:k<l.length
  ·obtain ⟨b,off,vf,vm,rfl,hb,e0,e1,e2,e3,ef,em,a9,bb⟩:=(HV.o.keptC (Kp.below (Z.mono hB))).atC k ap;obtain ⟨fo,cf,rfl,-⟩:=ef;obtain ⟨mo,cm,rfl,-⟩:=em;have m5:=ba I 5 (x:=.map (some X)) rfl;obtain ⟨D,Y,hD⟩:=af;have bf:(l.take k).length=k:=by simp;omega
   have bk:keyOf Tryz.prog 9 (.string l[k].name)=some (key l[k].name):=Go.WideMaps.keyOf_string_mk Tryz.underlying9 a9;obtain ⟨w2,en,aq,b1⟩:=World.ownsMap.update (w:=(wr.alloc (.cells #[.string l[k].name,.string l[k].bq,.slice fo l[k].fields.length cf,.slice mo l[k].ar.length cm] 162)).drew) ((Y.alloc _).drew) law9 Tryz.underlying152 (by rw [bf];unfold maxLen;omega) bk (plainElem_int (H:=Unit) Tryz.underlying3 (a:=(k:Int)) (WalkArith.wf_i64 (by omega)));have b0:=zce hD (Y.tidy law9) l[k];have dz:Hid (Below X w w2/\w2.heap[X+1]? =some (.cells #[.slice (some ⟨b,off,none⟩) l.length cl,.slice none 0 0,.slice none 0 0,.slice none 0 0,.slice none 0 0,.map (some X),.slice none 0 0] 155 (0,0))/\ia w2 X (l.take (k+1))):=by
    refine ⟨((Z.alloc ak (.cells #[.string l[k].name,.string l[k].bq,.slice fo l[k].fields.length cf,.slice mo l[k].ar.length cm] 162)).drew).grown b1 (by show X<=(wr.alloc _).heap.size;simp;omega) (fun q e=>by cases e;exact nlq _),?_,?_⟩
    ·rw [b1.block (X+1) (by show X+1<(wr.alloc _).heap.size;simp;omega) (by simp)];exact (Below.heap_alloc _ _ _ ae).trans I
    rw [List.take_succ_eq_append_getElem ap];rw [bf]at b0 aq;refine ⟨_,?_,b0⟩;rw [List.length_append,bf];exact aq
   clear Y aq b1 hD b0 bk I bf a9 bb;have ce:(0:Int)<=k:=by omega
   have ch:(k:Int)<l.length:=by omega
   go_wp2_with fail;go_region
   all_goals
    go_wp2_with fail;go_roundw
    case rel=>exact ⟨k+1,by omega,by go_num,dz.o⟩
    case measure=>simp [intOf];omega
  have b6:Hid (ia wr X l):=by have:=af;rwa [List.take_of_length_le (by omega)]at this
  have b3:=ag Z;have b5:=ag I;clear Z I af ay;go_wp2_with fail;go_loopw [36] (fun i wr=>∃(k:Nat) (vS:Value),k<=l.length/\i=.int .i64 k/\Hid (Below X w wr/\wr.heap[X+1]? =some (.cells #[.slice ao l.length cl,vS,.slice none 0 0,.slice none 0 0,.slice none 0 0,.map (some X),.slice none 0 0] 155 (0,0))/\ia wr X l/\wr.ownsRow (X+2) 3 1 vS k (isup l k))) (fun i _=>l.length - (intOf i).toNat)
  case atStart=>exact ⟨0,_,n0q _,rfl,b3.o,b5.o,b6.o,World.ownsRow_nil _ _ _ _⟩
  case round=>
   clear b3 b5 b6 ak ae
   rename World=>wr
   obtain ⟨k,vS,hk,rfl,ay⟩:=hrel;obtain ⟨Z,I,af,Y⟩:=ay.o;have ak:X<=wr.heap.size:=by have:=Z.size;omega
   have ae:X+1<wr.heap.size:=bz I;by_cases a3:k<l.length
   ·obtain ⟨b,off,vf,vm,rfl,hb,e0,e1,e2,e3,ef,em,a9,bb⟩:=(HV.o.keptC (Kp.below (Z.mono hB))).atC k a3;obtain ⟨fo,cf,rfl,-⟩:=ef;obtain ⟨mo,cm,rfl,-⟩:=em;have m1:=ba I 1 (x:=vS) rfl;have d6:Hid (num l l[k].bq=dj l k):=by show _=_;rw [dj,zay a3]
    have d3:Hid (Nums (wr.alloc (.cells #[.string l[k].name,.string l[k].bq,.slice fo l[k].fields.length cf,.slice mo l[k].ar.length cm] 162)).drew (X+1) l):=⟨X,(World.cell?_alloc_past (w:=wr) _ (X+1) 5 ae).trans (ba I 5 rfl),(af.kept (row:=none) (World.grownBy_alloc wr _ _) (by simp)).drew⟩;have dl:=ag I;have d4:=ag Y;have d2:=ag af;have ds:=ag bb;have dk:=ag Z;have ce:(0:Int)<=k:=by omega
    have ch:(k:Int)<l.length:=by omega
    clear I Y af a9 bb Z ay
    go_upto_region 11 with fail
    go_region_law (first
     | (refine step_append_lies _ (by rfl) (.tmp 45) (.tmp 50) 22 (by rfl) (X+2) 3 iI (.int .i64 0) 1 8 Tryz.underlying22 eg cx cy c0 rfl (by decide) vS k (isup l k) (by rfl) (V.o.alloc _) ⟨O.heap.size,0,none⟩ 1 1 [.int .i64 (num l l[k].bq)] (by rfl) rfl (World.news_of_block (heap_alloc_new O _)) (by intro u hu;simp at hu;subst hu;rfl) (by decide) J.o.1 J.o.2.1 J.o.2.2 _ rfl ?_;intro gA cA w9 E A _ aj;have G:∀q,vS.ownBlock=some q->X+2<=q:=fun q e=>(V.o.lt q e).1;have F:=(A.block (X+1) (by simp;omega) (fun e=>by have:=G _ e.symm;omega)).trans ((Below.heap_alloc _ _ _ al).trans L.o);have m9:=ba F 1 (x:=vS) rfl;have z9:=nu F 1;have a4:=bz F;have ah:=ag (And.intro E (And.intro A F));clear E A F G)
     | (go_simp;go_wp2_with (go_at_call 199;refine (numberB _ (X+1) l l[k].bq d3.o ds.o).mono ?_;rintro r O ⟨rfl,N⟩;have L:=ag ((N.block (X+1) (by show X+1<(wr.alloc _).heap.size;simp;omega)).trans ((Below.heap_alloc wr _ _ ae).trans dl.o));have V:=ag (kg ((d4.o.alloc (.cells #[.string l[k].name,.string l[k].bq,.slice fo l[k].fields.length cf,.slice mo l[k].ar.length cm] 162)).kept (w':=(wr.alloc (.cells #[.string l[k].name,.string l[k].bq,.slice fo l[k].fields.length cf,.slice mo l[k].ar.length cm] 162)).drew) (row:=none) ⟨rfl,rfl,rfl,nlq _,fun _ _ _=>rfl⟩ (by cases vS.ownBlock<;>simp)) N);have m7:=ba L.o 1 (x:=vS) rfl;have al:=bz L.o;have d1:=ag (ia.below ((d2.o.kept (row:=none) (World.grownBy_alloc wr (.cells #[.string l[k].name,.string l[k].bq,.slice fo l[k].fields.length cf,.slice mo l[k].ar.length cm] 162) _) (by simp)).drew) N (by show X<(wr.alloc _).heap.size;simp;omega));have bg:=ag (((dk.o.alloc ak (.cells #[.string l[k].name,.string l[k].bq,.slice fo l[k].fields.length cf,.slice mo l[k].ar.length cm] 162)).drew).trans (N.mono (by show X<=(wr.alloc _).heap.size;simp;omega)));have J:Hid (k+1<=maxLen/\(k+1)*8<=140737488355328/\X+2<=(O.alloc (.cells #[.int .i64 (num l l[k].bq)] 3)).heap.size):=⟨by unfold maxLen;omega,by omega,by simp;omega⟩;clear N)))
    all_goals
     obtain ⟨E,A,F⟩:=ah.o;have G:∀q,vS.ownBlock=some q->X+2<=q:=fun q e=>(V.o.lt q e).1;have bh:Below X w (w9.setCell ⟨X+1,1,none⟩ (.slice (some ⟨gA,0,none⟩) (k+1) cA))/\(w9.setCell ⟨X+1,1,none⟩ (.slice (some ⟨gA,0,none⟩) (k+1) cA)).heap[X+1]? =some (.cells #[.slice (some ⟨b,off,none⟩) l.length cl,.slice (some ⟨gA,0,none⟩) (k+1) cA,.slice none 0 0,.slice none 0 0,.slice none 0 0,.map (some X),.slice none 0 0] 155 (0,0))/\ia (w9.setCell ⟨X+1,1,none⟩ (.slice (some ⟨gA,0,none⟩) (k+1) cA)) X l/\(w9.setCell ⟨X+1,1,none⟩ (.slice (some ⟨gA,0,none⟩) (k+1) cA)).ownsRow (X+2) 3 1 (.slice (some ⟨gA,0,none⟩) (k+1) cA) (k+1) (isup l (k+1)):=by
      have cr:X<=O.heap.size:=by have:=bg.o.size;omega
      refine ⟨((bg.o.alloc cr _).grown A (by simp;omega) (fun q e=>by have:=G q e;omega)).setCell (by simp) _,zg6 F _,?_,?_⟩
      ·exact (((d1.o.kept (row:=none) (World.grownBy_alloc O _ _) (by simp)).kept A (fun e=>by have:=G _ e.symm;omega)).kept (row:=some (X+1)) (nh (World.grownBy.refl _ _) _ _ (Or.inl rfl)) (by simp))
      rw [zjj,<-d6.o];exact ownsRow_setCell_below E (by simp) _
     have ai:=ag bh;clear E A F G bh ah;go_wp2_with fail;go_roundw
     case rel=>exact ⟨k+1,_,by omega,by go_num,ai.o⟩
     case measure=>simp [intOf];omega
   have bc:k=l.length:=by omega
   have sS:=zjl (bc ▸ Y) (by omega);have bn:Hid (Wv w wr l (.slice ao l.length cl) vS (.slice none 0 0) (.slice none 0 0) (.slice none 0 0) (.slice none 0 0) [] [] [] []):=by refine ⟨by rw [hXX];exact Z,by rw [hXX];exact I,by rw [hXX];exact sS,by rw [hXX];exact af,World.ownsRow_nil _ _ _ _,(fun z hz=>by cases hz),World.ownsRow_nil _ _ _ _,(fun z hz=>by cases hz),World.ownsRow_nil _ _ _ _,(fun z hz=>by cases hz),World.ownsRow_nil _ _ _ _,(fun z hz=>by cases hz)⟩
   clear sS Z I af Y ay bc;obtain ⟨aS,cS,ek⟩:∃aS cS,vS=.slice aS l.length cS:=by have:=bn.o.sS;obtain ⟨aS,cS,e,-⟩:=this;exact ⟨aS,cS,by simpa using e⟩
   subst ek;go_wp2_with fail;have d0:Hid (True):=trivial;go_loopw [58] (fun i wr=>∃(k:Nat) (vF vN vT vL:Value) (zF:List (List Value×List bo)) (zN:List (List Value×List ByteArray)) (zT:List (List Value×List cd)) (zL:List (List Value×List Nat)),k<=l.length/\i=.int .i64 k/\Hid (Wv w wr l (.slice ao l.length cl) (.slice aS l.length cS) vF vN vT vL zF zN zT zL)/\
    Hid (zF.map (·.2)=(List.range k).map (fieldsOf l)/\zN.map (·.2)=(List.range k).map (d9 l)/\zT.map (·.2)=(List.range k).map (d7 l)/\zL.map (·.2)=(List.range k).map (di l))) (fun i _=>l.length - (intOf i).toNat)
   case atStart=>exact ⟨0,_,_,_,_,[],[],[],[],n0q _,rfl,bn.o,rfl,rfl,rfl,rfl⟩
   case round=>
    clear bn ak ae a3 hk ap d0
    rename World=>wr
    obtain ⟨k,vF,vN,vT,vL,zF,zN,zT,zL,hk,rfl,HW,HZ⟩:=hrel;have ae:X+1<wr.heap.size:=by have:=HW.o.lt;omega
    have ak:X<=wr.heap.size:=by omega
    have co:zF.length=k/\zN.length=k/\zT.length=k/\zL.length=k:=by obtain ⟨h1,h2,h3,h4⟩:=HZ.o;have g1:=congrArg List.length h1;have g2:=congrArg List.length h2;have g3:=congrArg List.length h3;have g4:=congrArg List.length h4;simp at g1 g2 g3 g4;exact ⟨g1,g2,g3,g4⟩
    have az:=ag co;clear co;by_cases ap:k<l.length
    ·have ce:(0:Int)<=k:=by omega
     have ch:(k:Int)<l.length:=by omega
     have a0:=ag (HW.o.grow ((br wr.heap.size wr).drew));have m6:wr.cell? ⟨X+1,6,none⟩=some vL:=by have:=HW.o.cell 6 (x:=vL) rfl;rwa [hXX]at this
     go_upto_region 16 with fail
     go_cut [] (fun W=>∃aw ad,Wv w W l (.slice ao l.length cl) (.slice aS l.length cS) vF vN vT aw zF zN zT ad/\ad.map (·.2)=(List.range (k+1)).map (di l))
     case first=>
      go_region_law (first
       | (refine step_append_lies _ (by rfl) (.tmp 65) (.tmp 69) 153 (by rfl) (X+2) 22 iL (.slice none 0 0) 1 24 Tryz.underlying153 eh c1 c2 c3 rfl (by decide) vL zL.length (zL.flatMap (·.1)) (by rfl) (V.o.alloc _) ⟨O.heap.size,0,none⟩ 1 1 [.slice au (di l k).length cu] (by rfl) rfl (World.news_of_block (heap_alloc_new O _)) (by intro u hu;simp at hu;subst hu;rfl) (by decide) J.o.1 J.o.2.1 J.o.2.2 _ rfl ?_;intro gA cA w9 E A _ aj;have G:∀q,vL.ownBlock=some q->X+2<=q:=fun q e=>(V.o.lt q e).1;have F:=(A.block (X+1) (by simp;omega) (fun e=>by have:=G _ e.symm;omega)).trans ((Below.heap_alloc _ _ _ al).trans L.o);have m9:=ba F 6 (x:=vL) rfl;have z9:=nu F 6;have a4:=bz F;have ah:=ag (And.intro E A);clear E A F G)
       | (go_simp;go_wp2_with (go_at_call 200;refine (zf7 _ wr.heap.size (X+1) l k ap ao cl (.slice aS l.length cS) (hXX ▸ a0.o.cell 0 rfl) (hXX ▸ a0.o.cell 1 rfl) (a0.o.sS.monoI fun _ hk=>hk.lt) (nlq _) hN).mono ?_;rintro r O ⟨N,u7,rfl,an⟩;have ac:=ag (a0.o.grow N);have a1:=ag (an.monoO (M':=MT w.heap.size [3] O) fun _ hk=>hk.more (by rw [hXX];exact ak) (fun _ ht=>ht));obtain ⟨au,cu,rfl,-⟩:=an;have L:Hid (O.heap[X+1]? =_):=hXX ▸ ac.o.blk;have V:Hid (O.ownsRow (X+2) 22 1 vL zL.length (zL.flatMap (·.1))):=hXX ▸ ac.o.oL;have m7:=ba L.o 6 (x:=vL) rfl;have al:=bz L.o;have J:Hid (zL.length+1<=maxLen/\(zL.length+1)*24<=140737488355328/\X+2<=(O.alloc (.cells #[.slice au (di l k).length cu] 22)).heap.size):=(by have hz:=az.o.2.2.2;exact ⟨by unfold maxLen;omega,by omega,by simp;omega⟩);clear N)))
      all_goals
       have ai:=ag (ac.o.addL a1.o (hXX.symm ▸ ah.o.1) ah.o.2);go_wp2_with fail
       go_meet
       exact ⟨_,_,hXX ▸ ai.o,by rw [List.map_append,HZ.o.2.2.2,zjk];rfl⟩
     case rest=>
      clear m6 HW a0 ae ak
      rename World=>W
      obtain ⟨aw,ad,hW,hZ⟩:=hcut;have aa:=ag hW;have bs:=ag hZ;clear hW hZ;have da:ad.length=k+1:=by have:=congrArg List.length bs.o;simpa using this
      have bx:=ag da;clear da;have cj:X+1<W.heap.size:=by have:=aa.o.lt;omega
      have av:X<=W.heap.size:=by omega
      have ax:=ag (aa.o.grow ((br W.heap.size W).drew));have m2:W.cell? ⟨X+1,2,none⟩=some vF:=by have:=aa.o.cell 2 (x:=vF) rfl;rwa [hXX]at this
      have a6:Hid (SL 4 RC (· <X) W.drew (.slice ao l.length cl) l):=(HV.o.keptC (Kp.below (ax.o.below.mono (hXX.symm ▸ hB)))).monoC fun _ (hk:_<B)=>(by omega);have a7:Hid (SL 1 (jv 1 RO) (MT X [3,22] W.drew) W.drew aw (ad.map (·.2))):=hXX ▸ ax.o.rowsL (by have:=bx.o;omega);have a5:Hid (∃h:k<(ad.map (·.2)).length,(ad.map (·.2))[k]=di l k):=⟨by have:=bx.o;simp;omega,by simp only [bs.o];simp⟩
      go_upto_region 17 with fail
      go_cut [] (fun W=>∃df b2,Wv w W l (.slice ao l.length cl) (.slice aS l.length cS) df vN vT aw b2 zN zT ad/\b2.map (·.2)=(List.range (k+1)).map (fieldsOf l))
      case first=>
       go_region_law (first
        | (refine step_append_lies _ (by rfl) (.tmp 78) (.tmp 82) 32 (by rfl) (X+2) 126 iF (.slice none 0 0) 1 24 Tryz.underlying32 ee cs ct cv rfl (by decide) vF zF.length (zF.flatMap (·.1)) (by rfl) (V.o.alloc _) ⟨O.heap.size,0,none⟩ 1 1 [.slice au (fieldsOf l k).length cu] (by rfl) rfl (World.news_of_block (heap_alloc_new O _)) (by intro u hu;simp at hu;subst hu;rfl) (by decide) J.o.1 J.o.2.1 J.o.2.2 _ rfl ?_;intro gA cA w9 E A _ aj;have G:∀q,vF.ownBlock=some q->X+2<=q:=fun q e=>(V.o.lt q e).1;have F:=(A.block (X+1) (by simp;omega) (fun e=>by have:=G _ e.symm;omega)).trans ((Below.heap_alloc _ _ _ al).trans L.o);have m9:=ba F 2 (x:=vF) rfl;have z9:=nu F 2;have a4:=bz F;have ah:=ag (And.intro E A);clear E A F G)
        | (go_simp;go_wp2_with (go_at_call 201;refine (zg5 _ X (X+1) l k ap ao cl (hXX ▸ ax.o.cell 0 rfl) a6.o aw (ad.map (·.2)) (hXX ▸ ax.o.cell 6 rfl) a7.o a5.o.1 a5.o.2 av hN (fun c hc=>(b4.o c hc).2.2.1)).mono ?_;rintro r O ⟨N,u7,rfl,an⟩;have ac:=ag (ax.o.grow N);have a1:=ag (an.monoF (M':=MT w.heap.size [125] O) fun _ hk=>hk.more (by rw [hXX];exact av) (fun _ ht=>ht));obtain ⟨au,cu,rfl,-⟩:=an;have L:Hid (O.heap[X+1]? =_):=hXX ▸ ac.o.blk;have V:Hid (O.ownsRow (X+2) 126 1 vF zF.length (zF.flatMap (·.1))):=hXX ▸ ac.o.oF;have m7:=ba L.o 2 (x:=vF) rfl;have al:=bz L.o;have J:Hid (zF.length+1<=maxLen/\(zF.length+1)*24<=140737488355328/\X+2<=(O.alloc (.cells #[.slice au (fieldsOf l k).length cu] 126)).heap.size):=(by have hz:=az.o.1;exact ⟨by unfold maxLen;omega,by omega,by simp;omega⟩);clear N)))
       all_goals
        have ai:=ag (ac.o.addF a1.o (hXX.symm ▸ ah.o.1) ah.o.2);go_wp2_with fail
        go_meet
        exact ⟨_,_,hXX ▸ ai.o,by rw [List.map_append,HZ.o.1,zjk];rfl⟩
      case rest=>
       clear m2 aa ax cj av a6 a7
       rename World=>W
       obtain ⟨df,b2,hW,hZ⟩:=hcut;have aa:=ag hW;have ea:=ag hZ;clear hW hZ;have cj:X+1<W.heap.size:=by have:=aa.o.lt;omega
       have av:X<=W.heap.size:=by omega
       have a6:Hid (SL 4 RC (· <X) W (.slice ao l.length cl) l):=(HV.o.keptC (Kp.below (aa.o.below.mono (hXX.symm ▸ hB)))).monoC fun _ (hk:_<B)=>(by omega);have a7:Hid (SL 1 (jv 1 RO) (MT X [3,22] W) W aw (ad.map (·.2))):=hXX ▸ aa.o.rowsL (by have:=bx.o;omega)
       go_upto_region 19 with (go_at_call 202;refine (zhi _ X (X+1) l k ap ao cl (hXX ▸ aa.o.cell 0 rfl) a6.o aw (ad.map (·.2)) (hXX ▸ aa.o.cell 6 rfl) a7.o a5.o.1 a5.o.2 av hN (fun c hc=>(b4.o c hc).2.2.2.2.1)).mono ?_;rintro r O ⟨N,u7,t7,rfl,an,dd⟩;have ac:=ag (aa.o.grow N);have a1:=ag (an.monoS (M':=MT w.heap.size [9] O) fun _ hk=>hk.more (by rw [hXX];exact av) (fun _ ht=>ht));have eb:=ag (dd.monoT (M':=MT w.heap.size [233] O) fun _ hk=>hk.more (by rw [hXX];exact av) (fun _ ht=>ht));obtain ⟨au,cu,rfl,-⟩:=an;obtain ⟨bu,du,rfl,-⟩:=dd;clear N)
       have L:Hid (O.heap[X+1]? =_):=hXX ▸ ac.o.blk;have m7:=ba L.o 3 (x:=vN) rfl;have al:=bz L.o;have V:Hid (O.ownsRow (X+2) 225 1 vN zN.length (zN.flatMap (·.1))):=hXX ▸ ac.o.oN;have J:Hid (zN.length+1<=maxLen/\(zN.length+1)*24<=140737488355328/\X+2<=(O.alloc (.cells #[.slice au (d9 l k).length cu] 225)).heap.size):=(by have hz:=az.o.2.1;exact ⟨by unfold maxLen;omega,by omega,by simp;omega⟩)
       go_upto_region 20 with (at_builtin;refine wpList_append_lies _ rfl _ _ 33 rfl (X+2) 225 iN (.slice none 0 0) 1 24 Tryz.underlying33 ei c4 c5 c6 rfl (by decide) vN zN.length (zN.flatMap (·.1)) rfl (V.o.alloc _) ⟨O.heap.size,0,none⟩ 1 1 [.slice au (d9 l k).length cu] rfl rfl (World.news_of_block (heap_alloc_new O _)) (by intro u hu;simp at hu;subst hu;rfl) (by decide) J.o.1 J.o.2.1 J.o.2.2 _ rfl ?_;intro gA cA w9 E A _ aj;have G:∀q,vN.ownBlock=some q->X+2<=q:=fun q e=>(V.o.lt q e).1;have F:=(A.block (X+1) (by simp;omega) (fun e=>by have:=G _ e.symm;omega)).trans ((Below.heap_alloc _ _ _ al).trans L.o);have m9:=ba F 3 (x:=vN) rfl;have z9:=nu F 3;have a4:=bz F;have a8:=ag (ac.o.addN a1.o (hXX.symm ▸ E) A);have hst:Stp w.heap.size [233] O (w9.setCell ⟨X+1,3,none⟩ (.slice (some ⟨gA,0,none⟩) (zN.length+1) cA)):=(((Stp.refl _ _ _).alloc _).trans (Stp.row A (V.o.alloc _) (by decide))).trans (Stp.set F (by decide) 3 _);have d5:=ag ((eb.o.keptT hst.kp).monoT fun _ hk=>hk.step hst);clear E A F G hst)
       rw [hXX]at a8;generalize hW9:w9.setCell ⟨X+1,3,none⟩ (.slice (some ⟨gA,0,none⟩) (zN.length+1) cA)=wz at*;have bm:Hid (wz.heap[X+1]? =_):=hXX ▸ a8.o.blk;have mz:=ba bm.o 4 (x:=vT) rfl;have el:=bz bm.o;have b7:Hid (wz.ownsRow (X+2) 226 1 vT zT.length (zT.flatMap (·.1))):=hXX ▸ a8.o.oT;have bl:Hid (zT.length+1<=maxLen/\(zT.length+1)*24<=140737488355328/\X+2<=(wz.alloc (.cells #[.slice bu (d7 l k).length du] 226)).heap.size):=(by have hz:=az.o.2.2.1;exact ⟨by unfold maxLen;omega,by omega,by simp;omega⟩);clear hW9 m9 z9 a4 aj m7 al
       go_upto_region 21 with (at_builtin;refine wpList_append_lies _ rfl _ _ 34 rfl (X+2) 226 iT (.slice none 0 0) 1 24 Tryz.underlying34 ej c7 c8 c9 rfl (by decide) vT zT.length (zT.flatMap (·.1)) rfl (b7.o.alloc _) ⟨wz.heap.size,0,none⟩ 1 1 [.slice bu (d7 l k).length du] rfl rfl (World.news_of_block (heap_alloc_new wz _)) (by intro u hu;simp at hu;subst hu;rfl) (by decide) bl.o.1 bl.o.2.1 bl.o.2.2 _ rfl ?_;intro gB cB wy E A _ aj;have G:∀q,vT.ownBlock=some q->X+2<=q:=fun q e=>(b7.o.lt q e).1;have F:=(A.block (X+1) (by simp;omega) (fun e=>by have:=G _ e.symm;omega)).trans ((Below.heap_alloc _ _ _ el).trans bm.o);have m9:=ba F 4 (x:=vT) rfl;have z9:=nu F 4;have a4:=bz F;have d8:=ag (a8.o.addT d5.o (hXX.symm ▸ E) A);clear E A F G)
       go_wp2_with fail;go_roundw
       case rel=>exact ⟨k+1,_,_,_,_,_,_,_,_,by omega,by go_num,hXX ▸ d8.o,ea.o,by rw [List.map_append,HZ.o.2.1,zjk];rfl,by rw [List.map_append,HZ.o.2.2.1,zjk];rfl,bs.o⟩
       case measure=>simp [intOf];omega
    have bc:k=l.length:=by omega
    have cc:Hid (WebM (fun k=>(k<B\/X<=k)/\k<wr.heap.size) wr (X+1) l (.slice ao l.length cl) (.slice aS l.length cS) vF vN vT vL X):=by
     obtain ⟨h1,h2,h3,h4⟩:=HZ.o;obtain ⟨g1,g2,g3,g4⟩:=az.o;rw [bc]at h1 h2 h3 h4;have sF:=HW.o.rowsF (by omega);have sN:=HW.o.rowsN (by omega);have sT:=HW.o.rowsT (by omega);have sL:=HW.o.rowsL (by omega);rw [h1]at sF;rw [h2]at sN;rw [h3]at sT;rw [h4]at sL;have ec:=hXX ▸ HW.o.blk;have hM:∀ {T:List Nat},155∉T->∀(k:Nat),MT w.heap.size T wr k->((k<B\/X<=k)/\k<wr.heap.size)/\k≠X+1:=fun hT k hk=>⟨⟨Or.inr (hXX ▸ hk.1),hk.lt⟩,fun e=>by
      obtain ⟨_,c,t,fr,h2,h3⟩:=hk;rw [e,ec]at h2;cases h2;exact hT h3⟩
     exact ⟨⟨Or.inr (by omega),ae⟩,⟨Or.inr (nlq _),by omega⟩,fun _ h=>h.2,hXX ▸ HW.o.blk,(HV.o.keptC (Kp.below (HW.o.below.mono (hXX.symm ▸ hB)))).monoC (fun _ (hk:_<B)=>⟨⟨Or.inl hk,by omega⟩,by omega⟩),HW.o.sS.monoI (hM (by decide)),sF.monoSl (hM (by decide)) (fun _ _ h=>h),sN.monoSl (hM (by decide)) (fun _ _ h=>h),sT.monoSl (hM (by decide)) (fun _ _ h=>h),sL.monoSl (hM (by decide)) (fun _ _ h=>h),hXX ▸ HW.o.nm⟩
    have dg:Hid (Below X w wr):=hXX ▸ HW.o.below;clear HW HZ;go_wp2_with fail;go_ret;exact ⟨rfl,dg.o,_,_,_,_,_,cc.o⟩
end Go.Proofs.YtjdnmblggdobgaaGreat
namespace Go.Proofs.YtjdnmblggdobgaaGreat
open Go.RowKit Go.Maps
structure Far (lo hi:Nat) (W W':World):Prop where
 size:W.heap.size<=W'.heap.size
 block:∀k,k<W.heap.size->(k<lo\/hi<=k)->W'.heap[k]? =W.heap[k]?
theorem Far.trans {lo hi:Nat} {a b c:World} (h:Far lo hi a b) (k:Far lo hi b c):Far lo hi a c:=⟨lt3 h.size k.size,fun i hi u=>(k.block i (ll3 hi h.size) u).trans (h.block i hi u)⟩
theorem Far.grown {lo hi b:Nat} {W u:World} (h:W.grownBy u (some b)) (F:lo<=b) (E:b<hi):Far lo hi W u:=⟨h.size,fun k A D=>h.block k A (by intro e;injection e;omega)⟩
theorem Far.below {lo hi:Nat} {W u:World} (h:Below W.heap.size W u):Far lo hi W u:=⟨h.size,fun k A _=>h.block k A⟩
theorem zjn (w:World) (g:Nat) (cap:Array Value) (W:Value->World->Prop) (V:Int->Int->Prop) (X Q:Nat) (x:Value) (aa:∀args w,(callFunc g args).run Tryz.prog w=.ok (.enter g args) w)
 (ac:w.cell? ⟨X,0,none⟩=some (.func (.func g) #[] cap)) (L:w.cell? ⟨Q,0,none⟩=some x) (hz:w.frozen? ⟨Q,0,none⟩=false)
 (hc:Calls Tryz.prog g cap w fun r D=>Below w.heap.size w D/\((∃v,r=.returned v/\(∃p,v=.pointer p)/\W v D)\/∃e p,r=.panicked [wrongV e p]/\V e p)):
 Calls Tryz.prog 198 #[.pointer (some ⟨X,0,none⟩),.pointer (some ⟨Q,0,none⟩)] w fun r w'=>
  (r=.returned (.tuple #[])/\∃v D,(∃p,v=.pointer p)/\W v D/\w'.cell? ⟨Q,0,none⟩=some v/\w.grownBy w' (some Q)/\D.grownBy w' (some Q)/\Below w.heap.size w D)\/
  (∃e p,r=.panicked [wrongV e p]/\V e p/\Below w.heap.size w w'):=by
 have Y:Q<w.heap.size:=World.block_lt_of_cell? w _ L;have O:=ag hc;clear hc;go_enter Tryz.func198,Tryz.ntmps198;go_wp2_with fail;refine O.o.mono ?_;rintro r A ⟨u,⟨v,rfl,Z,E⟩ | ⟨e,p,rfl,J⟩⟩
 rotate_left
 ·exact ⟨rfl,Or.inr ⟨e,p,rfl,J,u⟩⟩
 have N:A.cell? ⟨Q,0,none⟩=some x:=(u.cell (p:=⟨Q,0,none⟩) Y).trans L;have ad:A.frozen? ⟨Q,0,none⟩=false:=(u.frozen (p:=⟨Q,0,none⟩) Y).trans hz;have G:Hid (A.grownBy (A.setCell ⟨Q,0,none⟩ v) (some Q)):=nh (World.grownBy.refl _ _) _ _ (Or.inl rfl);have HG:Hid (w.grownBy (A.setCell ⟨Q,0,none⟩ v) (some Q)):=nh ⟨u.os,u.tape,u.output,u.size,fun k hk _=>u.block k hk⟩ _ _ (by simp);have F:=ag (World.cell?_setCell_same A ⟨Q,0,none⟩ v N);have I:=ag E;have HB:=ag u;have HT:=ag Z;obtain ⟨vv,rfl⟩:=Z;clear E u L hz O;go_wp2
 go_end0;exact Or.inl ⟨rfl,_,A,HT.o,I.o,F.o,HG.o,G.o,HB.o⟩
theorem callMadeW (args:Array Value) (w:World):(callFunc 198 args).run Tryz.prog w=.ok (.enter 198 args) w:=by kernel_rfl
theorem afterMadeW (w u:World) (x:Value) (h:((((w.alloc (.cells #[x] 213)).alloc (.cells #[.int .i64 0,.int .i64 0] 84)).alloc (.cells #[.pointer none] 148)).alloc (.cells #[.int .i64 0,.int .i64 0] 84)).grownBy u (some (w.heap.size+2))):
 u.heap[w.heap.size+3]? =some (.cells #[.int .i64 0,.int .i64 0] 84 (0,0))/\Below w.heap.size w u/\u.cell? ⟨w.heap.size+1,0,none⟩=some (.int .i64 0)/\u.cell? ⟨w.heap.size+1,1,none⟩=some (.int .i64 0)/\
  (∀j,u.frozen? ⟨w.heap.size+1,j,none⟩=false)/\w.heap.size+4<=u.heap.size:=by
 have A:Below w.heap.size w ((((w.alloc (.cells #[x] 213)).alloc (.cells #[.int .i64 0,.int .i64 0] 84)).alloc (.cells #[.pointer none] 148)).alloc (.cells #[.int .i64 0,.int .i64 0] 84)):=((((br _ _).alloc (nlq _) _).alloc (by simp) _).alloc (by simp;omega) _).alloc (by simp;omega) _;have D:((((w.alloc (.cells #[x] 213)).alloc (.cells #[.int .i64 0,.int .i64 0] 84)).alloc (.cells #[.pointer none] 148)).alloc (.cells #[.int .i64 0,.int .i64 0] 84)).heap.size=w.heap.size+4:=by simp
 refine ⟨?_,nt A h (by omega),?_,?_,?_,by rw [<-D];exact h.size⟩
 ·rw [h.block (w.heap.size+3) (by omega) (by simp)];show ((((w.heap.push _).push _).push _).push _)[w.heap.size+3]? =_;rw [Array.getElem?_push,if_pos (by simp)]
 ·exact h.cell (a:=⟨w.heap.size+1,0,none⟩) (by simp [go_sem]) (by simp)
 ·exact h.cell (a:=⟨w.heap.size+1,1,none⟩) (by simp [go_sem]) (by simp)
 intro j;rw [World.frozen?_of_block (a:=⟨w.heap.size+1,j,none⟩) (h.block (w.heap.size+1) (by omega) (by simp))];simp [go_sem]
theorem zjo (w:World) (g:Nat) (cap:Array Value) (Ok:Value->World->Prop) (No:Int->Int->Prop) (ad:∀args w,(callFunc g args).run Tryz.prog w=.ok (.enter g args) w)
 (hc:∀W,Below w.heap.size w W->W.heap.size=w.heap.size+4->Calls Tryz.prog g cap W fun r N=>Below W.heap.size W N/\((∃v,r=.returned v/\(∃p,v=.pointer p)/\Ok v N)\/∃e p,r=.panicked [wrongV e p]/\No e p))
 (hst:∀v W N,w.heap.size+4<=W.heap.size->Far w.heap.size (w.heap.size+4) W N->Ok v W->Ok v N):
 Calls Tryz.prog 158 #[.func (.func g) #[] cap] w fun r w'=>Below w.heap.size w w'/\w.heap.size+4<=w'.heap.size/\
  ((∃v,r=.returned (.tuple #[v,.agg #[.int .i64 0,.int .i64 0]])/\(∃p,v=.pointer p)/\Ok v w')\/
   (∃e p,r=.returned (.tuple #[.pointer none,.agg #[.int .i64 e,.int .i64 p]])/\No e p)):=by
 have an:=np Tryz.prog;have X:Below w.heap.size w (((w.alloc (.cells #[.func (.func g) #[] cap] 213)).alloc (.cells #[.int .i64 0,.int .i64 0] 84)).alloc (.cells #[.pointer none] 148)):=(((br _ _).alloc (nlq _) _).alloc (by simp) _).alloc (by simp;omega) _;have ac:=X.alloc X.size (.cells #[.int .i64 0,.int .i64 0] 84);have HC:=ag hc;have F:=ag hst;have aa:=ag ad;clear hc hst ad;go_enter Tryz.func158,Tryz.ntmps158;go_wp2_with fail;refine (zb6 198 _ _ (fun D=>∃v,(∃p,v=.pointer p)/\D.cell? ⟨w.heap.size+2,0,none⟩=some v/\Ok v D/\Below w.heap.size w D/\
  (∃x y,D.cell? ⟨w.heap.size+1,0,none⟩=some x/\D.cell? ⟨w.heap.size+1,1,none⟩=some y)/\(∀j,D.frozen? ⟨w.heap.size+1,j,none⟩=false)/\w.heap.size+4<=D.heap.size)
  (fun e p D=>No e p/\D.cell? ⟨w.heap.size+2,0,none⟩=some (.pointer none)/\Below w.heap.size w D/\
  (∃x y,D.cell? ⟨w.heap.size+1,0,none⟩=some x/\D.cell? ⟨w.heap.size+1,1,none⟩=some y)/\(∀j,D.frozen? ⟨w.heap.size+1,j,none⟩=false)/\w.heap.size+4<=D.heap.size) (callMadeW _) ?hc).mono ?_
 case hc=>
  refine (zjn _ g cap Ok No w.heap.size (w.heap.size+2) (.pointer none) aa.o (by simp [go_sem]) (by simp [go_sem]) (by simp [go_sem]) (HC.o _ ac (by simp))).mono ?_;rintro r D (⟨rfl,v,N,hT,I,hc,u,ak,aj⟩ | ⟨e,p,rfl,hd,hb⟩)
  ·obtain ⟨a1,a2,a3,a4,a5,a6⟩:=afterMadeW w D _ u;refine ⟨by simpa using a1,Or.inl ⟨rfl,v,hT,hc,?_,a2,⟨.int .i64 0,.int .i64 0,a3,a4⟩,a5,a6⟩⟩;exact F.o v N D (by have:=aj.size;simp at this;omega) (Far.grown ak (by omega) (by omega)) I
  have al:World.grownBy _ D (some (w.heap.size+2)):=⟨hb.os,hb.tape,hb.output,hb.size,fun k hk _=>hb.block k hk⟩;obtain ⟨a1,a2,a3,a4,a5,a6⟩:=afterMadeW w D _ al;refine ⟨by simpa using a1,Or.inr ⟨e,p,rfl,hd,?_,a2,⟨.int .i64 0,.int .i64 0,a3,a4⟩,a5,a6⟩⟩;exact (hb.cell (p:=⟨w.heap.size+2,0,none⟩) (by simp)).trans (by simp [go_sem])
 rintro r A ⟨D,u,hr⟩;have hz:(((w.alloc (.cells #[.func (.func g) #[] cap] 213)).alloc (.cells #[.int .i64 0,.int .i64 0] 84)).alloc (.cells #[.pointer none] 148)).heap.size=w.heap.size+3:=by simp
 rw [hz]at u;clear X ac hz HC aa;rcases hr with ⟨rfl,v,hT,hc,I,hB,⟨x,y,hx,hy⟩,G,J⟩ | ⟨e,p,rfl,hd,hc,hB,⟨x,y,hx,hy⟩,G,J⟩
 ·have c4:A.cell? ⟨w.heap.size+1+1,0,none⟩=some v:=u.cell hc (by simp);have O:A.cell? ⟨w.heap.size+1,0,none⟩=some x:=u.cell hx (by simp);have V:A.cell? ⟨w.heap.size+1,1,none⟩=some y:=u.cell hy (by simp);have z3:∀j,A.frozen? ⟨w.heap.size+1,j,none⟩=false:=fun j=>(World.frozen?_of_block (a:=⟨w.heap.size+1,j,none⟩) (u.block (w.heap.size+1) (by omega) (by simp))).trans (G j);have E:w.heap.size+4<=A.heap.size:=lt3 J u.size;have ae:w.heap.size+1<A.heap.size:=by omega
  have af:w.heap.size+1+1<A.heap.size:=by omega
  have HT:=ag hT;have Y:Below w.heap.size w A:=nt hB u (by omega);have ah:=ag (F.o v D A J (Far.grown u (by omega) (by omega)) I);obtain ⟨vv,rfl⟩:=hT;clear I hc hx hy G u hB;go_wp2_with fail;go_region
  all_goals
   go_wp2
   obtain ⟨u,q0,q1⟩:=zb5 A (w.heap.size+1) 0 0 (.cells #[.int .i64 0,.int .i64 0] 84) O V;have Z:=nt Y u (by omega);have ai:=ag (F.o _ A _ E (Far.grown u (by omega) (by omega)) ah.o);have L:=lt3 E u.size;generalize ((A.setCell ⟨w.heap.size+1,0,none⟩ (.int .i64 0)).setCell ⟨w.heap.size+1,1,none⟩ (.int .i64 0)).alloc (.cells #[.int .i64 0,.int .i64 0] 84)=W9 at*;exact bodyPost_ret (v:=.tuple #[_,.agg #[.int .i64 0,.int .i64 0]]) (by simp [results,Tryz.results158,go_sem,q0,q1]) rfl ⟨Z.drew,L,Or.inl ⟨_,rfl,HT.o,F.o _ W9 _ L ⟨nlq _,fun _ _ _=>rfl⟩ ai.o⟩⟩
 have c4:A.cell? ⟨w.heap.size+1+1,0,none⟩=some (.pointer none):=u.cell hc (by simp);have O:A.cell? ⟨w.heap.size+1,0,none⟩=some x:=u.cell hx (by simp);have V:A.cell? ⟨w.heap.size+1,1,none⟩=some y:=u.cell hy (by simp);have z3:∀j,A.frozen? ⟨w.heap.size+1,j,none⟩=false:=fun j=>(World.frozen?_of_block (a:=⟨w.heap.size+1,j,none⟩) (u.block (w.heap.size+1) (by omega) (by simp))).trans (G j);have E:w.heap.size+4<=A.heap.size:=lt3 J u.size;have ae:w.heap.size+1<A.heap.size:=by omega
 have af:w.heap.size+1+1<A.heap.size:=by omega
 have HD:=ag hd;have Y:Below w.heap.size w A:=nt hB u (by omega);clear hd hc hx hy G u hB F;go_wp2_with fail;go_region
 all_goals
  go_wp2
  obtain ⟨u,q0,q1⟩:=zb5 A (w.heap.size+1) e p (.cells #[.int .i64 e,.int .i64 p] 84) O V;have Z:=nt Y u (by omega);have L:=lt3 E u.size;generalize ((A.setCell ⟨w.heap.size+1,0,none⟩ (.int .i64 e)).setCell ⟨w.heap.size+1,1,none⟩ (.int .i64 p)).alloc (.cells #[.int .i64 e,.int .i64 p] 84)=W9 at*;exact bodyPost_ret (v:=.tuple #[.pointer none,.agg #[.int .i64 e,.int .i64 p]]) (by simp [results,Tryz.results158,go_sem,q0,q1]) rfl ⟨Z.drew,L,Or.inr ⟨_,_,rfl,HD.o⟩⟩
theorem zjp (w:World) (g:Nat) (cap:Array Value) (W:Value->World->Prop) (V:Int->Int->Prop) (X Q:Nat) (x:Value) (aa:∀args w,(callFunc g args).run Tryz.prog w=.ok (.enter g args) w)
 (ac:w.cell? ⟨X,0,none⟩=some (.func (.func g) #[] cap)) (L:w.cell? ⟨Q,0,none⟩=some x) (hz:w.frozen? ⟨Q,0,none⟩=false)
 (hc:Calls Tryz.prog g cap w fun r D=>Below w.heap.size w D/\((∃v,r=.returned v/\(∃n,v=.int .i64 n)/\W v D)\/∃e p,r=.panicked [wrongV e p]/\V e p)):
 Calls Tryz.prog 127 #[.pointer (some ⟨X,0,none⟩),.pointer (some ⟨Q,0,none⟩)] w fun r w'=>
  (r=.returned (.tuple #[])/\∃v D,(∃n,v=.int .i64 n)/\W v D/\w'.cell? ⟨Q,0,none⟩=some v/\w.grownBy w' (some Q)/\D.grownBy w' (some Q)/\Below w.heap.size w D)\/
  (∃e p,r=.panicked [wrongV e p]/\V e p/\Below w.heap.size w w'):=by
 have Y:Q<w.heap.size:=World.block_lt_of_cell? w _ L;have O:=ag hc;clear hc;go_enter Tryz.func127,Tryz.ntmps127;go_wp2_with fail;refine O.o.mono ?_;rintro r A ⟨u,⟨v,rfl,Z,E⟩ | ⟨e,p,rfl,J⟩⟩
 rotate_left
 ·exact ⟨rfl,Or.inr ⟨e,p,rfl,J,u⟩⟩
 have N:A.cell? ⟨Q,0,none⟩=some x:=(u.cell (p:=⟨Q,0,none⟩) Y).trans L;have ad:A.frozen? ⟨Q,0,none⟩=false:=(u.frozen (p:=⟨Q,0,none⟩) Y).trans hz;have G:Hid (A.grownBy (A.setCell ⟨Q,0,none⟩ v) (some Q)):=nh (World.grownBy.refl _ _) _ _ (Or.inl rfl);have HG:Hid (w.grownBy (A.setCell ⟨Q,0,none⟩ v) (some Q)):=nh ⟨u.os,u.tape,u.output,u.size,fun k hk _=>u.block k hk⟩ _ _ (by simp);have F:=ag (World.cell?_setCell_same A ⟨Q,0,none⟩ v N);have I:=ag E;have HB:=ag u;have HT:=ag Z;obtain ⟨vv,rfl⟩:=Z;clear E u L hz O;go_wp2
 go_end0;exact Or.inl ⟨rfl,_,A,HT.o,I.o,F.o,HG.o,G.o,HB.o⟩
theorem callMadeI (args:Array Value) (w:World):(callFunc 127 args).run Tryz.prog w=.ok (.enter 127 args) w:=by kernel_rfl
theorem afterMadeI (w u:World) (x:Value) (h:((((w.alloc (.cells #[x] 110)).alloc (.cells #[.int .i64 0,.int .i64 0] 84)).alloc (.cells #[.int .i64 0] 3)).alloc (.cells #[.int .i64 0,.int .i64 0] 84)).grownBy u (some (w.heap.size+2))):
 u.heap[w.heap.size+3]? =some (.cells #[.int .i64 0,.int .i64 0] 84 (0,0))/\Below w.heap.size w u/\u.cell? ⟨w.heap.size+1,0,none⟩=some (.int .i64 0)/\u.cell? ⟨w.heap.size+1,1,none⟩=some (.int .i64 0)/\
  (∀j,u.frozen? ⟨w.heap.size+1,j,none⟩=false)/\w.heap.size+4<=u.heap.size:=by
 have A:Below w.heap.size w ((((w.alloc (.cells #[x] 110)).alloc (.cells #[.int .i64 0,.int .i64 0] 84)).alloc (.cells #[.int .i64 0] 3)).alloc (.cells #[.int .i64 0,.int .i64 0] 84)):=((((br _ _).alloc (nlq _) _).alloc (by simp) _).alloc (by simp;omega) _).alloc (by simp;omega) _;have D:((((w.alloc (.cells #[x] 110)).alloc (.cells #[.int .i64 0,.int .i64 0] 84)).alloc (.cells #[.int .i64 0] 3)).alloc (.cells #[.int .i64 0,.int .i64 0] 84)).heap.size=w.heap.size+4:=by simp
 refine ⟨?_,nt A h (by omega),?_,?_,?_,by rw [<-D];exact h.size⟩
 ·rw [h.block (w.heap.size+3) (by omega) (by simp)];show ((((w.heap.push _).push _).push _).push _)[w.heap.size+3]? =_;rw [Array.getElem?_push,if_pos (by simp)]
 ·exact h.cell (a:=⟨w.heap.size+1,0,none⟩) (by simp [go_sem]) (by simp)
 ·exact h.cell (a:=⟨w.heap.size+1,1,none⟩) (by simp [go_sem]) (by simp)
 intro j;rw [World.frozen?_of_block (a:=⟨w.heap.size+1,j,none⟩) (h.block (w.heap.size+1) (by omega) (by simp))];simp [go_sem]
theorem zjq (w:World) (g:Nat) (cap:Array Value) (Ok:Value->World->Prop) (No:Int->Int->Prop) (ad:∀args w,(callFunc g args).run Tryz.prog w=.ok (.enter g args) w)
 (hc:∀W,Below w.heap.size w W->W.heap.size=w.heap.size+4->Calls Tryz.prog g cap W fun r N=>Below W.heap.size W N/\((∃v,r=.returned v/\(∃n,v=.int .i64 n)/\Ok v N)\/∃e p,r=.panicked [wrongV e p]/\No e p))
 (hst:∀v W N,w.heap.size+4<=W.heap.size->Far w.heap.size (w.heap.size+4) W N->Ok v W->Ok v N):
 Calls Tryz.prog 65 #[.func (.func g) #[] cap] w fun r w'=>Below w.heap.size w w'/\w.heap.size+4<=w'.heap.size/\
  ((∃v,r=.returned (.tuple #[v,.agg #[.int .i64 0,.int .i64 0]])/\(∃n,v=.int .i64 n)/\Ok v w')\/
   (∃e p,r=.returned (.tuple #[.int .i64 0,.agg #[.int .i64 e,.int .i64 p]])/\No e p)):=by
 have an:=np Tryz.prog;have X:Below w.heap.size w (((w.alloc (.cells #[.func (.func g) #[] cap] 110)).alloc (.cells #[.int .i64 0,.int .i64 0] 84)).alloc (.cells #[.int .i64 0] 3)):=(((br _ _).alloc (nlq _) _).alloc (by simp) _).alloc (by simp;omega) _;have ac:=X.alloc X.size (.cells #[.int .i64 0,.int .i64 0] 84);have HC:=ag hc;have F:=ag hst;have aa:=ag ad;clear hc hst ad;go_enter Tryz.func65,Tryz.ntmps65;go_wp2_with fail;refine (zb6 127 _ _ (fun D=>∃v,(∃n,v=.int .i64 n)/\D.cell? ⟨w.heap.size+2,0,none⟩=some v/\Ok v D/\Below w.heap.size w D/\
  (∃x y,D.cell? ⟨w.heap.size+1,0,none⟩=some x/\D.cell? ⟨w.heap.size+1,1,none⟩=some y)/\(∀j,D.frozen? ⟨w.heap.size+1,j,none⟩=false)/\w.heap.size+4<=D.heap.size)
  (fun e p D=>No e p/\D.cell? ⟨w.heap.size+2,0,none⟩=some (.int .i64 0)/\Below w.heap.size w D/\
  (∃x y,D.cell? ⟨w.heap.size+1,0,none⟩=some x/\D.cell? ⟨w.heap.size+1,1,none⟩=some y)/\(∀j,D.frozen? ⟨w.heap.size+1,j,none⟩=false)/\w.heap.size+4<=D.heap.size) (callMadeI _) ?hc).mono ?_
 case hc=>
  refine (zjp _ g cap Ok No w.heap.size (w.heap.size+2) (.int .i64 0) aa.o (by simp [go_sem]) (by simp [go_sem]) (by simp [go_sem]) (HC.o _ ac (by simp))).mono ?_;rintro r D (⟨rfl,v,N,hT,I,hc,u,ak,aj⟩ | ⟨e,p,rfl,hd,hb⟩)
  ·obtain ⟨a1,a2,a3,a4,a5,a6⟩:=afterMadeI w D _ u;refine ⟨by simpa using a1,Or.inl ⟨rfl,v,hT,hc,?_,a2,⟨.int .i64 0,.int .i64 0,a3,a4⟩,a5,a6⟩⟩;exact F.o v N D (by have:=aj.size;simp at this;omega) (Far.grown ak (by omega) (by omega)) I
  have al:World.grownBy _ D (some (w.heap.size+2)):=⟨hb.os,hb.tape,hb.output,hb.size,fun k hk _=>hb.block k hk⟩;obtain ⟨a1,a2,a3,a4,a5,a6⟩:=afterMadeI w D _ al;refine ⟨by simpa using a1,Or.inr ⟨e,p,rfl,hd,?_,a2,⟨.int .i64 0,.int .i64 0,a3,a4⟩,a5,a6⟩⟩;exact (hb.cell (p:=⟨w.heap.size+2,0,none⟩) (by simp)).trans (by simp [go_sem])
 rintro r A ⟨D,u,hr⟩;have hz:(((w.alloc (.cells #[.func (.func g) #[] cap] 110)).alloc (.cells #[.int .i64 0,.int .i64 0] 84)).alloc (.cells #[.int .i64 0] 3)).heap.size=w.heap.size+3:=by simp
 rw [hz]at u;clear X ac hz HC aa;rcases hr with ⟨rfl,v,hT,hc,I,hB,⟨x,y,hx,hy⟩,G,J⟩ | ⟨e,p,rfl,hd,hc,hB,⟨x,y,hx,hy⟩,G,J⟩
 ·have c4:A.cell? ⟨w.heap.size+1+1,0,none⟩=some v:=u.cell hc (by simp);have O:A.cell? ⟨w.heap.size+1,0,none⟩=some x:=u.cell hx (by simp);have V:A.cell? ⟨w.heap.size+1,1,none⟩=some y:=u.cell hy (by simp);have z3:∀j,A.frozen? ⟨w.heap.size+1,j,none⟩=false:=fun j=>(World.frozen?_of_block (a:=⟨w.heap.size+1,j,none⟩) (u.block (w.heap.size+1) (by omega) (by simp))).trans (G j);have E:w.heap.size+4<=A.heap.size:=lt3 J u.size;have ae:w.heap.size+1<A.heap.size:=by omega
  have af:w.heap.size+1+1<A.heap.size:=by omega
  have HT:=ag hT;have Y:Below w.heap.size w A:=nt hB u (by omega);have ah:=ag (F.o v D A J (Far.grown u (by omega) (by omega)) I);obtain ⟨vv,rfl⟩:=hT;clear I hc hx hy G u hB;go_wp2_with fail;go_region
  all_goals
   go_wp2
   obtain ⟨u,q0,q1⟩:=zb5 A (w.heap.size+1) 0 0 (.cells #[.int .i64 0,.int .i64 0] 84) O V;have Z:=nt Y u (by omega);have ai:=ag (F.o _ A _ E (Far.grown u (by omega) (by omega)) ah.o);have L:=lt3 E u.size;generalize ((A.setCell ⟨w.heap.size+1,0,none⟩ (.int .i64 0)).setCell ⟨w.heap.size+1,1,none⟩ (.int .i64 0)).alloc (.cells #[.int .i64 0,.int .i64 0] 84)=W9 at*;exact bodyPost_ret (v:=.tuple #[_,.agg #[.int .i64 0,.int .i64 0]]) (by simp [results,Tryz.results65,go_sem,q0,q1]) rfl ⟨Z.drew,L,Or.inl ⟨_,rfl,HT.o,F.o _ W9 _ L ⟨nlq _,fun _ _ _=>rfl⟩ ai.o⟩⟩
 have c4:A.cell? ⟨w.heap.size+1+1,0,none⟩=some (.int .i64 0):=u.cell hc (by simp);have O:A.cell? ⟨w.heap.size+1,0,none⟩=some x:=u.cell hx (by simp);have V:A.cell? ⟨w.heap.size+1,1,none⟩=some y:=u.cell hy (by simp);have z3:∀j,A.frozen? ⟨w.heap.size+1,j,none⟩=false:=fun j=>(World.frozen?_of_block (a:=⟨w.heap.size+1,j,none⟩) (u.block (w.heap.size+1) (by omega) (by simp))).trans (G j);have E:w.heap.size+4<=A.heap.size:=lt3 J u.size;have ae:w.heap.size+1<A.heap.size:=by omega
 have af:w.heap.size+1+1<A.heap.size:=by omega
 have HD:=ag hd;have Y:Below w.heap.size w A:=nt hB u (by omega);clear hd hc hx hy G u hB F;go_wp2_with fail;go_region
 all_goals
  go_wp2
  obtain ⟨u,q0,q1⟩:=zb5 A (w.heap.size+1) e p (.cells #[.int .i64 e,.int .i64 p] 84) O V;have Z:=nt Y u (by omega);have L:=lt3 E u.size;generalize ((A.setCell ⟨w.heap.size+1,0,none⟩ (.int .i64 e)).setCell ⟨w.heap.size+1,1,none⟩ (.int .i64 p)).alloc (.cells #[.int .i64 e,.int .i64 p] 84)=W9 at*;exact bodyPost_ret (v:=.tuple #[.int .i64 0,.agg #[.int .i64 e,.int .i64 p]]) (by simp [results,Tryz.results65,go_sem,q0,q1]) rfl ⟨Z.drew,L,Or.inr ⟨_,_,rfl,HD.o⟩⟩
def jp (l:List am):List QD:=[⟨203,6,dq l⟩,⟨204,5,ni l⟩,⟨205,4,askUpper l⟩,⟨206,5,ld l⟩,⟨207,4,ik l⟩,⟨208,4,j9 l⟩,⟨209,5,askTold l⟩,⟨210,6,jb l⟩,⟨211,4,ll l⟩,⟨212,2,la l⟩]
def gj (l:List am):Int:=if dt l=0 then dv (jp l) else dt l
theorem qs_SL (w:World) (b t:Nat) (l:List am):SL 2 (RQ #[.pointer (some ⟨b,0,none⟩)]) (· <w.heap.size+1) (w.alloc (.cells #[.func (.func 203) #[.pointer (some ⟨b,0,none⟩)] #[],.int .i64 6,.func (.func 204) #[.pointer (some ⟨b,0,none⟩)] #[],.int .i64 5,.func (.func 205) #[.pointer (some ⟨b,0,none⟩)] #[],.int .i64 4,.func (.func 206) #[.pointer (some ⟨b,0,none⟩)] #[],.int .i64 5,.func (.func 207) #[.pointer (some ⟨b,0,none⟩)] #[],.int .i64 4,.func (.func 208) #[.pointer (some ⟨b,0,none⟩)] #[],.int .i64 4,.func (.func 209) #[.pointer (some ⟨b,0,none⟩)] #[],.int .i64 5,.func (.func 210) #[.pointer (some ⟨b,0,none⟩)] #[],.int .i64 6,.func (.func 211) #[.pointer (some ⟨b,0,none⟩)] #[],.int .i64 4,.func (.func 212) #[.pointer (some ⟨b,0,none⟩)] #[],.int .i64 2] t)) (.slice (some ⟨w.heap.size,0,none⟩) 10 10) (jp l):=by
 refine ⟨some ⟨w.heap.size,0,none⟩,10,rfl,by simp [jp],by unfold maxLen;simp [jp],fun k D=>?_⟩;have A:k<10:=by simpa [jp]using D
 refine ⟨w.heap.size,0,[.func (.func (jp l)[k].g) #[.pointer (some ⟨b,0,none⟩)] #[],.int .i64 (jp l)[k].e],rfl,by simp,by simp,rfl,?_,rfl⟩;have hc:∀j v,(#[.func (.func 203) #[.pointer (some ⟨b,0,none⟩)] #[],.int .i64 6,.func (.func 204) #[.pointer (some ⟨b,0,none⟩)] #[],.int .i64 5,.func (.func 205) #[.pointer (some ⟨b,0,none⟩)] #[],.int .i64 4,.func (.func 206) #[.pointer (some ⟨b,0,none⟩)] #[],.int .i64 5,.func (.func 207) #[.pointer (some ⟨b,0,none⟩)] #[],.int .i64 4,.func (.func 208) #[.pointer (some ⟨b,0,none⟩)] #[],.int .i64 4,.func (.func 209) #[.pointer (some ⟨b,0,none⟩)] #[],.int .i64 5,.func (.func 210) #[.pointer (some ⟨b,0,none⟩)] #[],.int .i64 6,.func (.func 211) #[.pointer (some ⟨b,0,none⟩)] #[],.int .i64 4,.func (.func 212) #[.pointer (some ⟨b,0,none⟩)] #[],.int .i64 2]:Array Value)[j]? =some v->(w.alloc (.cells #[.func (.func 203) #[.pointer (some ⟨b,0,none⟩)] #[],.int .i64 6,.func (.func 204) #[.pointer (some ⟨b,0,none⟩)] #[],.int .i64 5,.func (.func 205) #[.pointer (some ⟨b,0,none⟩)] #[],.int .i64 4,.func (.func 206) #[.pointer (some ⟨b,0,none⟩)] #[],.int .i64 5,.func (.func 207) #[.pointer (some ⟨b,0,none⟩)] #[],.int .i64 4,.func (.func 208) #[.pointer (some ⟨b,0,none⟩)] #[],.int .i64 4,.func (.func 209) #[.pointer (some ⟨b,0,none⟩)] #[],.int .i64 5,.func (.func 210) #[.pointer (some ⟨b,0,none⟩)] #[],.int .i64 6,.func (.func 211) #[.pointer (some ⟨b,0,none⟩)] #[],.int .i64 4,.func (.func 212) #[.pointer (some ⟨b,0,none⟩)] #[],.int .i64 2] t)).cell? ⟨w.heap.size,j,none⟩=some v:=fun j v h=>ba (heap_alloc_new w _) j h;match k,A with
 | 0,_=>
   intro j u;rcases (by omega:j=0\/j=1)with rfl | rfl
   ·exact hc 0 _ rfl
   exact hc 1 _ rfl
 | 1,_=>
   intro j u;rcases (by omega:j=0\/j=1)with rfl | rfl
   ·exact hc 2 _ rfl
   exact hc 3 _ rfl
 | 2,_=>
   intro j u;rcases (by omega:j=0\/j=1)with rfl | rfl
   ·exact hc 4 _ rfl
   exact hc 5 _ rfl
 | 3,_=>
   intro j u;rcases (by omega:j=0\/j=1)with rfl | rfl
   ·exact hc 6 _ rfl
   exact hc 7 _ rfl
 | 4,_=>
   intro j u;rcases (by omega:j=0\/j=1)with rfl | rfl
   ·exact hc 8 _ rfl
   exact hc 9 _ rfl
 | 5,_=>
   intro j u;rcases (by omega:j=0\/j=1)with rfl | rfl
   ·exact hc 10 _ rfl
   exact hc 11 _ rfl
 | 6,_=>
   intro j u;rcases (by omega:j=0\/j=1)with rfl | rfl
   ·exact hc 12 _ rfl
   exact hc 13 _ rfl
 | 7,_=>
   intro j u;rcases (by omega:j=0\/j=1)with rfl | rfl
   ·exact hc 14 _ rfl
   exact hc 15 _ rfl
 | 8,_=>
   intro j u;rcases (by omega:j=0\/j=1)with rfl | rfl
   ·exact hc 16 _ rfl
   exact hc 17 _ rfl
 | 9,_=>
   intro j u;rcases (by omega:j=0\/j=1)with rfl | rfl
   ·exact hc 18 _ rfl
   exact hc 19 _ rfl
 | k+10,h=>exact absurd h (by omega)
theorem zjr (l:List am):∀q∈jp l,∀args w,(callFunc q.g args).run Tryz.prog w=.ok (.enter q.g args) w:=by intro q u;simp only [jp,List.mem_cons,List.not_mem_nil,or_false]at u;rcases u with rfl | rfl | rfl | rfl | rfl | rfl | rfl | rfl | rfl | rfl<;>intro args w<;>kernel_rfl
theorem zjs (l:List am):∀q∈jp l,q.e≠0:=by intro q u;simp only [jp,List.mem_cons,List.not_mem_nil,or_false]at u;rcases u with rfl | rfl | rfl | rfl | rfl | rfl | rfl | rfl | rfl | rfl<;>simp
theorem zjt (w:World) (B b:Nat) (l:List am) (G N I L O J:Value) (F:Nat) (A:Web B w b l G N I L O J F) (k:Nat) (D:k<(jp l).length) (u:∀(j:Nat) (hj:j<(jp l).length),j<k->(jp l)[j].ans=true):
 Calls Tryz.prog (jp l)[k].g #[.pointer (some ⟨b,0,none⟩)] w fun r w'=>r=.returned (.bool (jp l)[k].ans)/\Below w.heap.size w w':=by
 match k,D,u with
 | 0,D,u=>exact zdr _ B b l _ _ _ _ _ _ _ A
 | 1,D,u=>exact zds _ B b l _ _ _ _ _ _ _ A
 | 2,D,u=>exact zdv _ B b l _ _ _ _ _ _ _ A
 | 3,D,u=>exact zdx _ B b l _ _ _ _ _ _ _ A
 | 4,D,u=>exact zdz _ B b l _ _ _ _ _ _ _ A
 | 5,D,u=>exact zd8 _ B b l _ _ _ _ _ _ _ A (by have h:=u 1 (by simp [jp]) (by omega);have E:ni l=true:=h;rw [ni,Bool.and_eq_true]at E;simpa [kw]using E.2)
 | 6,D,u=>exact zd4 _ B b l _ _ _ _ _ _ _ A
 | 7,D,u=>exact zfv _ B b l _ _ _ _ _ _ _ A
 | 8,D,u=>exact zji _ B b l _ _ _ _ _ _ _ A (u 3 (by simp [jp]) (by omega))
 | 9,D,u=>exact zd7 _ B b l _ _ _ _ _ _ _ A
 | k+10,D,_=>exact absurd D (by simp [jp])
theorem zju (w:World) (B b:Nat) (l:List am) (V Z W Y vT X:Value) (G:Nat) (F:Web B w b l V Z W Y vT X G):
 Calls Tryz.prog 161 #[.pointer (some ⟨b,0,none⟩)] w fun r w'=>my (dv (jp l)) r/\Below w.heap.size w w':=by
 have O:=np Tryz.prog;have E:=ag F;have u:=ag (fun o=>(br w.heap.size w).alloc (nlq _) o);have L:=ag (fun t=>qs_SL w b t l);clear F;go_enter Tryz.func161,Tryz.ntmps161;go_wp2_with fail;refine (zjf _ (w.heap.size+1) #[.pointer (some ⟨b,0,none⟩)] _ (jp l) (L.o _) (by simp) (zjr l) (zjs l) ?_).mono ?_
 ·intro k N A w' D;exact zjt w' B b l _ _ _ _ _ _ _ (E.o.below (((u.o _).mono E.o.le).trans (D.mono (lt3 E.o.le (u.o _).size)))) k N A
 rintro r w1 ⟨⟨hc,rfl⟩ | ⟨hc,rfl⟩,D⟩
 ·exact ⟨rfl,Or.inl ⟨hc,rfl⟩,(u.o _).trans (D.mono (u.o _).size)⟩
 have J:=ag hc;have I:=ag ((u.o _).trans (D.mono (u.o _).size));clear hc D;go_wp2_with fail;go_end0;exact ⟨Or.inr ⟨J.o,rfl⟩,I.o⟩
def TiedW (B:Nat) (w:World) (l:List am) (v:Value) (p:Value) (w':World):Prop:=∃b vS vF vN vT vL Bm,p=.pointer (some ⟨b,0,none⟩)/\w.heap.size<=b/\WebM (fun k=>(k<B\/w.heap.size<=k)/\k<w'.heap.size) w' b l v vS vF vN vT vL Bm
theorem zjv (w:World) (B P:Nat) (l:List am) (v:Value) (L:SL 4 RC (· <B) w v l) (Z:B<=w.heap.size) (G:dt l=0) (hP:w.cell? ⟨P,0,none⟩=some v):
 Calls Tryz.prog 159 #[.pointer (some ⟨P,0,none⟩)] w fun r w'=>Below w.heap.size w w'/\
  ((∃p,r=.returned p/\(∃q,p=.pointer q)/\dv (jp l)=0/\TiedW B w l v p w')\/∃e p,r=.panicked [wrongV e p]/\dv (jp l)=e/\e≠0):=by
 have W:=ag L;obtain ⟨X,Y,rfl,-⟩:=L;go_enter Tryz.func159,Tryz.ntmps159;go_wp2_with fail;refine (zjm w B l _ W.o Z G).mono ?_;rintro r N ⟨rfl,F,vS,vF,vN,vT,vL,A⟩;have I:=ag A;have u:=ag F;clear A F;go_wp2_with fail;refine (zju N N.heap.size (w.heap.size+1) l _ _ _ _ _ _ _ I.o.web).mono ?_;rintro r w2 ⟨⟨hc,rfl⟩ | ⟨hc,rfl⟩,D⟩
 ·exact ⟨rfl,u.o.trans (D.mono u.o.size),Or.inr ⟨_,_,rfl,rfl,hc⟩⟩
 have V:=ag hc;have O:=ag (u.o.trans (D.mono u.o.size));have J:Hid (TiedW B w l (.slice X l.length Y) (.pointer (some ⟨w.heap.size+1,0,none⟩)) w2):=⟨_,_,_,_,_,_,_,rfl,by omega,((I.o.kept ⟨D.size,fun k E _=>D.block k E.2⟩).mono (fun k E=>⟨E.1,ll3 E.2 D.size⟩) (fun k E=>E.2))⟩;clear hc D I;go_wp2_with fail;go_ret;exact ⟨O.o,Or.inl ⟨_,rfl,⟨_,rfl⟩,V.o,J.o⟩⟩
theorem callTie1 (args:Array Value) (w:World):(callFunc 159 args).run Tryz.prog w=.ok (.enter 159 args) w:=by kernel_rfl
theorem zjw (w:World) (B:Nat) (l:List am) (v:Value) (hv:SL 4 RC (· <B) w v l) (hB:B<=w.heap.size):
 Calls Tryz.prog 101 #[v] w fun r w'=>Below w.heap.size w w'/\
  ((gj l=0/\∃p,r=.returned (.tuple #[p,.int .i64 0])/\TiedW B w l v p w')\/(gj l≠0/\r=.returned (.tuple #[.pointer none,.int .i64 (gj l)]))):=by
 have af:=np Tryz.prog;have HV:=ag hv;obtain ⟨ao,cl,rfl,-⟩:=hv;have G:=ag (fun o=>(br w.heap.size w).alloc (nlq _) o);go_enter Tryz.func101,Tryz.ntmps101;go_wp2_with fail;refine (zb8 _ B l _ (HV.o.keptC (Kp.below ((G.o _).mono hB))) (lt3 hB (G.o _).size)).mono ?_;rintro r w1 ⟨rfl,I⟩;have aa:=(G.o (.cells #[.slice ao l.length cl] 31)).trans (I.mono (G.o _).size);have ad:w1.cell? ⟨w.heap.size,0,none⟩=some (.slice ao l.length cl):=(I.cell (p:=⟨w.heap.size,0,none⟩) (by simp)).trans (by simp [go_sem]);have ai:w.heap.size+1<=w1.heap.size:=by have:=I.size;simpa using this
 have A:=ag aa;clear I aa;by_cases u:dt l=0
 ·have HT:Hid (gj l=dv (jp l)):=by show gj l=_;rw [gj,if_pos u]
  have ac:=ag u;rw [u];clear u;go_wp2_with fail;refine (zjo w1 159 _ (fun p w'=>dv (jp l)=0/\∃b Y O X Z V L,p=.pointer (some ⟨b,0,none⟩)/\w.heap.size<=b/\WebM (fun k=>(k<B\/w1.heap.size+4<=k)/\k<w'.heap.size) w' b l (.slice ao l.length cl) Y O X Z V L) (fun e p=>dv (jp l)=e/\e≠0) callTie1 ?hc ?hst).mono ?_
  case hc=>
   intro W hW ae;refine (zjv W B w.heap.size l _ (HV.o.keptC (Kp.below ((A.o.trans (hW.mono A.o.size)).mono hB))) (lt3 hB (A.o.trans (hW.mono A.o.size)).size) ac.o ((hW.cell (p:=⟨w.heap.size,0,none⟩) (by simp;omega)).trans ad)).mono ?_;rintro r w2 ⟨D,⟨p,rfl,hp,h0,b,Y,O,X,Z,V,L,e,J,E⟩ | ⟨e,p,rfl,h1,h2⟩⟩
   ·refine ⟨D,Or.inl ⟨p,rfl,hp,h0,b,Y,O,X,Z,V,L,e,by omega,?_⟩⟩;rw [ae]at E;exact E
   exact ⟨D,Or.inr ⟨e,p,rfl,h1,h2⟩⟩
  case hst=>
   rintro p W W' hz hf ⟨h0,b,Y,O,X,Z,V,L,e,J,E⟩;refine ⟨h0,b,Y,O,X,Z,V,L,e,J,(E.kept ⟨hf.size,fun k F _=>hf.block k F.2 (by rcases F.1 with h | h;(have:=A.o.size;omega);omega)⟩).mono (fun k F=>⟨F.1,ll3 F.2 hf.size⟩) (fun k F=>F.2)⟩
  rintro r w2 ⟨D,aj,⟨p,rfl,-,h0,b,Y,O,X,Z,V,L,rfl,J,E⟩ | ⟨e,p,rfl,h1,h2⟩⟩
  ·have N:=ag (fun o=>(A.o.trans (D.mono A.o.size)).alloc (lt3 A.o.size D.size) o);have HR:Hid (∀o n,gj l=0/\TiedW B w l (.slice ao l.length cl) (.pointer (some ⟨b,0,none⟩)) ((w2.alloc o).drewN n)):=fun o n=>⟨HT.o.trans h0,b,Y,O,X,Z,V,L,rfl,J,(E.kept (w':=(w2.alloc o).drewN n) ⟨by show _<=(w2.alloc o).heap.size;simp,fun k F _=>Below.heap_alloc _ _ _ F.2⟩).mono (fun k F=>⟨F.1.imp id (fun h=>by omega),by show _<(w2.alloc o).heap.size;have:=F.2;simp;omega⟩) (fun k F=>F.2)⟩;clear E h0 D;go_wp2_with fail;go_quiet (fail);go_wp2_with fail;exact bodyPost_ret (v:=.tuple #[_,_]) (by simp [results,Tryz.results101,go_sem]) rfl ⟨mp (N.o _) _,Or.inl ⟨(HR.o (.map #[] 0) 0).1,_,rfl,(HR.o _ _).2⟩⟩
  have N:=ag (fun o=>(A.o.trans (D.mono A.o.size)).alloc (lt3 A.o.size D.size) o);have HR:Hid (gj l=e/\e≠0):=⟨HT.o.trans h1,h2⟩;clear D h1 h2;go_wp2_with fail;go_quiet (fail);go_wp2_with fail;exact bodyPost_ret (v:=.tuple #[_,_]) (by simp [results,Tryz.results101,go_sem];exact ⟨rfl,rfl⟩) rfl ⟨mp (N.o _) _,Or.inr ⟨by rw [HR.o.1];exact HR.o.2,by rw [HR.o.1]⟩⟩
 have HT:Hid (gj l=dt l):=by show gj l=_;rw [gj,if_neg u]
 have ah:(dt l==0)=false:=beq_eq_false_iff_ne.2 u;have HN:=ag u;clear u;generalize dt l=ce at*;go_wp2_with fail;exact bodyPost_ret (v:=.tuple #[_,_]) (by simp [results,Tryz.results101,go_sem];exact ⟨rfl,rfl⟩) rfl ⟨A.o,Or.inr ⟨by rw [HT.o];exact HN.o,by rw [HT.o]⟩⟩
end Go.Proofs.YtjdnmblggdobgaaGreat
