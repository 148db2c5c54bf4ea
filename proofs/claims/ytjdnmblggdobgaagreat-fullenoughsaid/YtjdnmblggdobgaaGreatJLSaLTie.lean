import Derived.Test.YtjdnmblggdobgaaGreatJLNoneLSaD
import Derived.Deep.RegionHeld3
import Derived.Deep.RegionLaw
import Derived.Deep.DeepCutAuto
set_option maxHeartbeats 16000000
set_option maxRecDepth 100000
namespace Go.Proofs.YtjdnmblggdobgaaGreat
open Go.RowKit Go.Maps Tryz
theorem zjg (w:World) (B b:Nat) (l:List aq) (vC vS vF vN vT vL:Value) (Bm:Nat) (F:ti B w b l vC vS vF vN vT vL Bm) (n:Nat) (hn:n<l.length) (u:Value) (m:d9) (hu:zr B w u m):
 Calls prog 255 #[.p b,.i n,u] w fun r w'=>r=.returned (.bool (ll l n m))/\Below w.heap.size w w':=by
 obtain ⟨V,X,ho,ch,rfl,ea,-,a5,-,-⟩:=hu;have aa:=F.le;have an:((List.range l.length).map (fb l)).length=l.length:=by simp
 have ap:((List.range l.length).map (ew l)).length=l.length:=by simp
 have c0:=F.cell0;have c3:=bp F.blk 3 (x:=vN) rfl;have c4:=bp F.blk 4 (x:=vT) rfl;have Z:=bz F.blk;have au:=F.sC;obtain ⟨aC,cC,a1,-⟩:=F.sC;obtain ⟨aN,cN,av,-⟩:=F.sN;obtain ⟨aT,cT,aw,-⟩:=F.sT;rw [an]at av;rw [ap]at aw;subst a1 av aw;obtain ⟨bN,oN,aL,cL,rfl,ay,e1,sL⟩:=F.sN.atSl n (by omega);obtain ⟨bT,oT,aU,cU,rfl,az,e2,sU⟩:=F.sT.atSl n (by omega);have g1:((List.range l.length).map (fb l))[n]'(by omega)=fb l n:=by simp
 have g2:((List.range l.length).map (ew l))[n]'(by omega)=ew l n:=by simp
 rw [g1]at e1 sL;rw [g2]at e2 sU;clear g1 g2 an ap F;have a6:(0:Int)<=n:=by omega
 have a7:(n:Int)<l.length:=by omega
 have I:Hid (∀o k,Below w.heap.size w ((w.alloc o).drewN k)):=fun o k=>o7 ((br w.heap.size w).alloc (nlq _) o) k;have HI:Hid (∀o k,Calls prog 234 #[.slice aL (fb l n).length cL,.string m.name] ((w.alloc o).drewN k) fun r w'=>r=.returned (.i (jl (fb l n) m.name))/\w'=(w.alloc o).drewN k):=fun o k=>zfx _ (· <B) _ _ m.name (sL.keptS (Kp.below ((I.o o k).mono aa)));have ak:=zhf (fb l n) m.name;have ah:=ag (zi1 l n);by_cases N:jl (fb l n) m.name<0
 ·have HR:=ag (zi3 N);have bf: -1<=jl (fb l n) m.name:=by unfold jl;split<;>omega
  generalize jl (fb l n) m.name=ix at*;generalize (fb l n).length=nl at*;clear ea sL sU e2 ak ah;go_enter func255,ntmps255;go_wp2_with fail;go_quiet (first | (go_at_call 234;exact Calls.quiet_of_same (HI.o _ _)));go_wp2_with fail;go_ret;exact ⟨by rw [HR.o];rfl,I.o _ _⟩
 obtain ⟨k,hk⟩:=Int.eq_ofNat_of_zero_le (by omega:0<=jl (fb l n) m.name);have J:k<(ew l n).length:=by rw [<-zi1 l n];omega
 obtain ⟨c,j,ht,hc,hj⟩:=zi0 hn _ (gm J);have HR:=ag (zi4 hk J ht hj);obtain ⟨bt,ot,rfl,a0,t0,t1⟩:=sU.atT k J;rw [ht]at t0 t1;obtain ⟨bc,oc,vf,vm,rfl,Y,-,-,-,d3,-,em,-,-⟩:=au.atC c hc;rw [<-sm hc]at em;have EM:=ag em;obtain ⟨mo,cm,rfl,-⟩:=em;obtain ⟨E,L,va,vh,rfl,D,y0,y1,y2,y3,y4,y5,y6,y7,y8,sa,sh,-,-,-⟩:=EM.o.atM j hj;have af:=ag sa;obtain ⟨ai,aj,rfl,-⟩:=sa;obtain ⟨a3,a4,rfl,-⟩:=sh;have ac:Hid (∀W,Below w.heap.size w W->Calls prog 302 #[.slice V m.args.length X,.slice ai (cd l c).be[j].args.length aj] W fun r w'=>r=.returned (.bool (db d7 m.args (cd l c).be[j].args))/\∃n,w'=W.drewN n):=fun W hW=>zef W (· <B) (· <B) _ _ _ _ (ea.keptK (Kp.below (hW.mono aa))) (af.o.keptK (Kp.below (hW.mono aa)));have al:=Ab m.ret.kind (cd l c).be[j].ret.kind m.ret.de (cd l c).be[j].ret.de;have bi:=wh;rw [zed]at al;have bb:(0:Int)<=j:=by omega
 have a2:(j:Int)<(cd l c).be.length:=by omega
 have a8:(0:Int)<=c:=by omega
 have a9:(c:Int)<l.length:=by omega
 have bg:(0:Int)<=k:=by omega
 have bh:(k:Int)<(ew l n).length:=by omega
 have bl:¬((k:Int)<0):=by omega
 have hB:=ag (show ∀x:Nat,w.heap.size<=w.heap.size+x from fun x=>by omega);rw [hk]at HI;clear sL sU ht ea EM af au N hk ak ah J;generalize (cd l c).be[j]=y at*;generalize (cd l c).be.length=ml at*;generalize (ew l n).length=tl at*;generalize (fb l n).length=nl at*;generalize db d7 m.args y.args=ek at*;have ad:Hid (d7 (⟨m.ret.kind,m.ret.de⟩:fm) ⟨y.ret.kind,y.ret.de⟩=d7 m.ret y.ret):=rfl;rw [ad.o]at al;clear ad;generalize d7 m.ret y.ret=er at*;generalize m.static=sx at*;generalize y.static=sy at*;go_enter func255,ntmps255;go_wp2_with fail;go_quiet (first | (go_at_call 234;exact Calls.quiet_of_same (HI.o _ _)));go_wp2_with fail;generalize hW5:((w.alloc (.cells #[.string m.name,.bool sx,.slice V m.args.length X,.i m.ret.kind,.string m.ret.de,.i m.stack,.i m.locals,.string m.code,.slice ho m.hands.length ch] 159)).drewN nq).alloc (.cells #[.i c,.i j] 233)=W5;have A:Below w.heap.size w W5:=hW5 ▸ (I.o _ _).alloc (by show w.heap.size<=(w.alloc _).heap.size;simp) _;have hX:W5.heap[w.heap.size]? =some (.cells #[.string m.name,.bool sx,.slice V m.args.length X,.i m.ret.kind,.string m.ret.de,.i m.stack,.i m.locals,.string m.code,.slice ho m.hands.length ch] 159 (0,0)):=by rw [<-hW5];exact (Below.heap_alloc _ _ _ (by show w.heap.size<(w.alloc _).heap.size;simp)).trans (heap_alloc_new w _)
 have hY:W5.heap[w.heap.size+1]? =some (.cells #[.i c,.i j] 233 (0,0)):=by
  have:=heap_alloc_new ((w.alloc (.cells #[.string m.name,.bool sx,.slice V m.args.length X,.i m.ret.kind,.string m.ret.de,.i m.stack,.i m.locals,.string m.code,.slice ho m.hands.length ch] 159)).drewN nq) (.cells #[.i c,.i j] 233);rw [hW5]at this;have e:((w.alloc (.cells #[.string m.name,.bool sx,.slice V m.args.length X,.i m.ret.kind,.string m.ret.de,.i m.stack,.i m.locals,.string m.code,.slice ho m.hands.length ch] 159)).drewN nq).heap.size=w.heap.size+1:=by show (w.alloc _).heap.size=_;simp
  rwa [e]at this
 clear hW5;have x1:=bp hX 1 (x:=.bool sx) rfl;have x2:=bp hX 2 (x:=.slice V m.args.length X) rfl;have x3:=bp hX 3 (x:=.i m.ret.kind) rfl;have x4:=bp hX 4 (x:=.string m.ret.de) rfl;have u0:=bp hY 0 (x:=.i c) rfl;have u1:=bp hY 1 (x:=.i j) rfl;have lX:=bz hX;have lY:=bz hY;have q0:=(A.cell (p:=⟨b,0,none⟩) Z).trans c0;have q3:=(A.cell (p:=⟨bc,oc+c*4+3,none⟩) Y).trans d3;have z0:=(A.cell (p:=⟨E,L+j*9,none⟩) D).trans y0;have z1:=(A.cell (p:=⟨E,L+j*9+1,none⟩) D).trans y1;have z2:=(A.cell (p:=⟨E,L+j*9+2,none⟩) D).trans y2;have z3:=(A.cell (p:=⟨E,L+j*9+3,none⟩) D).trans y3;have z4:=(A.cell (p:=⟨E,L+j*9+4,none⟩) D).trans y4;have z5:=(A.cell (p:=⟨E,L+j*9+5,none⟩) D).trans y5;have z6:=(A.cell (p:=⟨E,L+j*9+6,none⟩) D).trans y6;have z7:=(A.cell (p:=⟨E,L+j*9+7,none⟩) D).trans y7;have z8:=(A.cell (p:=⟨E,L+j*9+8,none⟩) D).trans y8;have lb:b<W5.heap.size:=ll3 Z A.size;have lc:bc<W5.heap.size:=ll3 Y A.size;have ly:E<W5.heap.size:=ll3 D A.size;have O:=ag A;clear hX hY A y0 y1 y2 y3 y4 y5 y6 y7 y8 d3 c0 c3 c4 e1 e2 t0 t1 Z ay az a0 Y D HI I hB
 go_region_held3 (fun W'=>∀p:Addr,p.block<W5.heap.size->W'.cell? p=W5.cell? p) (exact fun p hp=>Below.cell (B:=W5.heap.size) (w:=W5) (by repeat (first | exact br _ _ | refine Below.drew ?_ | refine Below.alloc ?_ (by simp<;>omega) _ | refine Below.setCell ?_ (by simp) _)) hp) (fail)
 have G:Hid (∀o q,Below w.heap.size w ((W5.alloc o).drewN q)):=fun o q=>o7 (O.o.alloc O.o.size o) q;have ax:Hid (∀o,Calls prog 302 #[.slice V m.args.length X,.slice ai y.args.length aj] (W5.alloc o).drew fun r w'=>r=.returned (.bool ek)/\∃n,w'=(W5.alloc o).drewN n):=fun o=>(ac.o (W5.alloc o).drew (G.o o 1)).mono fun _ _ ⟨h,n,e⟩=>⟨h,1+n,by rw [e];simp [World.drewN,World.drew,Nat.add_assoc]⟩;clear ac O;rename_i hS1;clear hS1;cases sx with
 | true=>
   go_wp2_with fail;go_ret;exact ⟨by rw [HR.o];rfl,G.o _ 1⟩
 | false=>
   cases sy with
   | true=>
     go_wp2_with fail;go_ret;exact ⟨by rw [HR.o];rfl,G.o _ 1⟩
   | false=>
     cases er with
     | false=>
       go_wp2_with fail;go_ret;exact ⟨by rw [HR.o];rfl,G.o _ 1⟩
     | true=>
       go_wp2_with (go_at_call 302;refine (ax.o _).mono ?_;rintro r w9 ⟨rfl,n9,rfl⟩);go_ret;exact ⟨by rw [HR.o];simp,G.o _ n9⟩
theorem zjh (w:World) (B b P I:Nat) (l:List aq) (vC vS vF vN vT vL:Value) (Bm:Nat) (G:ti B w b l vC vS vF vN vT vL Bm) (i n:Nat) (hi:i<l.length) (hs:dj l i=n) (u:Value) (m:d9) (hu:zr B w u m)
 (hP:w.cell? ⟨P,0,none⟩=some (.p b)) (hI:w.cell? ⟨I,0,none⟩=some (.i i)):
 Calls prog 254 #[u,.p P,.p I] w fun r w'=>r=.returned (.bool (ll l n m))/\Below w.heap.size w w':=by
 have ac:=World.block_lt_of_cell? w _ hP;have aa:=World.block_lt_of_cell? w _ hI;have hn:n<l.length:=by have:=(Ee l (cd l i).bv).2;have e:dj l i=num l (cd l i).bv:=rfl;omega
 have af:=bz G.blk;have c1:=bp G.blk 1 (x:=vS) rfl;have O:((List.range l.length).map (dj l)).length=l.length:=by simp
 have HM:Hid (∀W,Below w.heap.size w W->Calls prog 255 #[.p b,.i n,u] W fun r w'=>r=.returned (.bool (ll l n m))/\Below W.heap.size W w'):=fun W J=>zjg W B b l vC vS vF vN vT vL Bm (G.below (J.mono G.le)) n hn u m (hu.below (J.mono G.le));obtain ⟨aS,cS,V,-⟩:=G.sS;rw [O]at V;subst V;obtain ⟨bS,oS,rfl,ad,e1⟩:=G.sS.atI i (by omega);have g1:((List.range l.length).map (dj l))[i]'(by omega)=dj l i:=by simp
 rw [g1,hs]at e1;obtain ⟨X,Y,ho,Z,rfl,-⟩:=hu;have ak:(0:Int)<=i:=by omega
 have al:(i:Int)<l.length:=by omega
 clear G O g1 hs hn;generalize hV:ll l n m=rv at*;clear hV;go_enter func254,ntmps254;go_wp2_with fail;obtain ⟨A,J⟩:∃A,A=w.alloc (.cells #[.string m.name,.bool m.static,.slice X m.args.length Y,.i m.ret.kind,.string m.ret.de,.i m.stack,.i m.locals,.string m.code,.slice ho m.hands.length Z] 159):=⟨_,rfl⟩;have F:Below w.heap.size w A:=J ▸ (br w.heap.size w).alloc (nlq _) _;have D:A.heap[w.heap.size]? =some (.cells #[.string m.name,.bool m.static,.slice X m.args.length Y,.i m.ret.kind,.string m.ret.de,.i m.stack,.i m.locals,.string m.code,.slice ho m.hands.length Z] 159 (0,0)):=J ▸ heap_alloc_new w _;rw [<-J];clear J;have ah:Nonempty (Gr A.heap.size A):=⟨⟨A,br _ _⟩⟩;have L:Hid (∀g:Gr A.heap.size A,Calls prog 255 #[.p b,.i n,.agg #[.string m.name,.bool m.static,.slice X m.args.length Y,.i m.ret.kind,.string m.ret.de,.i m.stack,.i m.locals,.string m.code,.slice ho m.hands.length Z]] g.w fun e aj=>e=.returned (.bool rv)/\∃g':Gr A.heap.size A,aj=g'.w):=fun g=>Gr.calls g (nlq _) (HM.o g.w (F.trans (g.ok.mono F.size)));have E:Hid (∀g:Gr A.heap.size A,Below w.heap.size w g.w):=fun g=>F.trans (g.ok.mono F.size);have k0:∀g:Gr A.heap.size A,g.w.cell? ⟨w.heap.size,0,none⟩=some (.string m.name):=fun g=>(g.ok.cell (p:=⟨w.heap.size,0,none⟩) (bz D)).trans (bp D 0 rfl);have k1:∀g:Gr A.heap.size A,g.w.cell? ⟨w.heap.size,1,none⟩=some (.bool m.static):=fun g=>(g.ok.cell (p:=⟨w.heap.size,1,none⟩) (bz D)).trans (bp D 1 rfl);have k2:∀g:Gr A.heap.size A,g.w.cell? ⟨w.heap.size,2,none⟩=some (.slice X m.args.length Y):=fun g=>(g.ok.cell (p:=⟨w.heap.size,2,none⟩) (bz D)).trans (bp D 2 rfl);have k3:∀g:Gr A.heap.size A,g.w.cell? ⟨w.heap.size,3,none⟩=some (.i m.ret.kind):=fun g=>(g.ok.cell (p:=⟨w.heap.size,3,none⟩) (bz D)).trans (bp D 3 rfl);have k4:∀g:Gr A.heap.size A,g.w.cell? ⟨w.heap.size,4,none⟩=some (.string m.ret.de):=fun g=>(g.ok.cell (p:=⟨w.heap.size,4,none⟩) (bz D)).trans (bp D 4 rfl);have k5:∀g:Gr A.heap.size A,g.w.cell? ⟨w.heap.size,5,none⟩=some (.i m.stack):=fun g=>(g.ok.cell (p:=⟨w.heap.size,5,none⟩) (bz D)).trans (bp D 5 rfl);have k6:∀g:Gr A.heap.size A,g.w.cell? ⟨w.heap.size,6,none⟩=some (.i m.locals):=fun g=>(g.ok.cell (p:=⟨w.heap.size,6,none⟩) (bz D)).trans (bp D 6 rfl);have k7:∀g:Gr A.heap.size A,g.w.cell? ⟨w.heap.size,7,none⟩=some (.string m.code):=fun g=>(g.ok.cell (p:=⟨w.heap.size,7,none⟩) (bz D)).trans (bp D 7 rfl);have k8:∀g:Gr A.heap.size A,g.w.cell? ⟨w.heap.size,8,none⟩=some (.slice ho m.hands.length Z):=fun g=>(g.ok.cell (p:=⟨w.heap.size,8,none⟩) (bz D)).trans (bp D 8 rfl);have kP:∀g:Gr A.heap.size A,g.w.cell? ⟨P,0,none⟩=some (.p b):=fun g=>((E.o g).cell (p:=⟨P,0,none⟩) ac).trans hP;have kI:∀g:Gr A.heap.size A,g.w.cell? ⟨I,0,none⟩=some (.i i):=fun g=>((E.o g).cell (p:=⟨I,0,none⟩) aa).trans hI;have kb:∀g:Gr A.heap.size A,g.w.cell? ⟨b,1,none⟩=some (.slice (some ⟨bS,oS,none⟩) l.length cS):=fun g=>((E.o g).cell (p:=⟨b,1,none⟩) af).trans c1;have kS:∀g:Gr A.heap.size A,g.w.cell? ⟨bS,oS+i,none⟩=some (.i n):=fun g=>((E.o g).cell (p:=⟨bS,oS+i,none⟩) ad).trans e1;clear HM D F hP hI c1 e1;refine Ch A.heap.size A (by kernel_rfl) (by kernel_rfl) (br _ _) ?_
 repeat (go_big_quiet_step (first | (exact L.o _)))
 refine wpQuiet_nil ?_;intro _ ai;obtain ⟨g,rfl⟩:=ai;have N:=ag (E.o g);generalize g.w=w2 at*;clear k0 k1 k2 k3 k4 k5 k6 k7 k8 kP kI kb kS ah L E;go_wp2_with fail;go_ret;exact ⟨rfl,N.o⟩
theorem zji (w:World) (B b:Nat) (l:List aq) (vC vS vF vN vT vL:Value) (Bm:Nat) (hw:ti B w b l vC vS vF vN vT vL Bm) (ax:mw l=true):
 Calls prog 211 #[.p b] w fun r w'=>r=.returned (.bool (nf l))/\Below w.heap.size w w':=by
 have a6:=qj prog;have c0:=hw.cell0;have a5:=bz hw.blk;have F:=hw.le;have HW:=ag hw;have HV:=ag hw.sC;have ay:=ag ax;obtain ⟨ao,cl,rfl,-,a1,-⟩:=hw.sC;unfold maxLen at a1;have ah:=ag (fun o=>(br w.heap.size w).alloc (nlq _) o);clear hw ax
 let step:Nat->Bool:=fun i=>decide ((cd l i).bv=(⟨#[]⟩:ByteArray))||(cd l i).be.all (ll l (dj l i).toNat)
 have ak:Hid (nf l=(List.range l.length).all step):=rfl;go_enter func211,ntmps211;go_wp2_with fail;obtain ⟨I,X⟩:∃I,I=w.alloc (.cells #[.p b] 148):=⟨_,rfl⟩;have Y:Hid (Below w.heap.size w I):=X ▸ ah.o _;have ap:I.cell? ⟨w.heap.size,0,none⟩=some (.p b):=by rw [X];simp [go_sem]
 have av:w.heap.size<I.heap.size:=World.block_lt_of_cell? I _ ap;rw [<-X];clear X ah;go_loopw [11] (fun i wr=>∃k:Nat,k<=l.length/\i=.i k/\Hid ((∀j,j<k->step j=true)/\Below I.heap.size I wr)) (fun i _=>l.length - (intOf i).toNat)
 case atStart=>exact ⟨0,n0q _,rfl,(fun _ h=>by omega),br _ _⟩
 case round=>
  obtain ⟨k,hk,rfl,HQ⟩:=hrel;have af:I.heap.size<=wr.heap.size:=HQ.o.2.size;have D:Hid (Below w.heap.size w wr):=Y.o.trans (HQ.o.2.mono Y.o.size);by_cases G:k<l.length
  ·obtain ⟨bc,oc,vf,vm,rfl,a4,e0,e1,e2,e3,ef,em,al,an⟩:=(HV.o.keptC (Kp.below (D.o.mono F))).atC k G;have EM:=ag em;obtain ⟨fo,cf,rfl,-⟩:=ef;obtain ⟨mo,cm,rfl,-⟩:=em;have O:Hid (step k=(decide (l[k].bv=(⟨#[]⟩:ByteArray))||l[k].be.all (ll l (dj l k).toNat))):=by show step k=_;simp only [step,sm G]
   have a2:(0:Int)<=k:=by omega
   have a3:(k:Int)<l.length:=by omega
   have aa:Hid (step k=true->∀w',Below wr.heap.size wr w'->(∀j,j<k+1->step j=true)/\Below I.heap.size I w'):=fun h w' hb=>⟨fun j hj=>by
    by_cases a0:j<k
    ·exact HQ.o.1 j a0
    have:j=k:=by omega
    rw [this];exact h,HQ.o.2.trans (hb.mono af)⟩
   have aj:Hid (step k=false->∀w',Below wr.heap.size wr w'->nf l=false/\Below w.heap.size w w'):=fun h w' hb=>⟨by
    rw [ak.o,List.all_eq_false];exact ⟨k,List.mem_range.2 G,by simp [h]⟩,D.o.trans (hb.mono (lt3 Y.o.size af))⟩
   have E:Hid (∀o L,Below wr.heap.size wr ((wr.alloc o).alloc L)):=fun o L=>((br _ _).alloc (nlq _) o).alloc (by simp) L;have au:wr.cell? ⟨w.heap.size,0,none⟩=some (.p b):=(HQ.o.2.cell (p:=⟨w.heap.size,0,none⟩) av).trans ap;by_cases A:l[k].bv=⟨#[]⟩
   ·have aw:=Cg A;have Z:=ag (aa.o (by rw [O.o];simp [A]));clear A O aa aj al an;go_wp2_with fail;go_roundw
    case rel=>exact ⟨k+1,by omega,by go_num,Z.o _ (E.o _ _)⟩
    case measure=>simp [intOf];omega
   have aw:l[k].bv.toList.isEmpty=false:=by
    cases hq:l[k].bv.toList with
    | nil=>exact absurd (Eh hq) A
    | cons _ _=>rfl
   obtain ⟨n,hn⟩:∃n:Nat,dj l k=n:=by
    have h1:=List.all_eq_true.1 ay.o l[k] (gm G);have h2:mm l l[k].bv=true:=by simpa [A]using h1
    have h3:0<=dj l k:=by rw [dj,sm G];simpa [mm]using h2
    exact ⟨(dj l k).toNat,by omega⟩
   have V:Hid (step k=l[k].be.all (ll l n)):=by show step k=_;rw [O.o,hn];simp [A]
   have ai:Hid (∀o L,Calls prog 245 #[.slice mo l[k].be.length cm,.func (.func 254) #[] #[.p w.heap.size,.p wr.heap.size]] ((wr.alloc (.cells #[.i k] o)).alloc L) fun r w'=>r=.returned (.bool (l[k].be.all (ll l n)))/\Below ((wr.alloc (.cells #[.i k] o)).alloc L).heap.size ((wr.alloc (.cells #[.i k] o)).alloc L) w'):=fun o L=>by
    have ac:=E.o (.cells #[.i k] o) L;have ad:Below B w ((wr.alloc (.cells #[.i k] o)).alloc L):=(D.o.mono F).trans (ac.mono (lt3 F D.o.size));refine zc5 _ B _ l[k].be (EM.o.keptM (Kp.below (ac.mono (lt3 F D.o.size)))) (lt3 F ad.size) 254 #[] _ (ll l n) (fun args w=>by kernel_rfl) ?_;intro x _ u W X hu;have az:((wr.alloc (.cells #[.i k] o)).alloc L).cell? ⟨wr.heap.size,0,none⟩=some (.i k):=by refine (World.cell?_alloc_past _ _ _ (by simp)).trans ?_;simp [go_sem]
    exact zjh W B b w.heap.size wr.heap.size l _ vS vF vN vT vL Bm (HW.o.below (ad.trans (X.mono (lt3 F ad.size)))) k n G hn u x hu
     ((X.cell (p:=⟨w.heap.size,0,none⟩) (by simp;omega)).trans ((ac.cell (p:=⟨w.heap.size,0,none⟩) (ll3 av af)).trans au)) ((X.cell (p:=⟨wr.heap.size,0,none⟩) (by simp;omega)).trans az)
   clear A O al an hn EM;generalize l[k].be.all (ll l n)=rv at*;cases rv with
   | true=>
     have Z:=ag (aa.o V.o);go_wp2_with (go_at_call 245;refine (ai.o _ _).mono ?_;rintro r w9 ⟨rfl,J⟩);have N:=ag (Z.o w9 ((E.o _ _).trans (J.mono (E.o _ _).size)));clear J;go_wp2_with fail;go_roundw
     case rel=>exact ⟨k+1,by omega,by go_num,N.o⟩
     case measure=>simp [intOf];omega
   | false=>
     have Z:=ag (aj.o V.o);go_wp2_with (go_at_call 245;refine (ai.o _ _).mono ?_;rintro r w9 ⟨rfl,J⟩);have N:=ag (Z.o w9 ((E.o _ _).trans (J.mono (E.o _ _).size)));clear J;go_wp2_with fail;go_ret;exact ⟨by rw [N.o.1];rfl,N.o.2⟩
  have Z:Hid (nf l=true):=by show nf l=true;rw [ak.o,List.all_eq_true];exact fun j hj=>HQ.o.1 j (by have:=List.mem_range.1 hj;omega)
  go_wp2_with fail;go_ret;exact ⟨by rw [Z.o];rfl,D.o⟩
end Go.Proofs.YtjdnmblggdobgaaGreat
namespace Go.Proofs.YtjdnmblggdobgaaGreat
open Go.RowKit Go.Sort Tryz
theorem infoL:(prog.info? 22).map (fun i=>(i.zero,i.size,i.bytes))=some (some (.nl),1,24):=by kernel_rfl
theorem Bp:(prog.info? 126).map (fun i=>(i.zero,i.size,i.bytes))=some (some (.nl),1,24):=by kernel_rfl
theorem Bq:(prog.info? 225).map (fun i=>(i.zero,i.size,i.bytes))=some (some (.nl),1,24):=by kernel_rfl
theorem Br:(prog.info? 226).map (fun i=>(i.zero,i.size,i.bytes))=some (some (.nl),1,24):=by kernel_rfl
def xh (l:List aq) (k:Nat):List Value:=(List.range k).map fun n=>Value.int .i64 (dj l n)
theorem zjj (l:List aq) (k:Nat):xh l (k+1)=xh l k++ [.i (dj l k)]:=by simp [xh,List.range_succ]
theorem Em {α:Type} (f:Nat->α) (k:Nat):(List.range (k+1)).map f=(List.range k).map f++ [f k]:=by simp [List.range_succ]
theorem Dl (w:World) (b:Nat) (l:List aq) (s:ByteArray) (D:ra w b l) (E:s.size<=maxLen):
 Calls prog 199 #[.p b,.string s] w fun r w'=>r=.returned (.i (num l s))/\Below w.heap.size w w':=
 (Ad w b l s D E).mono fun _ _ ⟨h1,A⟩=>⟨h1,A ▸ br _ _⟩
theorem iu.drew {w:World} {b:Nat} {l:List aq} (h:iu w b l):iu w.drew b l:=by obtain ⟨D,h,A⟩:=h;exact ⟨D,h.drew,A⟩
theorem zjl {w:World} {X:Nat} {v:Value} {l:List aq} (h:w.ownsRow (X+2) 3 1 v l.length (xh l l.length)) (F:l.length<=1000):SL 1 RI (MT X [3] w) w v ((List.range l.length).map (dj l)):=by
 have A:((List.range l.length).map fun n=>([Value.int .i64 (dj l n)],dj l n)).length=l.length:=by simp
 have D:((List.range l.length).map fun n=>([Value.int .i64 (dj l n)],dj l n)).flatMap (·.1)=xh l l.length:=by
  rw [List.flatMap_map,xh];generalize List.range l.length=r;induction r with
  | nil=>rfl
  | cons x r ih=>rw [List.flatMap_cons,ih];rfl
 have:=vz (n:=1) (R:=RI) (T:=[3]) (zs:=(List.range l.length).map fun n=>([Value.int .i64 (dj l n)],dj l n)) (by rw [A,D];exact Ah h (B':=X) (by omega)) (fun z A=>by
  obtain ⟨s,E,rfl⟩:=List.mem_map.1 A;exact ⟨rfl,rfl⟩) (by simp) (by rw [A];unfold maxLen;omega)
 rwa [List.map_map]at this
structure sp (M:Nat->Prop) (w:World) (b:Nat) (l:List aq) (vC vS vF vN vT vL:Value) (Bm:Nat):Prop where
 bM:M b
 mM:M Bm
 le:∀k,M k->k<w.heap.size
 blk:w.heap[b]? =some (.cells #[vC,vS,vF,vN,vT,.map (some Bm),vL] 155 (0,0))
 sC:SL 4 RC (fun k=>M k/\k≠b) w vC l
 sS:SL 1 RI (fun k=>M k/\k≠b) w vS ((List.range l.length).map (dj l))
 sF:SL 1 (kr 3 RF) (fun k=>M k/\k≠b) w vF ((List.range l.length).map (fieldsOf l))
 sN:SL 1 (kr 1 RS) (fun k=>M k/\k≠b) w vN ((List.range l.length).map (fb l))
 sT:SL 1 (kr 2 RT) (fun k=>M k/\k≠b) w vT ((List.range l.length).map (ew l))
 sL:SL 1 (kr 1 RO) (fun k=>M k/\k≠b) w vL ((List.range l.length).map (di l))
 nm:iu w Bm l
theorem sp.kp {M:Nat->Prop} {w w':World} {b:Nat} (A:Kp M w w'):Kp (fun k=>M k/\k≠b) w w':=⟨A.size,fun k h D=>A.block k h.1 D⟩
theorem sp.kept {M:Nat->Prop} {w w':World} {b:Nat} {l:List aq} {I O J N V L:Value} {F:Nat} (h:sp M w b l I O J N V L F) (G:Kp M w w'):sp M w' b l I O J N V L F:=
 have A:=sp.kp (b:=b) G
 ⟨h.bM,h.mM,fun k Y=>ll3 (h.le k Y) G.size,(G.block b h.bM (h.le b h.bM)).trans h.blk,h.sC.keptC A,h.sS.keptI A,h.sF.keptSl A fun _ _ h=>h,h.sN.keptSl A fun _ _ h=>h,h.sT.keptSl A fun _ _ h=>h,h.sL.keptSl A fun _ _ h=>h,by
  obtain ⟨D,⟨W,E,e,h'⟩,X⟩:=h.nm;exact ⟨D,⟨W,E,(G.block F h.mM (h.le F h.mM)).trans e,h'⟩,X⟩⟩
theorem sp.mono {M M':Nat->Prop} {w:World} {b:Nat} {l:List aq} {F L G J N I:Value} {E:Nat} (h:sp M w b l F L G J N I E) (D:∀k,M k->M' k) (O:∀k,M' k->k<w.heap.size):sp M' w b l F L G J N I E:=
 have A:∀k,(M k/\k≠b)->(M' k/\k≠b):=fun k h=>⟨D k h.1,h.2⟩
 ⟨D _ h.bM,D _ h.mM,O,h.blk,h.sC.monoC A,h.sS.monoI A,h.sF.monoSl A fun _ _ h=>h,h.sN.monoSl A fun _ _ h=>h,h.sT.monoSl A fun _ _ h=>h,h.sL.monoSl A fun _ _ h=>h,h.nm⟩
theorem sp.web {M:Nat->Prop} {w:World} {b:Nat} {l:List aq} {E J F I L G:Value} {D:Nat} (h:sp M w b l E J F I L G D):ti w.heap.size w b l E J F I L G D:=
 have A:∀k,(M k/\k≠b)->k<w.heap.size:=fun k N=>h.le k N.1
 ⟨h.le _ h.bM,h.le _ h.mM,nlq _,h.blk,h.sC.monoC A,h.sS.monoI A,h.sF.monoSl A fun _ _ h=>h,h.sN.monoSl A fun _ _ h=>h,h.sT.monoSl A fun _ _ h=>h,h.sL.monoSl A fun _ _ h=>h,h.nm⟩
theorem zjm (w:World) (B:Nat) (l:List aq) (v:Value) (hv:SL 4 RC (· <B) w v l) (hB:B<=w.heap.size) (bm:dy l=0):
 Calls prog 160 #[v] w fun r w'=>r=.returned (.p (w.heap.size+1))/\Below w.heap.size w w'/\∃vS vF vN vT vL,sp (fun k=>(k<B\/w.heap.size<=k)/\k<w'.heap.size) w' (w.heap.size+1) l v vS vF vN vT vL w.heap.size:=by
 obtain ⟨iI,eh,cy,c0,c1⟩:=info_parts jy;obtain ⟨iL,ei,c2,c3,c4⟩:=info_parts infoL;obtain ⟨iF,eg,ct,cv,cx⟩:=info_parts Bp;obtain ⟨iN,ej,c5,c6,c7⟩:=info_parts Bq;obtain ⟨iT,ek,c8,c9,dd⟩:=info_parts Br;have eq:=@run_makeMap prog;obtain ⟨hN,a4⟩:=zgm bm;have b6:=ag a4;have HV:=ag hv;obtain ⟨ao,cl,rfl,-⟩:=hv;clear bm a4;have ck:Below w.heap.size w ((w.alloc (.map #[] 0)).alloc (.cells #[.slice ao l.length cl,.nl,.nl,.nl,.nl,.map (some w.heap.size),.nl] 155)):=((br _ _).alloc (nlq _) _).alloc (by simp) _;have co:((w.alloc (.map #[] 0)).alloc (.cells #[.slice ao l.length cl,.nl,.nl,.nl,.nl,.map (some w.heap.size),.nl] 155)).heap[w.heap.size+1]? =some (.cells #[.slice ao l.length cl,.nl,.nl,.nl,.nl,.map (some w.heap.size),.nl] 155 (0,0)):=by have:=heap_alloc_new (w.alloc (.map #[] 0)) (.cells #[.slice ao l.length cl,.nl,.nl,.nl,.nl,.map (some w.heap.size),.nl] 155);simpa using this
 have cr:iu ((w.alloc (.map #[] 0)).alloc (.cells #[.slice ao l.length cl,.nl,.nl,.nl,.nl,.map (some w.heap.size),.nl] 155)) w.heap.size []:=⟨_,(World.ownsMap_made w _ _ _).alloc _,zcd⟩;have ce:=ag (And.intro ck (And.intro co cr));clear ck co cr;generalize hXX:w.heap.size=X at*;go_enter func160,ntmps160;go_wp2_with fail;go_loopw [21] (fun i wr=>∃k:Nat,k<=l.length/\i=.i k/\Hid (Below X w wr/\wr.heap[X+1]? =some (.cells #[.slice ao l.length cl,.nl,.nl,.nl,.nl,.map (some X),.nl] 155 (0,0))/\iu wr X (l.take k))) (fun i _=>l.length - (intOf i).toNat)
 case atStart=>exact ⟨0,n0q _,rfl,ce.o⟩
 case round=>
  obtain ⟨k,hk,rfl,a0⟩:=hrel;clear ce;obtain ⟨Z,I,ah⟩:=a0.o;have al:X<=wr.heap.size:=by have:=Z.size;omega
  have af:X+1<wr.heap.size:=bz I;by_cases av:k<l.length
  ·obtain ⟨b,off,vf,vm,rfl,hb,e0,e1,e2,e3,ef,em,bc,bf⟩:=(HV.o.keptC (Kp.below (Z.mono hB))).atC k av;obtain ⟨fo,cf,rfl,-⟩:=ef;obtain ⟨mo,cm,rfl,-⟩:=em;have m5:=bp I 5 (x:=.map (some X)) rfl;obtain ⟨D,Y,hD⟩:=ah;have bh:(l.take k).length=k:=by simp;omega
   have bn:keyOf prog 9 (.string l[k].name)=some (key l[k].name):=Go.WideMaps.keyOf_string_mk underlying9 bc;obtain ⟨w2,eo,aw,b3⟩:=World.ownsMap.update (w:=(wr.alloc (.cells #[.string l[k].name,.string l[k].bv,.slice fo l[k].fields.length cf,.slice mo l[k].be.length cm] 162)).drew) ((Y.alloc _).drew) Fa underlying152 (by rw [bh];unfold maxLen;omega) bn (plainElem_int (H:=Unit) underlying3 (a:=(k:Int)) (WalkArith.wf_i64 (by omega)));have b2:=zce hD (Y.tidy Fa) l[k];have d0:Hid (Below X w w2/\w2.heap[X+1]? =some (.cells #[.slice (some ⟨b,off,none⟩) l.length cl,.nl,.nl,.nl,.nl,.map (some X),.nl] 155 (0,0))/\iu w2 X (l.take (k+1))):=by
    refine ⟨((Z.alloc al (.cells #[.string l[k].name,.string l[k].bv,.slice fo l[k].fields.length cf,.slice mo l[k].be.length cm] 162)).drew).grown b3 (by show X<=(wr.alloc _).heap.size;simp;omega) (fun q e=>by cases e;exact nlq _),?_,?_⟩
    ·rw [b3.block (X+1) (by show X+1<(wr.alloc _).heap.size;simp;omega) (by simp)];exact (Below.heap_alloc _ _ _ af).trans I
    rw [List.take_succ_eq_append_getElem av];rw [bh]at b2 aw;refine ⟨_,?_,b2⟩;rw [List.length_append,bh];exact aw
   clear Y aw b3 hD b2 bn I bh bc bf;have ci:(0:Int)<=k:=by omega
   have cj:(k:Int)<l.length:=by omega
   go_wp2_with fail;go_region
   all_goals
    go_wp2_with fail;go_roundw
    case rel=>exact ⟨k+1,by omega,by go_num,d0.o⟩
    case measure=>simp [intOf];omega
  have ca:Hid (iu wr X l):=by have:=ah;rwa [List.take_of_length_le (by omega)]at this
  have b5:=ag Z;have b7:=ag I;clear Z I ah a0;go_wp2_with fail;go_loopw [36] (fun i wr=>∃(k:Nat) (vS:Value),k<=l.length/\i=.i k/\Hid (Below X w wr/\wr.heap[X+1]? =some (.cells #[.slice ao l.length cl,vS,.nl,.nl,.nl,.map (some X),.nl] 155 (0,0))/\iu wr X l/\wr.ownsRow (X+2) 3 1 vS k (xh l k))) (fun i _=>l.length - (intOf i).toNat)
  case atStart=>exact ⟨0,_,n0q _,rfl,b5.o,b7.o,ca.o,World.ownsRow_nil _ _ _ _⟩
  case round=>
   clear b5 b7 ca al af
   rename World=>wr
   obtain ⟨k,vS,hk,rfl,a0⟩:=hrel;obtain ⟨Z,I,ah,Y⟩:=a0.o;have al:X<=wr.heap.size:=by have:=Z.size;omega
   have af:X+1<wr.heap.size:=bz I;by_cases a5:k<l.length
   ·obtain ⟨b,off,vf,vm,rfl,hb,e0,e1,e2,e3,ef,em,bc,bf⟩:=(HV.o.keptC (Kp.below (Z.mono hB))).atC k a5;obtain ⟨fo,cf,rfl,-⟩:=ef;obtain ⟨mo,cm,rfl,-⟩:=em;have m1:=bp I 1 (x:=vS) rfl;have d8:Hid (num l l[k].bv=dj l k):=by show _=_;rw [dj,sm a5]
    have d4:Hid (ra (wr.alloc (.cells #[.string l[k].name,.string l[k].bv,.slice fo l[k].fields.length cf,.slice mo l[k].be.length cm] 162)).drew (X+1) l):=⟨X,(World.cell?_alloc_past (w:=wr) _ (X+1) 5 af).trans (bp I 5 rfl),(ah.kept (row:=none) (World.grownBy_alloc wr _ _) (by simp)).drew⟩;have ds:=ag I;have d5:=ag Y;have d3:=ag ah;have dz:=ag bf;have dl:=ag Z;have ci:(0:Int)<=k:=by omega
    have cj:(k:Int)<l.length:=by omega
    clear I Y ah bc bf Z a0
    go_upto_region 11 with fail
    go_region_law (first
     | (refine step_append_lies _ (by rfl) (.tmp 45) (.tmp 50) 22 (by rfl) (X+2) 3 iI (.i 0) 1 8 underlying22 eh cy c0 c1 rfl (by decide) vS k (xh l k) (by rfl) (V.o.alloc _) ⟨O.heap.size,0,none⟩ 1 1 [.i (num l l[k].bv)] (by rfl) rfl (World.news_of_block (heap_alloc_new O _)) (by intro u hu;simp at hu;subst hu;rfl) (by decide) J.o.1 J.o.2.1 J.o.2.2 _ rfl ?_;intro gA cA w9 E A _ ak;have G:∀q,vS.ownBlock=some q->X+2<=q:=fun q e=>(V.o.lt q e).1;have F:=(A.block (X+1) (by simp;omega) (fun e=>by have:=G _ e.symm;omega)).trans ((Below.heap_alloc _ _ _ an).trans L.o);have m9:=bp F 1 (x:=vS) rfl;have z9:=pj F 1;have a6:=bz F;have ai:=ag (And.intro E (And.intro A F));clear E A F G)
     | (go_simp;go_wp2_with (go_at_call 199;refine (Dl _ (X+1) l l[k].bv d4.o dz.o).mono ?_;rintro r O ⟨rfl,N⟩;have L:=ag ((N.block (X+1) (by show X+1<(wr.alloc _).heap.size;simp;omega)).trans ((Below.heap_alloc wr _ _ af).trans ds.o));have V:=ag (mf ((d5.o.alloc (.cells #[.string l[k].name,.string l[k].bv,.slice fo l[k].fields.length cf,.slice mo l[k].be.length cm] 162)).kept (w':=(wr.alloc (.cells #[.string l[k].name,.string l[k].bv,.slice fo l[k].fields.length cf,.slice mo l[k].be.length cm] 162)).drew) (row:=none) ⟨rfl,rfl,rfl,nlq _,fun _ _ _=>rfl⟩ (by cases vS.ownBlock<;>simp)) N);have m7:=bp L.o 1 (x:=vS) rfl;have an:=bz L.o;have d2:=ag (iu.below ((d3.o.kept (row:=none) (World.grownBy_alloc wr (.cells #[.string l[k].name,.string l[k].bv,.slice fo l[k].fields.length cf,.slice mo l[k].be.length cm] 162) _) (by simp)).drew) N (by show X<(wr.alloc _).heap.size;simp;omega));have bi:=ag (((dl.o.alloc al (.cells #[.string l[k].name,.string l[k].bv,.slice fo l[k].fields.length cf,.slice mo l[k].be.length cm] 162)).drew).trans (N.mono (by show X<=(wr.alloc _).heap.size;simp;omega)));have J:Hid (k+1<=maxLen/\(k+1)*8<=140737488355328/\X+2<=(O.alloc (.cells #[.i (num l l[k].bv)] 3)).heap.size):=⟨by unfold maxLen;omega,by omega,by simp;omega⟩;clear N)))
    all_goals
     obtain ⟨E,A,F⟩:=ai.o;have G:∀q,vS.ownBlock=some q->X+2<=q:=fun q e=>(V.o.lt q e).1;have bl:Below X w (w9.setCell ⟨X+1,1,none⟩ (.slice (some ⟨gA,0,none⟩) (k+1) cA))/\(w9.setCell ⟨X+1,1,none⟩ (.slice (some ⟨gA,0,none⟩) (k+1) cA)).heap[X+1]? =some (.cells #[.slice (some ⟨b,off,none⟩) l.length cl,.slice (some ⟨gA,0,none⟩) (k+1) cA,.nl,.nl,.nl,.map (some X),.nl] 155 (0,0))/\iu (w9.setCell ⟨X+1,1,none⟩ (.slice (some ⟨gA,0,none⟩) (k+1) cA)) X l/\(w9.setCell ⟨X+1,1,none⟩ (.slice (some ⟨gA,0,none⟩) (k+1) cA)).ownsRow (X+2) 3 1 (.slice (some ⟨gA,0,none⟩) (k+1) cA) (k+1) (xh l (k+1)):=by
      have cs:X<=O.heap.size:=by have:=bi.o.size;omega
      refine ⟨((bi.o.alloc cs _).grown A (by simp;omega) (fun q e=>by have:=G q e;omega)).setCell (by simp) _,rr F _,?_,?_⟩
      ·exact (((d2.o.kept (row:=none) (World.grownBy_alloc O _ _) (by simp)).kept A (fun e=>by have:=G _ e.symm;omega)).kept (row:=some (X+1)) (ow (World.grownBy.refl _ _) _ _ (Or.inl rfl)) (by simp))
      rw [zjj,<-d8.o];exact ownsRow_setCell_below E (by simp) _
     have aj:=ag bl;clear E A F G bl ai;go_wp2_with fail;go_roundw
     case rel=>exact ⟨k+1,_,by omega,by go_num,aj.o⟩
     case measure=>simp [intOf];omega
   have bg:k=l.length:=by omega
   have sS:=zjl (bg ▸ Y) (by omega);have bx:Hid (Wv w wr l (.slice ao l.length cl) vS (.nl) (.nl) (.nl) (.nl) [] [] [] []):=by refine ⟨by unfold Bl;rw [hXX];exact Z,by rw [hXX];exact I,by rw [hXX];exact sS,by rw [hXX];exact ah,World.ownsRow_nil _ _ _ _,(fun z hz=>by cases hz),World.ownsRow_nil _ _ _ _,(fun z hz=>by cases hz),World.ownsRow_nil _ _ _ _,(fun z hz=>by cases hz),World.ownsRow_nil _ _ _ _,(fun z hz=>by cases hz)⟩
   clear sS Z I ah Y a0 bg;obtain ⟨aS,cS,el⟩:∃aS cS,vS=.slice aS l.length cS:=by have:=bx.o.sS;obtain ⟨aS,cS,e,-⟩:=this;exact ⟨aS,cS,by simpa using e⟩
   subst el;go_wp2_with fail;have d1:Hid (True):=trivial;go_loopw [58] (fun i wr=>∃(k:Nat) (vF vN vT vL:Value) (zF:List (List Value×List bq)) (zN:List (List Value×List ByteArray)) (zT:List (List Value×List cw)) (zL:List (List Value×List Nat)),k<=l.length/\i=.i k/\Hid (Wv w wr l (.slice ao l.length cl) (.slice aS l.length cS) vF vN vT vL zF zN zT zL)/\
    Hid (zF.map (·.2)=(List.range k).map (fieldsOf l)/\zN.map (·.2)=(List.range k).map (fb l)/\zT.map (·.2)=(List.range k).map (ew l)/\zL.map (·.2)=(List.range k).map (di l))) (fun i _=>l.length - (intOf i).toNat)
   case atStart=>exact ⟨0,_,_,_,_,[],[],[],[],n0q _,rfl,bx.o,rfl,rfl,rfl,rfl⟩
   case round=>
    clear bx al af a5 hk av d1
    rename World=>wr
    obtain ⟨k,vF,vN,vT,vL,zF,zN,zT,zL,hk,rfl,HW,HZ⟩:=hrel;have af:X+1<wr.heap.size:=by have:=HW.o.lt;omega
    have al:X<=wr.heap.size:=by omega
    have cp:zF.length=k/\zN.length=k/\zT.length=k/\zL.length=k:=by obtain ⟨h1,h2,h3,h4⟩:=HZ.o;have g1:=congrArg List.length h1;have g2:=congrArg List.length h2;have g3:=congrArg List.length h3;have g4:=congrArg List.length h4;simp at g1 g2 g3 g4;exact ⟨g1,g2,g3,g4⟩
    have a1:=ag cp;clear cp;by_cases av:k<l.length
    ·have ci:(0:Int)<=k:=by omega
     have cj:(k:Int)<l.length:=by omega
     have a2:=ag (HW.o.grow ((br wr.heap.size wr).drew));have m6:wr.cell? ⟨X+1,6,none⟩=some vL:=by have:=HW.o.cell 6 (x:=vL) rfl;rwa [hXX]at this
     go_upto_region 16 with fail
     go_cut [] (fun W=>∃ay ad,Wv w W l (.slice ao l.length cl) (.slice aS l.length cS) vF vN vT ay zF zN zT ad/\ad.map (·.2)=(List.range (k+1)).map (di l))
     case first=>
      go_region_law (first
       | (refine step_append_lies _ (by rfl) (.tmp 65) (.tmp 69) 153 (by rfl) (X+2) 22 iL (.nl) 1 24 underlying153 ei c2 c3 c4 rfl (by decide) vL zL.length (zL.flatMap (·.1)) (by rfl) (V.o.alloc _) ⟨O.heap.size,0,none⟩ 1 1 [.slice au (di l k).length cu] (by rfl) rfl (World.news_of_block (heap_alloc_new O _)) (by intro u hu;simp at hu;subst hu;rfl) (by decide) J.o.1 J.o.2.1 J.o.2.2 _ rfl ?_;intro gA cA w9 E A _ ak;have G:∀q,vL.ownBlock=some q->X+2<=q:=fun q e=>(V.o.lt q e).1;have F:=(A.block (X+1) (by simp;omega) (fun e=>by have:=G _ e.symm;omega)).trans ((Below.heap_alloc _ _ _ an).trans L.o);have m9:=bp F 6 (x:=vL) rfl;have z9:=pj F 6;have a6:=bz F;have ai:=ag (And.intro E A);clear E A F G)
       | (go_simp;go_wp2_with (go_at_call 200;refine (zf7 _ wr.heap.size (X+1) l k av ao cl (.slice aS l.length cS) (hXX ▸ a2.o.cell 0 rfl) (hXX ▸ a2.o.cell 1 rfl) (a2.o.sS.monoI fun _ hk=>hk.lt) (nlq _) hN).mono ?_;rintro r O ⟨N,u7,rfl,ap⟩;have ac:=ag (a2.o.grow N);have a3:=ag (ap.monoO (M':=MT w.heap.size [3] O) fun _ hk=>hk.more (by rw [hXX];exact al) (fun _ ht=>ht));obtain ⟨au,cu,rfl,-⟩:=ap;have L:Hid (O.heap[X+1]? =_):=hXX ▸ ac.o.blk;have V:Hid (O.ownsRow (X+2) 22 1 vL zL.length (zL.flatMap (·.1))):=hXX ▸ ac.o.oL;have m7:=bp L.o 6 (x:=vL) rfl;have an:=bz L.o;have J:Hid (zL.length+1<=maxLen/\(zL.length+1)*24<=140737488355328/\X+2<=(O.alloc (.cells #[.slice au (di l k).length cu] 22)).heap.size):=(by have hz:=a1.o.2.2.2;exact ⟨by unfold maxLen;omega,by omega,by simp;omega⟩);clear N)))
      all_goals
       have aj:=ag (ac.o.addL a3.o (hXX.symm ▸ ai.o.1) ai.o.2);go_wp2_with fail
       go_meet
       exact ⟨_,_,hXX ▸ aj.o,by rw [List.map_append,HZ.o.2.2.2,Em];rfl⟩
     case rest=>
      clear m6 HW a2 af al
      rename World=>W
      obtain ⟨ay,ad,hW,hZ⟩:=hcut;have aa:=ag hW;have b0:=ag hZ;clear hW hZ;have de:ad.length=k+1:=by have:=congrArg List.length b0.o;simpa using this
      have b1:=ag de;clear de;have cn:X+1<W.heap.size:=by have:=aa.o.lt;omega
      have ax:X<=W.heap.size:=by omega
      have az:=ag (aa.o.grow ((br W.heap.size W).drew));have m2:W.cell? ⟨X+1,2,none⟩=some vF:=by have:=aa.o.cell 2 (x:=vF) rfl;rwa [hXX]at this
      have a8:Hid (SL 4 RC (· <X) W.drew (.slice ao l.length cl) l):=(HV.o.keptC (Kp.below (az.o.below.mono (hXX.symm ▸ hB)))).monoC fun _ (hk:_<B)=>(by omega);have a9:Hid (SL 1 (kr 1 RO) (MT X [3,22] W.drew) W.drew ay (ad.map (·.2))):=hXX ▸ az.o.rowsL (by have:=b1.o;omega);have a7:Hid (∃h:k<(ad.map (·.2)).length,(ad.map (·.2))[k]=di l k):=⟨by have:=b1.o;simp;omega,by simp only [b0.o];simp⟩
      go_upto_region 17 with fail
      go_cut [] (fun W=>∃dg b4,Wv w W l (.slice ao l.length cl) (.slice aS l.length cS) dg vN vT ay b4 zN zT ad/\b4.map (·.2)=(List.range (k+1)).map (fieldsOf l))
      case first=>
       go_region_law (first
        | (refine step_append_lies _ (by rfl) (.tmp 78) (.tmp 82) 32 (by rfl) (X+2) 126 iF (.nl) 1 24 underlying32 eg ct cv cx rfl (by decide) vF zF.length (zF.flatMap (·.1)) (by rfl) (V.o.alloc _) ⟨O.heap.size,0,none⟩ 1 1 [.slice au (fieldsOf l k).length cu] (by rfl) rfl (World.news_of_block (heap_alloc_new O _)) (by intro u hu;simp at hu;subst hu;rfl) (by decide) J.o.1 J.o.2.1 J.o.2.2 _ rfl ?_;intro gA cA w9 E A _ ak;have G:∀q,vF.ownBlock=some q->X+2<=q:=fun q e=>(V.o.lt q e).1;have F:=(A.block (X+1) (by simp;omega) (fun e=>by have:=G _ e.symm;omega)).trans ((Below.heap_alloc _ _ _ an).trans L.o);have m9:=bp F 2 (x:=vF) rfl;have z9:=pj F 2;have a6:=bz F;have ai:=ag (And.intro E A);clear E A F G)
        | (go_simp;go_wp2_with (go_at_call 201;refine (zg5 _ X (X+1) l k av ao cl (hXX ▸ az.o.cell 0 rfl) a8.o ay (ad.map (·.2)) (hXX ▸ az.o.cell 6 rfl) a9.o a7.o.1 a7.o.2 ax hN (fun c hc=>(b6.o c hc).2.2.1)).mono ?_;rintro r O ⟨N,u7,rfl,ap⟩;have ac:=ag (az.o.grow N);have a3:=ag (ap.monoF (M':=MT w.heap.size [125] O) fun _ hk=>hk.more (by rw [hXX];exact ax) (fun _ ht=>ht));obtain ⟨au,cu,rfl,-⟩:=ap;have L:Hid (O.heap[X+1]? =_):=hXX ▸ ac.o.blk;have V:Hid (O.ownsRow (X+2) 126 1 vF zF.length (zF.flatMap (·.1))):=hXX ▸ ac.o.oF;have m7:=bp L.o 2 (x:=vF) rfl;have an:=bz L.o;have J:Hid (zF.length+1<=maxLen/\(zF.length+1)*24<=140737488355328/\X+2<=(O.alloc (.cells #[.slice au (fieldsOf l k).length cu] 126)).heap.size):=(by have hz:=a1.o.1;exact ⟨by unfold maxLen;omega,by omega,by simp;omega⟩);clear N)))
       all_goals
        have aj:=ag (ac.o.addF a3.o (hXX.symm ▸ ai.o.1) ai.o.2);go_wp2_with fail
        go_meet
        exact ⟨_,_,hXX ▸ aj.o,by rw [List.map_append,HZ.o.1,Em];rfl⟩
      case rest=>
       clear m2 aa az cn ax a8 a9
       rename World=>W
       obtain ⟨dg,b4,hW,hZ⟩:=hcut;have aa:=ag hW;have eb:=ag hZ;clear hW hZ;have cn:X+1<W.heap.size:=by have:=aa.o.lt;omega
       have ax:X<=W.heap.size:=by omega
       have a8:Hid (SL 4 RC (· <X) W (.slice ao l.length cl) l):=(HV.o.keptC (Kp.below (aa.o.below.mono (hXX.symm ▸ hB)))).monoC fun _ (hk:_<B)=>(by omega);have a9:Hid (SL 1 (kr 1 RO) (MT X [3,22] W) W ay (ad.map (·.2))):=hXX ▸ aa.o.rowsL (by have:=b1.o;omega)
       go_upto_region 19 with (go_at_call 202;refine (zhi _ X (X+1) l k av ao cl (hXX ▸ aa.o.cell 0 rfl) a8.o ay (ad.map (·.2)) (hXX ▸ aa.o.cell 6 rfl) a9.o a7.o.1 a7.o.2 ax hN (fun c hc=>(b6.o c hc).2.2.2.2.1)).mono ?_;rintro r O ⟨N,u7,t7,rfl,ap,df⟩;have ac:=ag (aa.o.grow N);have a3:=ag (ap.monoS (M':=MT w.heap.size [9] O) fun _ hk=>hk.more (by rw [hXX];exact ax) (fun _ ht=>ht));have ec:=ag (df.monoT (M':=MT w.heap.size [233] O) fun _ hk=>hk.more (by rw [hXX];exact ax) (fun _ ht=>ht));obtain ⟨au,cu,rfl,-⟩:=ap;obtain ⟨bu,du,rfl,-⟩:=df;clear N)
       have L:Hid (O.heap[X+1]? =_):=hXX ▸ ac.o.blk;have m7:=bp L.o 3 (x:=vN) rfl;have an:=bz L.o;have V:Hid (O.ownsRow (X+2) 225 1 vN zN.length (zN.flatMap (·.1))):=hXX ▸ ac.o.oN;have J:Hid (zN.length+1<=maxLen/\(zN.length+1)*24<=140737488355328/\X+2<=(O.alloc (.cells #[.slice au (fb l k).length cu] 225)).heap.size):=(by have hz:=a1.o.2.1;exact ⟨by unfold maxLen;omega,by omega,by simp;omega⟩)
       go_upto_region 20 with (at_builtin;refine wpList_append_lies _ rfl _ _ 33 rfl (X+2) 225 iN (.nl) 1 24 underlying33 ej c5 c6 c7 rfl (by decide) vN zN.length (zN.flatMap (·.1)) rfl (V.o.alloc _) ⟨O.heap.size,0,none⟩ 1 1 [.slice au (fb l k).length cu] rfl rfl (World.news_of_block (heap_alloc_new O _)) (by intro u hu;simp at hu;subst hu;rfl) (by decide) J.o.1 J.o.2.1 J.o.2.2 _ rfl ?_;intro gA cA w9 E A _ ak;have G:∀q,vN.ownBlock=some q->X+2<=q:=fun q e=>(V.o.lt q e).1;have F:=(A.block (X+1) (by simp;omega) (fun e=>by have:=G _ e.symm;omega)).trans ((Below.heap_alloc _ _ _ an).trans L.o);have m9:=bp F 3 (x:=vN) rfl;have z9:=pj F 3;have a6:=bz F;have bb:=ag (ac.o.addN a3.o (hXX.symm ▸ E) A);have hst:Stp w.heap.size [233] O (w9.setCell ⟨X+1,3,none⟩ (.slice (some ⟨gA,0,none⟩) (zN.length+1) cA)):=(((Stp.refl _ _ _).alloc _).trans (Stp.row A (V.o.alloc _) (by decide))).trans (Stp.set F (by decide) 3 _);have d6:=ag ((ec.o.keptT hst.kp).monoT fun _ hk=>hk.step hst);clear E A F G hst)
       rw [hXX]at bb;generalize hW9:w9.setCell ⟨X+1,3,none⟩ (.slice (some ⟨gA,0,none⟩) (zN.length+1) cA)=wz at*;have bs:Hid (wz.heap[X+1]? =_):=hXX ▸ bb.o.blk;have mz:=bp bs.o 4 (x:=vT) rfl;have en:=bz bs.o;have cc:Hid (wz.ownsRow (X+2) 226 1 vT zT.length (zT.flatMap (·.1))):=hXX ▸ bb.o.oT;have bo:Hid (zT.length+1<=maxLen/\(zT.length+1)*24<=140737488355328/\X+2<=(wz.alloc (.cells #[.slice bu (ew l k).length du] 226)).heap.size):=(by have hz:=a1.o.2.2.1;exact ⟨by unfold maxLen;omega,by omega,by simp;omega⟩);clear hW9 m9 z9 a6 ak m7 an
       go_upto_region 21 with (at_builtin;refine wpList_append_lies _ rfl _ _ 34 rfl (X+2) 226 iT (.nl) 1 24 underlying34 ek c8 c9 dd rfl (by decide) vT zT.length (zT.flatMap (·.1)) rfl (cc.o.alloc _) ⟨wz.heap.size,0,none⟩ 1 1 [.slice bu (ew l k).length du] rfl rfl (World.news_of_block (heap_alloc_new wz _)) (by intro u hu;simp at hu;subst hu;rfl) (by decide) bo.o.1 bo.o.2.1 bo.o.2.2 _ rfl ?_;intro gB cB wy E A _ ak;have G:∀q,vT.ownBlock=some q->X+2<=q:=fun q e=>(cc.o.lt q e).1;have F:=(A.block (X+1) (by simp;omega) (fun e=>by have:=G _ e.symm;omega)).trans ((Below.heap_alloc _ _ _ en).trans bs.o);have m9:=bp F 4 (x:=vT) rfl;have z9:=pj F 4;have a6:=bz F;have ea:=ag (bb.o.addT d6.o (hXX.symm ▸ E) A);clear E A F G)
       go_wp2_with fail;go_roundw
       case rel=>exact ⟨k+1,_,_,_,_,_,_,_,_,by omega,by go_num,hXX ▸ ea.o,eb.o,by rw [List.map_append,HZ.o.2.1,Em];rfl,by rw [List.map_append,HZ.o.2.2.1,Em];rfl,b0.o⟩
       case measure=>simp [intOf];omega
    have bg:k=l.length:=by omega
    have ch:Hid (sp (fun k=>(k<B\/X<=k)/\k<wr.heap.size) wr (X+1) l (.slice ao l.length cl) (.slice aS l.length cS) vF vN vT vL X):=by
     obtain ⟨h1,h2,h3,h4⟩:=HZ.o;obtain ⟨g1,g2,g3,g4⟩:=a1.o;rw [bg]at h1 h2 h3 h4;have sF:=HW.o.rowsF (by omega);have sN:=HW.o.rowsN (by omega);have sT:=HW.o.rowsT (by omega);have sL:=HW.o.rowsL (by omega);rw [h1]at sF;rw [h2]at sN;rw [h3]at sT;rw [h4]at sL;have ee:=hXX ▸ HW.o.blk;have hM:∀ {T:List Nat},155∉T->∀(k:Nat),MT w.heap.size T wr k->((k<B\/X<=k)/\k<wr.heap.size)/\k≠X+1:=fun hT k hk=>⟨⟨Or.inr (hXX ▸ hk.1),hk.lt⟩,fun e=>by
      obtain ⟨_,c,t,fr,h2,h3⟩:=hk;rw [e,ee]at h2;cases h2;exact hT h3⟩
     exact ⟨⟨Or.inr (by omega),af⟩,⟨Or.inr (nlq _),by omega⟩,fun _ h=>h.2,hXX ▸ HW.o.blk,(HV.o.keptC (Kp.below (HW.o.below.mono (hXX.symm ▸ hB)))).monoC (fun _ (hk:_<B)=>⟨⟨Or.inl hk,by omega⟩,by omega⟩),HW.o.sS.monoI (hM (by decide)),sF.monoSl (hM (by decide)) (fun _ _ h=>h),sN.monoSl (hM (by decide)) (fun _ _ h=>h),sT.monoSl (hM (by decide)) (fun _ _ h=>h),sL.monoSl (hM (by decide)) (fun _ _ h=>h),hXX ▸ HW.o.nm⟩
    have dk:Hid (Below X w wr):=hXX ▸ HW.o.below;clear HW HZ;go_wp2_with fail;go_ret;exact ⟨rfl,dk.o,_,_,_,_,_,ch.o⟩
end Go.Proofs.YtjdnmblggdobgaaGreat
namespace Go.Proofs.YtjdnmblggdobgaaGreat
open Go.RowKit Go.Maps Tryz
structure tg (lo hi:Nat) (W W':World):Prop where
 size:W.heap.size<=W'.heap.size
 block:∀k,k<W.heap.size->(k<lo\/hi<=k)->W'.heap[k]? =W.heap[k]?
theorem tg.trans {lo hi:Nat} {a b c:World} (h:tg lo hi a b) (k:tg lo hi b c):tg lo hi a c:=⟨lt3 h.size k.size,fun i hi A=>(k.block i (ll3 hi h.size) A).trans (h.block i hi A)⟩
theorem tg.grown {lo hi b:Nat} {W A:World} (h:W.grownBy A (some b)) (G:lo<=b) (F:b<hi):tg lo hi W A:=⟨h.size,fun k D E=>h.block k D (by intro e;injection e;omega)⟩
theorem tg.below {lo hi:Nat} {W A:World} (h:Below W.heap.size W A):tg lo hi W A:=⟨h.size,fun k D _=>h.block k D⟩
theorem zjn (w:World) (g:Nat) (cap:Array Value) (X:Value->World->Prop) (W:Int->Int->Prop) (Y Q:Nat) (x:Value) (aa:∀args w,(callFunc g args).run prog w=.ok (.enter g args) w)
 (ac:w.cell? ⟨Y,0,none⟩=some (.func (.func g) #[] cap)) (N:w.cell? ⟨Q,0,none⟩=some x) (hz:w.frozen? ⟨Q,0,none⟩=false)
 (hc:Calls prog g cap w fun r E=>Below w.heap.size w E/\((∃v,r=.returned v/\(∃p,v=.pointer p)/\X v E)\/∃e p,r=.panicked [wrongV e p]/\W e p)):
 Calls prog 198 #[.p Y,.p Q] w fun r w'=>
  (r=.returned (.tuple #[])/\∃v E,(∃p,v=.pointer p)/\X v E/\w'.cell? ⟨Q,0,none⟩=some v/\w.grownBy w' (some Q)/\E.grownBy w' (some Q)/\Below w.heap.size w E)\/
  (∃e p,r=.panicked [wrongV e p]/\W e p/\Below w.heap.size w w'):=by
 have Z:Q<w.heap.size:=World.block_lt_of_cell? w _ N;have V:=ag hc;clear hc;go_enter func198,ntmps198;go_wp2_with fail;refine V.o.mono ?_;rintro r D ⟨A,⟨v,rfl,hT,F⟩ | ⟨e,p,rfl,L⟩⟩
 rotate_left
 ·exact ⟨rfl,Or.inr ⟨e,p,rfl,L,A⟩⟩
 have O:D.cell? ⟨Q,0,none⟩=some x:=(A.cell (p:=⟨Q,0,none⟩) Z).trans N;have ad:D.frozen? ⟨Q,0,none⟩=false:=(A.frozen (p:=⟨Q,0,none⟩) Z).trans hz;have I:Hid (D.grownBy (D.setCell ⟨Q,0,none⟩ v) (some Q)):=ow (World.grownBy.refl _ _) _ _ (Or.inl rfl);have HG:Hid (w.grownBy (D.setCell ⟨Q,0,none⟩ v) (some Q)):=ow ⟨A.os,A.tape,A.output,A.size,fun k hk _=>A.block k hk⟩ _ _ (by simp);have G:=ag (World.cell?_setCell_same D ⟨Q,0,none⟩ v O);have J:=ag F;have HB:=ag A;have HT:=ag hT;obtain ⟨vv,rfl⟩:=hT;clear F A N hz V;go_wp2
 go_end0;exact Or.inl ⟨rfl,_,D,HT.o,J.o,G.o,HG.o,I.o,HB.o⟩
theorem Aq (args:Array Value) (w:World):(callFunc 198 args).run prog w=.ok (.enter 198 args) w:=by kernel_rfl
theorem qv {E F:Nat} {z:Value} (w A:World) (x:Value) (h:((((w.alloc (.cells #[x] E)).alloc (.cells #[.i 0,.i 0] 84)).alloc (.cells #[z] F)).alloc (.cells #[.i 0,.i 0] 84)).grownBy A (some (w.heap.size+2))):
 A.heap[w.heap.size+3]? =some (.cells #[.i 0,.i 0] 84 (0,0))/\Below w.heap.size w A/\A.cell? ⟨w.heap.size+1,0,none⟩=some (.i 0)/\A.cell? ⟨w.heap.size+1,1,none⟩=some (.i 0)/\
  (∀j,A.frozen? ⟨w.heap.size+1,j,none⟩=false)/\w.heap.size+4<=A.heap.size:=by
 have D:Below w.heap.size w ((((w.alloc (.cells #[x] E)).alloc (.cells #[.i 0,.i 0] 84)).alloc (.cells #[z] F)).alloc (.cells #[.i 0,.i 0] 84)):=((((br _ _).alloc (nlq _) _).alloc (by simp) _).alloc (by simp;omega) _).alloc (by simp;omega) _;have G:((((w.alloc (.cells #[x] E)).alloc (.cells #[.i 0,.i 0] 84)).alloc (.cells #[z] F)).alloc (.cells #[.i 0,.i 0] 84)).heap.size=w.heap.size+4:=by simp
 refine ⟨?_,rn D h (by omega),?_,?_,?_,by rw [<-G];exact h.size⟩
 ·rw [h.block (w.heap.size+3) (by omega) (by simp)];show ((((w.heap.push _).push _).push _).push _)[w.heap.size+3]? =_;rw [Array.getElem?_push,if_pos (by simp)]
 ·exact h.cell (a:=⟨w.heap.size+1,0,none⟩) (by simp [go_sem]) (by simp)
 ·exact h.cell (a:=⟨w.heap.size+1,1,none⟩) (by simp [go_sem]) (by simp)
 intro j;rw [World.frozen?_of_block (a:=⟨w.heap.size+1,j,none⟩) (h.block (w.heap.size+1) (by omega) (by simp))];simp [go_sem]
theorem zjo (w:World) (g:Nat) (cap:Array Value) (Ok:Value->World->Prop) (No:Int->Int->Prop) (af:∀args w,(callFunc g args).run prog w=.ok (.enter g args) w)
 (hc:∀W,Below w.heap.size w W->W.heap.size=w.heap.size+4->Calls prog g cap W fun r O=>Below W.heap.size W O/\((∃v,r=.returned v/\(∃p,v=.pointer p)/\Ok v O)\/∃e p,r=.panicked [wrongV e p]/\No e p))
 (hst:∀v W O,w.heap.size+4<=W.heap.size->tg w.heap.size (w.heap.size+4) W O->Ok v W->Ok v O):
 Calls prog 158 #[.func (.func g) #[] cap] w fun r w'=>Below w.heap.size w w'/\w.heap.size+4<=w'.heap.size/\
  ((∃v,r=.returned (.tuple #[v,.agg #[.i 0,.i 0]])/\(∃p,v=.pointer p)/\Ok v w')\/
   (∃e p,r=.returned (.tuple #[.pointer none,.agg #[.i e,.i p]])/\No e p)):=by
 have ap:=qj prog;have Y:Below w.heap.size w (((w.alloc (.cells #[.func (.func g) #[] cap] 213)).alloc (.cells #[.i 0,.i 0] 84)).alloc (.cells #[.pointer none] 148)):=(((br _ _).alloc (nlq _) _).alloc (by simp) _).alloc (by simp;omega) _;have ad:=Y.alloc Y.size (.cells #[.i 0,.i 0] 84);have HC:=ag hc;have G:=ag hst;have ac:=ag af;clear hc hst af;go_enter func158,ntmps158;go_wp2_with fail;refine (zb6 198 _ _ (fun E=>∃v,(∃p,v=.pointer p)/\E.cell? ⟨w.heap.size+2,0,none⟩=some v/\Ok v E/\Below w.heap.size w E/\
  (∃x y,E.cell? ⟨w.heap.size+1,0,none⟩=some x/\E.cell? ⟨w.heap.size+1,1,none⟩=some y)/\(∀j,E.frozen? ⟨w.heap.size+1,j,none⟩=false)/\w.heap.size+4<=E.heap.size)
  (fun e p E=>No e p/\E.cell? ⟨w.heap.size+2,0,none⟩=some (.pointer none)/\Below w.heap.size w E/\
  (∃x y,E.cell? ⟨w.heap.size+1,0,none⟩=some x/\E.cell? ⟨w.heap.size+1,1,none⟩=some y)/\(∀j,E.frozen? ⟨w.heap.size+1,j,none⟩=false)/\w.heap.size+4<=E.heap.size) (Aq _) ?hc).mono ?_
 case hc=>
  refine (zjn _ g cap Ok No w.heap.size (w.heap.size+2) (.pointer none) ac.o (by simp [go_sem]) (by simp [go_sem]) (by simp [go_sem]) (HC.o _ ad (by simp))).mono ?_;rintro r E (⟨rfl,v,O,hT,J,hc,A,an,al⟩ | ⟨e,p,rfl,hd,hb⟩)
  ·obtain ⟨a1,a2,a3,a4,a5,a6⟩:=qv w E _ A;refine ⟨by simpa using a1,Or.inl ⟨rfl,v,hT,hc,?_,a2,⟨.i 0,.i 0,a3,a4⟩,a5,a6⟩⟩;exact G.o v O E (by have:=al.size;simp at this;omega) (tg.grown an (by omega) (by omega)) J
  have ao:World.grownBy _ E (some (w.heap.size+2)):=⟨hb.os,hb.tape,hb.output,hb.size,fun k hk _=>hb.block k hk⟩;obtain ⟨a1,a2,a3,a4,a5,a6⟩:=qv w E _ ao;refine ⟨by simpa using a1,Or.inr ⟨e,p,rfl,hd,?_,a2,⟨.i 0,.i 0,a3,a4⟩,a5,a6⟩⟩;exact (hb.cell (p:=⟨w.heap.size+2,0,none⟩) (by simp)).trans (by simp [go_sem])
 rintro r D ⟨E,A,hr⟩;have hz:(((w.alloc (.cells #[.func (.func g) #[] cap] 213)).alloc (.cells #[.i 0,.i 0] 84)).alloc (.cells #[.pointer none] 148)).heap.size=w.heap.size+3:=by simp
 rw [hz]at A;clear Y ad hz HC ac;rcases hr with ⟨rfl,v,hT,hc,J,hB,⟨x,y,hx,hy⟩,I,L⟩ | ⟨e,p,rfl,hd,hc,hB,⟨x,y,hx,hy⟩,I,L⟩
 ·have c4:D.cell? ⟨w.heap.size+1+1,0,none⟩=some v:=A.cell hc (by simp);have V:D.cell? ⟨w.heap.size+1,0,none⟩=some x:=A.cell hx (by simp);have X:D.cell? ⟨w.heap.size+1,1,none⟩=some y:=A.cell hy (by simp);have z3:∀j,D.frozen? ⟨w.heap.size+1,j,none⟩=false:=fun j=>(World.frozen?_of_block (a:=⟨w.heap.size+1,j,none⟩) (A.block (w.heap.size+1) (by omega) (by simp))).trans (I j);have F:w.heap.size+4<=D.heap.size:=lt3 L A.size;have ah:w.heap.size+1<D.heap.size:=by omega
  have ai:w.heap.size+1+1<D.heap.size:=by omega
  have HT:=ag hT;have Z:Below w.heap.size w D:=rn hB A (by omega);have aj:=ag (G.o v E D L (tg.grown A (by omega) (by omega)) J);obtain ⟨vv,rfl⟩:=hT;clear J hc hx hy I A hB;go_wp2_with fail;go_region
  all_goals
   go_wp2
   obtain ⟨A,q0,q1⟩:=zb5 D (w.heap.size+1) 0 0 (.cells #[.i 0,.i 0] 84) V X;have aa:=rn Z A (by omega);have ak:=ag (G.o _ D _ F (tg.grown A (by omega) (by omega)) aj.o);have N:=lt3 F A.size;generalize ((D.setCell ⟨w.heap.size+1,0,none⟩ (.i 0)).setCell ⟨w.heap.size+1,1,none⟩ (.i 0)).alloc (.cells #[.i 0,.i 0] 84)=W9 at*;exact bodyPost_ret (v:=.tuple #[_,.agg #[.i 0,.i 0]]) (by simp [results,results158,go_sem,q0,q1]) rfl ⟨aa.drew,N,Or.inl ⟨_,rfl,HT.o,G.o _ W9 _ N ⟨nlq _,fun _ _ _=>rfl⟩ ak.o⟩⟩
 have c4:D.cell? ⟨w.heap.size+1+1,0,none⟩=some (.pointer none):=A.cell hc (by simp);have V:D.cell? ⟨w.heap.size+1,0,none⟩=some x:=A.cell hx (by simp);have X:D.cell? ⟨w.heap.size+1,1,none⟩=some y:=A.cell hy (by simp);have z3:∀j,D.frozen? ⟨w.heap.size+1,j,none⟩=false:=fun j=>(World.frozen?_of_block (a:=⟨w.heap.size+1,j,none⟩) (A.block (w.heap.size+1) (by omega) (by simp))).trans (I j);have F:w.heap.size+4<=D.heap.size:=lt3 L A.size;have ah:w.heap.size+1<D.heap.size:=by omega
 have ai:w.heap.size+1+1<D.heap.size:=by omega
 have HD:=ag hd;have Z:Below w.heap.size w D:=rn hB A (by omega);clear hd hc hx hy I A hB G;go_wp2_with fail;go_region
 all_goals
  go_wp2
  obtain ⟨A,q0,q1⟩:=zb5 D (w.heap.size+1) e p (.cells #[.i e,.i p] 84) V X;have aa:=rn Z A (by omega);have N:=lt3 F A.size;generalize ((D.setCell ⟨w.heap.size+1,0,none⟩ (.i e)).setCell ⟨w.heap.size+1,1,none⟩ (.i p)).alloc (.cells #[.i e,.i p] 84)=W9 at*;exact bodyPost_ret (v:=.tuple #[.pointer none,.agg #[.i e,.i p]]) (by simp [results,results158,go_sem,q0,q1]) rfl ⟨aa.drew,N,Or.inr ⟨_,_,rfl,HD.o⟩⟩
theorem zjp (w:World) (g:Nat) (cap:Array Value) (X:Value->World->Prop) (W:Int->Int->Prop) (Y Q:Nat) (x:Value) (aa:∀args w,(callFunc g args).run prog w=.ok (.enter g args) w)
 (ac:w.cell? ⟨Y,0,none⟩=some (.func (.func g) #[] cap)) (N:w.cell? ⟨Q,0,none⟩=some x) (hz:w.frozen? ⟨Q,0,none⟩=false)
 (hc:Calls prog g cap w fun r E=>Below w.heap.size w E/\((∃v,r=.returned v/\(∃n,v=.i n)/\X v E)\/∃e p,r=.panicked [wrongV e p]/\W e p)):
 Calls prog 127 #[.p Y,.p Q] w fun r w'=>
  (r=.returned (.tuple #[])/\∃v E,(∃n,v=.i n)/\X v E/\w'.cell? ⟨Q,0,none⟩=some v/\w.grownBy w' (some Q)/\E.grownBy w' (some Q)/\Below w.heap.size w E)\/
  (∃e p,r=.panicked [wrongV e p]/\W e p/\Below w.heap.size w w'):=by
 have Z:Q<w.heap.size:=World.block_lt_of_cell? w _ N;have V:=ag hc;clear hc;go_enter func127,ntmps127;go_wp2_with fail;refine V.o.mono ?_;rintro r D ⟨A,⟨v,rfl,hT,F⟩ | ⟨e,p,rfl,L⟩⟩
 rotate_left
 ·exact ⟨rfl,Or.inr ⟨e,p,rfl,L,A⟩⟩
 have O:D.cell? ⟨Q,0,none⟩=some x:=(A.cell (p:=⟨Q,0,none⟩) Z).trans N;have ad:D.frozen? ⟨Q,0,none⟩=false:=(A.frozen (p:=⟨Q,0,none⟩) Z).trans hz;have I:Hid (D.grownBy (D.setCell ⟨Q,0,none⟩ v) (some Q)):=ow (World.grownBy.refl _ _) _ _ (Or.inl rfl);have HG:Hid (w.grownBy (D.setCell ⟨Q,0,none⟩ v) (some Q)):=ow ⟨A.os,A.tape,A.output,A.size,fun k hk _=>A.block k hk⟩ _ _ (by simp);have G:=ag (World.cell?_setCell_same D ⟨Q,0,none⟩ v O);have J:=ag F;have HB:=ag A;have HT:=ag hT;obtain ⟨vv,rfl⟩:=hT;clear F A N hz V;go_wp2
 go_end0;exact Or.inl ⟨rfl,_,D,HT.o,J.o,G.o,HG.o,I.o,HB.o⟩
theorem Ap (args:Array Value) (w:World):(callFunc 127 args).run prog w=.ok (.enter 127 args) w:=by kernel_rfl
theorem zjq (w:World) (g:Nat) (cap:Array Value) (Ok:Value->World->Prop) (No:Int->Int->Prop) (af:∀args w,(callFunc g args).run prog w=.ok (.enter g args) w)
 (hc:∀W,Below w.heap.size w W->W.heap.size=w.heap.size+4->Calls prog g cap W fun r O=>Below W.heap.size W O/\((∃v,r=.returned v/\(∃n,v=.i n)/\Ok v O)\/∃e p,r=.panicked [wrongV e p]/\No e p))
 (hst:∀v W O,w.heap.size+4<=W.heap.size->tg w.heap.size (w.heap.size+4) W O->Ok v W->Ok v O):
 Calls prog 65 #[.func (.func g) #[] cap] w fun r w'=>Below w.heap.size w w'/\w.heap.size+4<=w'.heap.size/\
  ((∃v,r=.returned (.tuple #[v,.agg #[.i 0,.i 0]])/\(∃n,v=.i n)/\Ok v w')\/
   (∃e p,r=.returned (.tuple #[.i 0,.agg #[.i e,.i p]])/\No e p)):=by
 have ap:=qj prog;have Y:Below w.heap.size w (((w.alloc (.cells #[.func (.func g) #[] cap] 110)).alloc (.cells #[.i 0,.i 0] 84)).alloc (.cells #[.i 0] 3)):=(((br _ _).alloc (nlq _) _).alloc (by simp) _).alloc (by simp;omega) _;have ad:=Y.alloc Y.size (.cells #[.i 0,.i 0] 84);have HC:=ag hc;have G:=ag hst;have ac:=ag af;clear hc hst af;go_enter func65,ntmps65;go_wp2_with fail;refine (zb6 127 _ _ (fun E=>∃v,(∃n,v=.i n)/\E.cell? ⟨w.heap.size+2,0,none⟩=some v/\Ok v E/\Below w.heap.size w E/\
  (∃x y,E.cell? ⟨w.heap.size+1,0,none⟩=some x/\E.cell? ⟨w.heap.size+1,1,none⟩=some y)/\(∀j,E.frozen? ⟨w.heap.size+1,j,none⟩=false)/\w.heap.size+4<=E.heap.size)
  (fun e p E=>No e p/\E.cell? ⟨w.heap.size+2,0,none⟩=some (.i 0)/\Below w.heap.size w E/\
  (∃x y,E.cell? ⟨w.heap.size+1,0,none⟩=some x/\E.cell? ⟨w.heap.size+1,1,none⟩=some y)/\(∀j,E.frozen? ⟨w.heap.size+1,j,none⟩=false)/\w.heap.size+4<=E.heap.size) (Ap _) ?hc).mono ?_
 case hc=>
  refine (zjp _ g cap Ok No w.heap.size (w.heap.size+2) (.i 0) ac.o (by simp [go_sem]) (by simp [go_sem]) (by simp [go_sem]) (HC.o _ ad (by simp))).mono ?_;rintro r E (⟨rfl,v,O,hT,J,hc,A,an,al⟩ | ⟨e,p,rfl,hd,hb⟩)
  ·obtain ⟨a1,a2,a3,a4,a5,a6⟩:=qv w E _ A;refine ⟨by simpa using a1,Or.inl ⟨rfl,v,hT,hc,?_,a2,⟨.i 0,.i 0,a3,a4⟩,a5,a6⟩⟩;exact G.o v O E (by have:=al.size;simp at this;omega) (tg.grown an (by omega) (by omega)) J
  have ao:World.grownBy _ E (some (w.heap.size+2)):=⟨hb.os,hb.tape,hb.output,hb.size,fun k hk _=>hb.block k hk⟩;obtain ⟨a1,a2,a3,a4,a5,a6⟩:=qv w E _ ao;refine ⟨by simpa using a1,Or.inr ⟨e,p,rfl,hd,?_,a2,⟨.i 0,.i 0,a3,a4⟩,a5,a6⟩⟩;exact (hb.cell (p:=⟨w.heap.size+2,0,none⟩) (by simp)).trans (by simp [go_sem])
 rintro r D ⟨E,A,hr⟩;have hz:(((w.alloc (.cells #[.func (.func g) #[] cap] 110)).alloc (.cells #[.i 0,.i 0] 84)).alloc (.cells #[.i 0] 3)).heap.size=w.heap.size+3:=by simp
 rw [hz]at A;clear Y ad hz HC ac;rcases hr with ⟨rfl,v,hT,hc,J,hB,⟨x,y,hx,hy⟩,I,L⟩ | ⟨e,p,rfl,hd,hc,hB,⟨x,y,hx,hy⟩,I,L⟩
 ·have c4:D.cell? ⟨w.heap.size+1+1,0,none⟩=some v:=A.cell hc (by simp);have V:D.cell? ⟨w.heap.size+1,0,none⟩=some x:=A.cell hx (by simp);have X:D.cell? ⟨w.heap.size+1,1,none⟩=some y:=A.cell hy (by simp);have z3:∀j,D.frozen? ⟨w.heap.size+1,j,none⟩=false:=fun j=>(World.frozen?_of_block (a:=⟨w.heap.size+1,j,none⟩) (A.block (w.heap.size+1) (by omega) (by simp))).trans (I j);have F:w.heap.size+4<=D.heap.size:=lt3 L A.size;have ah:w.heap.size+1<D.heap.size:=by omega
  have ai:w.heap.size+1+1<D.heap.size:=by omega
  have HT:=ag hT;have Z:Below w.heap.size w D:=rn hB A (by omega);have aj:=ag (G.o v E D L (tg.grown A (by omega) (by omega)) J);obtain ⟨vv,rfl⟩:=hT;clear J hc hx hy I A hB;go_wp2_with fail;go_region
  all_goals
   go_wp2
   obtain ⟨A,q0,q1⟩:=zb5 D (w.heap.size+1) 0 0 (.cells #[.i 0,.i 0] 84) V X;have aa:=rn Z A (by omega);have ak:=ag (G.o _ D _ F (tg.grown A (by omega) (by omega)) aj.o);have N:=lt3 F A.size;generalize ((D.setCell ⟨w.heap.size+1,0,none⟩ (.i 0)).setCell ⟨w.heap.size+1,1,none⟩ (.i 0)).alloc (.cells #[.i 0,.i 0] 84)=W9 at*;exact bodyPost_ret (v:=.tuple #[_,.agg #[.i 0,.i 0]]) (by simp [results,results65,go_sem,q0,q1]) rfl ⟨aa.drew,N,Or.inl ⟨_,rfl,HT.o,G.o _ W9 _ N ⟨nlq _,fun _ _ _=>rfl⟩ ak.o⟩⟩
 have c4:D.cell? ⟨w.heap.size+1+1,0,none⟩=some (.i 0):=A.cell hc (by simp);have V:D.cell? ⟨w.heap.size+1,0,none⟩=some x:=A.cell hx (by simp);have X:D.cell? ⟨w.heap.size+1,1,none⟩=some y:=A.cell hy (by simp);have z3:∀j,D.frozen? ⟨w.heap.size+1,j,none⟩=false:=fun j=>(World.frozen?_of_block (a:=⟨w.heap.size+1,j,none⟩) (A.block (w.heap.size+1) (by omega) (by simp))).trans (I j);have F:w.heap.size+4<=D.heap.size:=lt3 L A.size;have ah:w.heap.size+1<D.heap.size:=by omega
 have ai:w.heap.size+1+1<D.heap.size:=by omega
 have HD:=ag hd;have Z:Below w.heap.size w D:=rn hB A (by omega);clear hd hc hx hy I A hB G;go_wp2_with fail;go_region
 all_goals
  go_wp2
  obtain ⟨A,q0,q1⟩:=zb5 D (w.heap.size+1) e p (.cells #[.i e,.i p] 84) V X;have aa:=rn Z A (by omega);have N:=lt3 F A.size;generalize ((D.setCell ⟨w.heap.size+1,0,none⟩ (.i e)).setCell ⟨w.heap.size+1,1,none⟩ (.i p)).alloc (.cells #[.i e,.i p] 84)=W9 at*;exact bodyPost_ret (v:=.tuple #[.i 0,.agg #[.i e,.i p]]) (by simp [results,results65,go_sem,q0,q1]) rfl ⟨aa.drew,N,Or.inr ⟨_,_,rfl,HD.o⟩⟩
def kf (l:List aq):List QD:=[⟨203,6,dr l⟩,⟨204,5,qb l⟩,⟨205,4,ri l⟩,⟨206,5,mw l⟩,⟨207,4,jc l⟩,⟨208,4,lq l⟩,⟨209,5,sq l⟩,⟨210,6,ju l⟩,⟨211,4,nf l⟩,⟨212,2,mu l⟩]
def gw (l:List aq):Int:=if dy l=0 then dx (kf l) else dy l
theorem qs_SL (w:World) (b t:Nat) (l:List aq):SL 2 (RQ #[.p b]) (· <w.heap.size+1) (w.alloc (.cells #[.func (.func 203) #[.p b] #[],.i 6,.func (.func 204) #[.p b] #[],.i 5,.func (.func 205) #[.p b] #[],.i 4,.func (.func 206) #[.p b] #[],.i 5,.func (.func 207) #[.p b] #[],.i 4,.func (.func 208) #[.p b] #[],.i 4,.func (.func 209) #[.p b] #[],.i 5,.func (.func 210) #[.p b] #[],.i 6,.func (.func 211) #[.p b] #[],.i 4,.func (.func 212) #[.p b] #[],.i 2] t)) (.slice (some ⟨w.heap.size,0,none⟩) 10 10) (kf l):=by
 refine ⟨some ⟨w.heap.size,0,none⟩,10,rfl,by simp [kf],by unfold maxLen;simp [kf],fun k E=>?_⟩;have D:k<10:=by simpa [kf]using E
 refine ⟨w.heap.size,0,[.func (.func (kf l)[k].g) #[.p b] #[],.i (kf l)[k].e],rfl,by simp,by simp,rfl,?_,rfl⟩;have hc:∀j v,(#[.func (.func 203) #[.p b] #[],.i 6,.func (.func 204) #[.p b] #[],.i 5,.func (.func 205) #[.p b] #[],.i 4,.func (.func 206) #[.p b] #[],.i 5,.func (.func 207) #[.p b] #[],.i 4,.func (.func 208) #[.p b] #[],.i 4,.func (.func 209) #[.p b] #[],.i 5,.func (.func 210) #[.p b] #[],.i 6,.func (.func 211) #[.p b] #[],.i 4,.func (.func 212) #[.p b] #[],.i 2]:Array Value)[j]? =some v->(w.alloc (.cells #[.func (.func 203) #[.p b] #[],.i 6,.func (.func 204) #[.p b] #[],.i 5,.func (.func 205) #[.p b] #[],.i 4,.func (.func 206) #[.p b] #[],.i 5,.func (.func 207) #[.p b] #[],.i 4,.func (.func 208) #[.p b] #[],.i 4,.func (.func 209) #[.p b] #[],.i 5,.func (.func 210) #[.p b] #[],.i 6,.func (.func 211) #[.p b] #[],.i 4,.func (.func 212) #[.p b] #[],.i 2] t)).cell? ⟨w.heap.size,j,none⟩=some v:=fun j v h=>bp (heap_alloc_new w _) j h;match k,D with
 | 0,_=>
   intro j A;rcases (by omega:j=0\/j=1)with rfl | rfl
   ·exact hc 0 _ rfl
   exact hc 1 _ rfl
 | 1,_=>
   intro j A;rcases (by omega:j=0\/j=1)with rfl | rfl
   ·exact hc 2 _ rfl
   exact hc 3 _ rfl
 | 2,_=>
   intro j A;rcases (by omega:j=0\/j=1)with rfl | rfl
   ·exact hc 4 _ rfl
   exact hc 5 _ rfl
 | 3,_=>
   intro j A;rcases (by omega:j=0\/j=1)with rfl | rfl
   ·exact hc 6 _ rfl
   exact hc 7 _ rfl
 | 4,_=>
   intro j A;rcases (by omega:j=0\/j=1)with rfl | rfl
   ·exact hc 8 _ rfl
   exact hc 9 _ rfl
 | 5,_=>
   intro j A;rcases (by omega:j=0\/j=1)with rfl | rfl
   ·exact hc 10 _ rfl
   exact hc 11 _ rfl
 | 6,_=>
   intro j A;rcases (by omega:j=0\/j=1)with rfl | rfl
   ·exact hc 12 _ rfl
   exact hc 13 _ rfl
 | 7,_=>
   intro j A;rcases (by omega:j=0\/j=1)with rfl | rfl
   ·exact hc 14 _ rfl
   exact hc 15 _ rfl
 | 8,_=>
   intro j A;rcases (by omega:j=0\/j=1)with rfl | rfl
   ·exact hc 16 _ rfl
   exact hc 17 _ rfl
 | 9,_=>
   intro j A;rcases (by omega:j=0\/j=1)with rfl | rfl
   ·exact hc 18 _ rfl
   exact hc 19 _ rfl
 | k+10,h=>exact absurd h (by omega)
theorem zjr (l:List aq):∀q∈kf l,∀args w,(callFunc q.g args).run prog w=.ok (.enter q.g args) w:=by intro q A;simp only [kf,List.mem_cons,List.not_mem_nil,or_false]at A;rcases A with rfl | rfl | rfl | rfl | rfl | rfl | rfl | rfl | rfl | rfl<;>intro args w<;>kernel_rfl
theorem zjs (l:List aq):∀q∈kf l,q.e≠0:=by intro q A;simp only [kf,List.mem_cons,List.not_mem_nil,or_false]at A;rcases A with rfl | rfl | rfl | rfl | rfl | rfl | rfl | rfl | rfl | rfl<;>simp
theorem zjt (w:World) (B b:Nat) (l:List aq) (I O J N V L:Value) (G:Nat) (D:ti B w b l I O J N V L G) (k:Nat) (E:k<(kf l).length) (A:∀(j:Nat) (hj:j<(kf l).length),j<k->(kf l)[j].ans=true):
 Calls prog (kf l)[k].g #[.p b] w fun r w'=>r=.returned (.bool (kf l)[k].ans)/\Below w.heap.size w w':=by
 match k,E,A with
 | 0,E,A=>exact zdr _ B b l _ _ _ _ _ _ _ D
 | 1,E,A=>exact zds _ B b l _ _ _ _ _ _ _ D
 | 2,E,A=>exact zdv _ B b l _ _ _ _ _ _ _ D
 | 3,E,A=>exact zdx _ B b l _ _ _ _ _ _ _ D
 | 4,E,A=>exact zdz _ B b l _ _ _ _ _ _ _ D
 | 5,E,A=>exact zd8 _ B b l _ _ _ _ _ _ _ D (by have h:=A 1 (by simp [kf]) (by omega);have F:qb l=true:=h;rw [qb,Bool.and_eq_true]at F;simpa [mm]using F.2)
 | 6,E,A=>exact zd4 _ B b l _ _ _ _ _ _ _ D
 | 7,E,A=>exact zfv _ B b l _ _ _ _ _ _ _ D
 | 8,E,A=>exact zji _ B b l _ _ _ _ _ _ _ D (A 3 (by simp [kf]) (by omega))
 | 9,E,A=>exact zd7 _ B b l _ _ _ _ _ _ _ D
 | k+10,E,_=>exact absurd E (by simp [kf])
theorem zju (w:World) (B b:Nat) (l:List aq) (W vS X Z vT Y:Value) (I:Nat) (G:ti B w b l W vS X Z vT Y I):
 Calls prog 161 #[.p b] w fun r w'=>pc (dx (kf l)) r/\Below w.heap.size w w':=by
 have V:=qj prog;have F:=ag G;have A:=ag (fun o=>(br w.heap.size w).alloc (nlq _) o);have N:=ag (fun t=>qs_SL w b t l);clear G;go_enter func161,ntmps161;go_wp2_with fail;refine (zjf _ (w.heap.size+1) #[.p b] _ (kf l) (N.o _) (by simp) (zjr l) (zjs l) ?_).mono ?_
 ·intro k O D w' E;exact zjt w' B b l _ _ _ _ _ _ _ (F.o.below (((A.o _).mono F.o.le).trans (E.mono (lt3 F.o.le (A.o _).size)))) k O D
 rintro r w1 ⟨⟨hc,rfl⟩ | ⟨hc,rfl⟩,E⟩
 ·exact ⟨rfl,Or.inl ⟨hc,rfl⟩,(A.o _).trans (E.mono (A.o _).size)⟩
 have L:=ag hc;have J:=ag ((A.o _).trans (E.mono (A.o _).size));clear hc E;go_wp2_with fail;go_end0;exact ⟨Or.inr ⟨L.o,rfl⟩,J.o⟩
def zw (B:Nat) (w:World) (l:List aq) (v:Value) (p:Value) (w':World):Prop:=∃b vS vF vN vT vL Bm,p=.p b/\w.heap.size<=b/\sp (fun k=>(k<B\/w.heap.size<=k)/\k<w'.heap.size) w' b l v vS vF vN vT vL Bm
theorem zjv (w:World) (B P:Nat) (l:List aq) (v:Value) (N:SL 4 RC (· <B) w v l) (hB:B<=w.heap.size) (I:dy l=0) (hP:w.cell? ⟨P,0,none⟩=some v):
 Calls prog 159 #[.p P] w fun r w'=>Below w.heap.size w w'/\
  ((∃p,r=.returned p/\(∃q,p=.pointer q)/\dx (kf l)=0/\zw B w l v p w')\/∃e p,r=.panicked [wrongV e p]/\dx (kf l)=e/\e≠0):=by
 have X:=ag N;obtain ⟨Y,Z,rfl,-⟩:=N;go_enter func159,ntmps159;go_wp2_with fail;refine (zjm w B l _ X.o hB I).mono ?_;rintro r O ⟨rfl,G,vS,vF,vN,vT,vL,D⟩;have J:=ag D;have A:=ag G;clear D G;go_wp2_with fail;refine (zju O O.heap.size (w.heap.size+1) l _ _ _ _ _ _ _ J.o.web).mono ?_;rintro r w2 ⟨⟨hc,rfl⟩ | ⟨hc,rfl⟩,E⟩
 ·exact ⟨rfl,A.o.trans (E.mono A.o.size),Or.inr ⟨_,_,rfl,rfl,hc⟩⟩
 have W:=ag hc;have V:=ag (A.o.trans (E.mono A.o.size));have L:Hid (zw B w l (.slice Y l.length Z) (.p (w.heap.size+1)) w2):=⟨_,_,_,_,_,_,_,rfl,by omega,((J.o.kept ⟨E.size,fun k F _=>E.block k F.2⟩).mono (fun k F=>⟨F.1,ll3 F.2 E.size⟩) (fun k F=>F.2))⟩;clear hc E J;go_wp2_with fail;go_ret;exact ⟨V.o,Or.inl ⟨_,rfl,⟨_,rfl⟩,W.o,L.o⟩⟩
theorem Bo (args:Array Value) (w:World):(callFunc 159 args).run prog w=.ok (.enter 159 args) w:=by kernel_rfl
theorem zjw (w:World) (B:Nat) (l:List aq) (v:Value) (hv:SL 4 RC (· <B) w v l) (hB:B<=w.heap.size):
 Calls prog 101 #[v] w fun r w'=>Below w.heap.size w w'/\
  ((gw l=0/\∃p,r=.returned (.tuple #[p,.i 0])/\zw B w l v p w')\/(gw l≠0/\r=.returned (.tuple #[.pointer none,.i (gw l)]))):=by
 have ah:=qj prog;have HV:=ag hv;obtain ⟨ao,cl,rfl,-⟩:=hv;have I:=ag (fun o=>(br w.heap.size w).alloc (nlq _) o);go_enter func101,ntmps101;go_wp2_with fail;refine (zb8 _ B l _ (HV.o.keptC (Kp.below ((I.o _).mono hB))) (lt3 hB (I.o _).size)).mono ?_;rintro r w1 ⟨rfl,J⟩;have aa:=(I.o (.cells #[.slice ao l.length cl] 31)).trans (J.mono (I.o _).size);have ad:w1.cell? ⟨w.heap.size,0,none⟩=some (.slice ao l.length cl):=(J.cell (p:=⟨w.heap.size,0,none⟩) (by simp)).trans (by simp [go_sem]);have aj:w.heap.size+1<=w1.heap.size:=by have:=J.size;simpa using this
 have D:=ag aa;clear J aa;by_cases A:dy l=0
 ·have HT:Hid (gw l=dx (kf l)):=by show gw l=_;rw [gw,if_pos A]
  have ac:=ag A;rw [A];clear A;go_wp2_with fail;refine (zjo w1 159 _ (fun p w'=>dx (kf l)=0/\∃b Z V Y vT X N,p=.p b/\w.heap.size<=b/\sp (fun k=>(k<B\/w1.heap.size+4<=k)/\k<w'.heap.size) w' b l (.slice ao l.length cl) Z V Y vT X N) (fun e p=>dx (kf l)=e/\e≠0) Bo ?hc ?hst).mono ?_
  case hc=>
   intro W hW af;refine (zjv W B w.heap.size l _ (HV.o.keptC (Kp.below ((D.o.trans (hW.mono D.o.size)).mono hB))) (lt3 hB (D.o.trans (hW.mono D.o.size)).size) ac.o ((hW.cell (p:=⟨w.heap.size,0,none⟩) (by simp;omega)).trans ad)).mono ?_;rintro r w2 ⟨E,⟨p,rfl,hp,h0,b,Z,V,Y,vT,X,N,e,L,F⟩ | ⟨e,p,rfl,h1,h2⟩⟩
   ·refine ⟨E,Or.inl ⟨p,rfl,hp,h0,b,Z,V,Y,vT,X,N,e,by omega,?_⟩⟩;rw [af]at F;exact F
   exact ⟨E,Or.inr ⟨e,p,rfl,h1,h2⟩⟩
  case hst=>
   rintro p W W' hz hf ⟨h0,b,Z,V,Y,vT,X,N,e,L,F⟩;refine ⟨h0,b,Z,V,Y,vT,X,N,e,L,(F.kept ⟨hf.size,fun k G _=>hf.block k G.2 (by rcases G.1 with h | h;(have:=D.o.size;omega);omega)⟩).mono (fun k G=>⟨G.1,ll3 G.2 hf.size⟩) (fun k G=>G.2)⟩
  rintro r w2 ⟨E,ak,⟨p,rfl,-,h0,b,Z,V,Y,vT,X,N,rfl,L,F⟩ | ⟨e,p,rfl,h1,h2⟩⟩
  ·have O:=ag (fun o=>(D.o.trans (E.mono D.o.size)).alloc (lt3 D.o.size E.size) o);have HR:Hid (∀o n,gw l=0/\zw B w l (.slice ao l.length cl) (.p b) ((w2.alloc o).drewN n)):=fun o n=>⟨HT.o.trans h0,b,Z,V,Y,vT,X,N,rfl,L,(F.kept (w':=(w2.alloc o).drewN n) ⟨by show _<=(w2.alloc o).heap.size;simp,fun k G _=>Below.heap_alloc _ _ _ G.2⟩).mono (fun k G=>⟨G.1.imp id (fun h=>by omega),by show _<(w2.alloc o).heap.size;have:=G.2;simp;omega⟩) (fun k G=>G.2)⟩;clear F h0 E;go_wp2_with fail;go_quiet (fail);go_wp2_with fail;exact bodyPost_ret (v:=.tuple #[_,_]) (by simp [results,results101,go_sem]) rfl ⟨o7 (O.o _) _,Or.inl ⟨(HR.o (.map #[] 0) 0).1,_,rfl,(HR.o _ _).2⟩⟩
  have O:=ag (fun o=>(D.o.trans (E.mono D.o.size)).alloc (lt3 D.o.size E.size) o);have HR:Hid (gw l=e/\e≠0):=⟨HT.o.trans h1,h2⟩;clear E h1 h2;go_wp2_with fail;go_quiet (fail);go_wp2_with fail;exact bodyPost_ret (v:=.tuple #[_,_]) (by simp [results,results101,go_sem];exact ⟨rfl,rfl⟩) rfl ⟨o7 (O.o _) _,Or.inr ⟨by rw [HR.o.1];exact HR.o.2,by rw [HR.o.1]⟩⟩
 have HT:Hid (gw l=dy l):=by show gw l=_;rw [gw,if_neg A]
 have ai:(dy l==0)=false:=beq_eq_false_iff_ne.2 A;have HN:=ag A;clear A;generalize dy l=ce at*;go_wp2_with fail;exact bodyPost_ret (v:=.tuple #[_,_]) (by simp [results,results101,go_sem];exact ⟨rfl,rfl⟩) rfl ⟨D.o,Or.inr ⟨by rw [HT.o];exact HN.o,by rw [HT.o]⟩⟩
end Go.Proofs.YtjdnmblggdobgaaGreat
