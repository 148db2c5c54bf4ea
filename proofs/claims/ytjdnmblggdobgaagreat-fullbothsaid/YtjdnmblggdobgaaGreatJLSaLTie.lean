import Derived.Test.YtjdnmblggdobgaaGreatJLNoneLSaD
import Derived.Deep.RegionHeld3
import Derived.Deep.RegionLaw
import Derived.Deep.DeepCutAuto
set_option maxHeartbeats 16000000
set_option maxRecDepth 100000
namespace Go.Proofs.YtjdnmblggdobgaaGreat
open Go.RowKit Tryz List Or World
section
open Go.Maps
variable (w:World) (B b P I:Nat) (l:List aq) (vC vS vF vN vT vL:Value) (Bm:Nat)
theorem zi7 (F:uh B w b l vC vS vF vN vT vL Bm) (n:Nat) (hn:n<l.length) (u:Value) (m:ew) (hu:Av B w u m):
 Calls prog 255 #[.p b,.i n,u] w fun r w'=>r=.returned (.bool (mm l n m))/\Below w.heap.size w w':=by
 obtain ⟨ao,V,ho,ch,rfl,ea,-,a5,-,-⟩:=hu;have Z:=F.le;have al:((range l.length).map (fg l)).length=l.length:=by simp
 have am:((range l.length).map (fd l)).length=l.length:=by simp
 have c0:=F.cell0;have c3:=bg F.blk 3 (x:=vN) rfl;have c4:=bg F.blk 4 (x:=vT) rfl;have Y:=bz F.blk;have an:=F.sC;obtain ⟨aC,cC,a1,-⟩:=F.sC;obtain ⟨aN,cN,au,-⟩:=F.sN;obtain ⟨aT,cT,av,-⟩:=F.sT;rw [al]at au;rw [am]at av;subst a1 au av;obtain ⟨bN,oN,aL,cL,rfl,ay,e1,sL⟩:=F.sN.atSl n (by omega);obtain ⟨bT,oT,aU,cU,rfl,az,e2,sU⟩:=F.sT.atSl n (by omega);have g1:((range l.length).map (fg l))[n]'(by omega)=fg l n:=by simp
 have g2:((range l.length).map (fd l))[n]'(by omega)=fd l n:=by simp
 rw [g1]at e1 sL;rw [g2]at e2 sU;clear g1 g2 al am F;have a6:(0:Int)<=n:=by omega
 have a7:(n:Int)<l.length:=by omega
 have I:Hid (∀o k,Below w.heap.size w ((w.alloc o).drewN k)):=fun o k=>pa ((br w.heap.size w).alloc (nlq _) o) k;have HI:Hid (∀o k,Calls prog 234 #[.slice aL (fg l n).length cL,.string m.name] ((w.alloc o).drewN k) fun r w'=>r=.returned (.i (js (fg l n) m.name))/\w'=(w.alloc o).drewN k):=fun o k=>zfo _ (· <B) _ _ m.name (sL.keptS (Kp.below ((I.o o k).mono Z)));have ai:=zg6 (fg l n) m.name;have ae:=aj (zis l n);by_cases N:js (fg l n) m.name<0
 ·have HR:=aj (ziu N);have bb: -1<=js (fg l n) m.name:=by unfold js;split<;>omega
  generalize js (fg l n) m.name=ix at*;generalize (fg l n).length=nl at*;clear ea sL sU e2 ai ae;go_enter func255,ntmps255
  go_wp21
  go_quiet (first | (go_at_call 234;exact Calls.quiet_of_same (HI.o _ _)))
  go_wp21
  go_ret;exact ⟨by rw [HR.o];rfl,I.o _ _⟩
 obtain ⟨k,hk⟩:=Int.eq_ofNat_of_zero_le (by omega:0<=js (fg l n) m.name);have J:k<(fd l n).length:=by rw [<-zis l n];omega
 obtain ⟨c,j,ht,hc,hj⟩:=zir hn _ (gm J);have HR:=aj (ziv hk J ht hj);obtain ⟨bt,ot,rfl,a0,t0,t1⟩:=sU.atT k J;rw [ht]at t0 t1;obtain ⟨bc,oc,vf,vm,rfl,X,-,-,-,d3,-,em,-,-⟩:=an.atC c hc;rw [<-tu hc]at em;have EM:=aj em;obtain ⟨mo,cm,rfl,-⟩:=em;obtain ⟨E,L,va,vh,rfl,D,y0,y1,y2,y3,y4,y5,y6,y7,y8,sa,sh,-,-,-⟩:=EM.o.atM j hj;have ad:=aj sa;obtain ⟨af,ah,rfl,-⟩:=sa;obtain ⟨a3,a4,rfl,-⟩:=sh;have aa:Hid (∀W,Below w.heap.size w W->Calls prog 302 #[.slice ao m.args.length V,.slice af (cz l c).bd[j].args.length ah] W fun r w'=>r=.returned (.bool (di ep m.args (cz l c).bd[j].args))/\∃n,w'=W.drewN n):=fun W hW=>zd6 W (· <B) (· <B) _ _ _ _ (ea.keptK (Kp.below (hW.mono Z))) (ad.o.keptK (Kp.below (hW.mono Z)));have ak:=A4 m.ret.kind (cz l c).bd[j].ret.kind m.ret.dj (cz l c).bd[j].ret.dj;have bi:=xx;rw [zd4]at ak;have ba:(0:Int)<=j:=by omega
 have a2:(j:Int)<(cz l c).bd.length:=by omega
 have a8:(0:Int)<=c:=by omega
 have a9:(c:Int)<l.length:=by omega
 have bf:(0:Int)<=k:=by omega
 have bh:(k:Int)<(fd l n).length:=by omega
 have bj:¬((k:Int)<0):=by omega
 have hB:=aj (show ∀x:Nat,w.heap.size<=w.heap.size+x from fun x=>by omega);rw [hk]at HI;clear sL sU ht ea EM ad an N hk ai ae J;generalize (cz l c).bd[j]=y at*;generalize (cz l c).bd.length=ml at*;generalize (fd l n).length=tl at*;generalize (fg l n).length=nl at*;generalize di ep m.args y.args=ek at*;have ac:Hid (ep (⟨m.ret.kind,m.ret.dj⟩:fw) ⟨y.ret.kind,y.ret.dj⟩=ep m.ret y.ret):=rfl;rw [ac.o]at ak;clear ac;generalize ep m.ret y.ret=er at*;generalize m.static=sx at*;generalize y.static=sy at*;go_enter func255,ntmps255
 go_wp21
 go_quiet (first | (go_at_call 234;exact Calls.quiet_of_same (HI.o _ _)))
 go_wp21
 generalize hW5:((w.alloc (.cells #[.string m.name,.bool sx,.slice ao m.args.length V,.i m.ret.kind,.string m.ret.dj,.i m.stack,.i m.locals,.string m.code,.slice ho m.hands.length ch] 159)).drewN nq).alloc (.cells #[.i c,.i j] 233)=W5;have A:Below w.heap.size w W5:=hW5 ▸ (I.o _ _).alloc (by show w.heap.size<=(w.alloc _).heap.size;simp) _;have hX:W5.heap[w.heap.size]? =some (.cells #[.string m.name,.bool sx,.slice ao m.args.length V,.i m.ret.kind,.string m.ret.dj,.i m.stack,.i m.locals,.string m.code,.slice ho m.hands.length ch] 159 (0,0)):=by rw [<-hW5];exact (Below.heap_alloc _ _ _ (by show w.heap.size<(w.alloc _).heap.size;simp)).trans (heap_alloc_new w _)
 have hY:W5.heap[w.heap.size+1]? =some (.cells #[.i c,.i j] 233 (0,0)):=by
  have:=heap_alloc_new ((w.alloc (.cells #[.string m.name,.bool sx,.slice ao m.args.length V,.i m.ret.kind,.string m.ret.dj,.i m.stack,.i m.locals,.string m.code,.slice ho m.hands.length ch] 159)).drewN nq) (.cells #[.i c,.i j] 233);rw [hW5]at this;have e:((w.alloc (.cells #[.string m.name,.bool sx,.slice ao m.args.length V,.i m.ret.kind,.string m.ret.dj,.i m.stack,.i m.locals,.string m.code,.slice ho m.hands.length ch] 159)).drewN nq).heap.size=w.heap.size+1:=by show (w.alloc _).heap.size=_;simp
  rwa [e]at this
 clear hW5;have x1:=bg hX 1 (x:=.bool sx) rfl;have x2:=bg hX 2 (x:=.slice ao m.args.length V) rfl;have x3:=bg hX 3 (x:=.i m.ret.kind) rfl;have x4:=bg hX 4 (x:=.string m.ret.dj) rfl;have u0:=bg hY 0 (x:=.i c) rfl;have u1:=bg hY 1 (x:=.i j) rfl;have lX:=bz hX;have lY:=bz hY;have q0:=(A.cell (p:=⟨b,0,none⟩) Y).trans c0;have q3:=(A.cell (p:=⟨bc,oc+c*4+3,none⟩) X).trans d3;have z0:=(A.cell (p:=⟨E,L+j*9,none⟩) D).trans y0;have z1:=(A.cell (p:=⟨E,L+j*9+1,none⟩) D).trans y1;have z2:=(A.cell (p:=⟨E,L+j*9+2,none⟩) D).trans y2;have z3:=(A.cell (p:=⟨E,L+j*9+3,none⟩) D).trans y3;have z4:=(A.cell (p:=⟨E,L+j*9+4,none⟩) D).trans y4;have z5:=(A.cell (p:=⟨E,L+j*9+5,none⟩) D).trans y5;have z6:=(A.cell (p:=⟨E,L+j*9+6,none⟩) D).trans y6;have z7:=(A.cell (p:=⟨E,L+j*9+7,none⟩) D).trans y7;have z8:=(A.cell (p:=⟨E,L+j*9+8,none⟩) D).trans y8;have lb:b<W5.heap.size:=ll3 Y A.size;have lc:bc<W5.heap.size:=ll3 X A.size;have ly:E<W5.heap.size:=ll3 D A.size;have O:=aj A;clear hX hY A y0 y1 y2 y3 y4 y5 y6 y7 y8 d3 c0 c3 c4 e1 e2 t0 t1 Y ay az a0 X D HI I hB
 go_region_held3 (fun W'=>∀p:Addr,p.block<W5.heap.size->W'.cell? p=W5.cell? p) (exact fun p hp=>Below.cell (B:=W5.heap.size) (w:=W5) (by repeat (first | exact br _ _ | refine Below.drew ?_ | refine Below.alloc ?_ (by simp<;>omega) _ | refine Below.setCell ?_ (by simp) _)) hp) (fail)
 have G:Hid (∀o q,Below w.heap.size w ((W5.alloc o).drewN q)):=fun o q=>pa (O.o.alloc O.o.size o) q;have aw:Hid (∀o,Calls prog 302 #[.slice ao m.args.length V,.slice af y.args.length ah] (W5.alloc o).drew fun r w'=>r=.returned (.bool ek)/\∃n,w'=(W5.alloc o).drewN n):=fun o=>(aa.o (W5.alloc o).drew (G.o o 1)).mono fun _ _ ⟨h,n,e⟩=>⟨h,1+n,by rw [e];simp [drewN,drew,Nat.add_assoc]⟩;clear aa O;rename_i hS1;clear hS1;cases sx;rotate_left
 ·go_wp21
  go_ret;exact ⟨by rw [HR.o];rfl,G.o _ 1⟩
 cases sy;rotate_left
 ·go_wp21
  go_ret;exact ⟨by rw [HR.o];rfl,G.o _ 1⟩
 cases er
 ·go_wp21
  go_ret;exact ⟨by rw [HR.o];rfl,G.o _ 1⟩
 go_wp2_with (go_at_call 302;refine (aw.o _).mono ?_;rintro r w9 ⟨rfl,n9,rfl⟩);go_ret;exact ⟨by rw [HR.o];simp,G.o _ n9⟩
theorem zi8 (G:uh B w b l vC vS vF vN vT vL Bm) (i n:Nat) (hi:i<l.length) (hs:dv l i=n) (u:Value) (m:ew) (hu:Av B w u m) (hP:w.cell? ⟨P,0,none⟩=some (.p b)) (hI:w.cell? ⟨I,0,none⟩=some (.i i)):
 Calls prog 254 #[u,.p P,.p I] w fun r w'=>r=.returned (.bool (mm l n m))/\Below w.heap.size w w':=by
 have ac:=block_lt_of_cell? w _ hP;have aa:=block_lt_of_cell? w _ hI;have hn:n<l.length:=by have:=(Ej l (cz l i).b9).2;have e:dv l i=num l (cz l i).b9:=rfl;omega
 have ae:=bz G.blk;have c1:=bg G.blk 1 (x:=vS) rfl;have O:((range l.length).map (dv l)).length=l.length:=by simp
 have HM:Hid (∀W,Below w.heap.size w W->Calls prog 255 #[.p b,.i n,u] W fun r w'=>r=.returned (.bool (mm l n m))/\Below W.heap.size W w'):=fun W J=>zi7 W B b l vC vS vF vN vT vL Bm (G.below (J.mono G.le)) n hn u m (hu.below (J.mono G.le));obtain ⟨aS,cS,V,-⟩:=G.sS;rw [O]at V;subst V;obtain ⟨bS,oS,rfl,ad,e1⟩:=G.sS.atI i (by omega);have g1:((range l.length).map (dv l))[i]'(by omega)=dv l i:=by simp
 rw [g1,hs]at e1;obtain ⟨ao,X,Z,Y,rfl,-⟩:=hu;have ak:(0:Int)<=i:=by omega
 have al:(i:Int)<l.length:=by omega
 clear G O g1 hs hn;generalize hV:mm l n m=rv at*;clear hV;go_enter func254,ntmps254
 go_wp21
 obtain ⟨A,J⟩:∃A,A=w.alloc (.cells #[.string m.name,.bool m.static,.slice ao m.args.length X,.i m.ret.kind,.string m.ret.dj,.i m.stack,.i m.locals,.string m.code,.slice Z m.hands.length Y] 159):=⟨_,rfl⟩;have F:Below w.heap.size w A:=J ▸ (br w.heap.size w).alloc (nlq _) _;have D:A.heap[w.heap.size]? =some (.cells #[.string m.name,.bool m.static,.slice ao m.args.length X,.i m.ret.kind,.string m.ret.dj,.i m.stack,.i m.locals,.string m.code,.slice Z m.hands.length Y] 159 (0,0)):=J ▸ heap_alloc_new w _;rw [<-J];clear J;have af:Nonempty (Gr A.heap.size A):=⟨⟨A,br _ _⟩⟩;have L:Hid (∀g:Gr A.heap.size A,Calls prog 255 #[.p b,.i n,.agg #[.string m.name,.bool m.static,.slice ao m.args.length X,.i m.ret.kind,.string m.ret.dj,.i m.stack,.i m.locals,.string m.code,.slice Z m.hands.length Y]] g.w fun e ai=>e=.returned (.bool rv)/\∃g':Gr A.heap.size A,ai=g'.w):=fun g=>Gr.calls g (nlq _) (HM.o g.w (F.trans (g.ok.mono F.size)));have E:Hid (∀g:Gr A.heap.size A,Below w.heap.size w g.w):=fun g=>F.trans (g.ok.mono F.size);have k0:∀g:Gr A.heap.size A,g.w.cell? ⟨w.heap.size,0,none⟩=some (.string m.name):=fun g=>(g.ok.cell (p:=⟨w.heap.size,0,none⟩) (bz D)).trans (bg D 0 rfl);have k1:∀g:Gr A.heap.size A,g.w.cell? ⟨w.heap.size,1,none⟩=some (.bool m.static):=fun g=>(g.ok.cell (p:=⟨w.heap.size,1,none⟩) (bz D)).trans (bg D 1 rfl);have k2:∀g:Gr A.heap.size A,g.w.cell? ⟨w.heap.size,2,none⟩=some (.slice ao m.args.length X):=fun g=>(g.ok.cell (p:=⟨w.heap.size,2,none⟩) (bz D)).trans (bg D 2 rfl);have k3:∀g:Gr A.heap.size A,g.w.cell? ⟨w.heap.size,3,none⟩=some (.i m.ret.kind):=fun g=>(g.ok.cell (p:=⟨w.heap.size,3,none⟩) (bz D)).trans (bg D 3 rfl);have k4:∀g:Gr A.heap.size A,g.w.cell? ⟨w.heap.size,4,none⟩=some (.string m.ret.dj):=fun g=>(g.ok.cell (p:=⟨w.heap.size,4,none⟩) (bz D)).trans (bg D 4 rfl);have k5:∀g:Gr A.heap.size A,g.w.cell? ⟨w.heap.size,5,none⟩=some (.i m.stack):=fun g=>(g.ok.cell (p:=⟨w.heap.size,5,none⟩) (bz D)).trans (bg D 5 rfl);have k6:∀g:Gr A.heap.size A,g.w.cell? ⟨w.heap.size,6,none⟩=some (.i m.locals):=fun g=>(g.ok.cell (p:=⟨w.heap.size,6,none⟩) (bz D)).trans (bg D 6 rfl);have k7:∀g:Gr A.heap.size A,g.w.cell? ⟨w.heap.size,7,none⟩=some (.string m.code):=fun g=>(g.ok.cell (p:=⟨w.heap.size,7,none⟩) (bz D)).trans (bg D 7 rfl);have k8:∀g:Gr A.heap.size A,g.w.cell? ⟨w.heap.size,8,none⟩=some (.slice Z m.hands.length Y):=fun g=>(g.ok.cell (p:=⟨w.heap.size,8,none⟩) (bz D)).trans (bg D 8 rfl);have kP:∀g:Gr A.heap.size A,g.w.cell? ⟨P,0,none⟩=some (.p b):=fun g=>((E.o g).cell (p:=⟨P,0,none⟩) ac).trans hP;have kI:∀g:Gr A.heap.size A,g.w.cell? ⟨I,0,none⟩=some (.i i):=fun g=>((E.o g).cell (p:=⟨I,0,none⟩) aa).trans hI;have kb:∀g:Gr A.heap.size A,g.w.cell? ⟨b,1,none⟩=some (.slice (some ⟨bS,oS,none⟩) l.length cS):=fun g=>((E.o g).cell (p:=⟨b,1,none⟩) ae).trans c1;have kS:∀g:Gr A.heap.size A,g.w.cell? ⟨bS,oS+i,none⟩=some (.i n):=fun g=>((E.o g).cell (p:=⟨bS,oS+i,none⟩) ad).trans e1;clear HM D F hP hI c1 e1;refine Cz A.heap.size A (by kernel_rfl) (by kernel_rfl) (br _ _) ?_
 repeat (go_big_quiet_step (first | (exact L.o _)))
 refine wpQuiet_nil ?_;intro _ ah;obtain ⟨g,rfl⟩:=ah;have N:=aj (E.o g);generalize g.w=w2 at*;clear k0 k1 k2 k3 k4 k5 k6 k7 k8 kP kI kb kS af L E
 go_wp21
 go_ret;exact ⟨rfl,N.o⟩
theorem zi9 (hw:uh B w b l vC vS vF vN vT vL Bm) (ay:np l=true):
 Calls prog 211 #[.p b] w fun r w'=>r=.returned (.bool (ny l))/\Below w.heap.size w w':=by
 have a7:=ri prog;have c0:=hw.cell0;have a6:=bz hw.blk;have F:=hw.le;have HW:=aj hw;have HV:=aj hw.sC;have az:=aj ay;obtain ⟨ao,cl,rfl,-,a2,-⟩:=hw.sC;unfold maxLen at a2;have af:=aj (fun o=>(br w.heap.size w).alloc (nlq _) o);clear hw ay
 let step:Nat->Bool:=fun i=>decide ((cz l i).b9=(⟨#[]⟩:ByteArray))||(cz l i).bd.all (mm l (dv l i).toNat)
 have ak:Hid (ny l=(range l.length).all step):=rfl;go_enter func211,ntmps211
 go_wp21
 obtain ⟨I,X⟩:∃I,I=w.alloc (.cells #[.p b] 148):=⟨_,rfl⟩;have Y:Hid (Below w.heap.size w I):=X ▸ af.o _;have an:I.cell? ⟨w.heap.size,0,none⟩=some (.p b):=by rw [X];simp [go_sem]
 have av:w.heap.size<I.heap.size:=block_lt_of_cell? I _ an;rw [<-X];clear X af;go_loopw [11] (fun i wr=>∃k:Nat,k<=l.length/\i=.i k/\Hid ((∀j,j<k->step j=true)/\Below I.heap.size I wr)) (fun i _=>l.length - (intOf i).toNat)
 case atStart=>exact ⟨0,n0q _,rfl,(fun _ h=>by omega),br _ _⟩
 case round=>
  obtain ⟨k,hk,rfl,HQ⟩:=hrel;have ae:I.heap.size<=wr.heap.size:=HQ.o.2.size;have D:Hid (Below w.heap.size w wr):=Y.o.trans (HQ.o.2.mono Y.o.size);by_cases G:k<l.length
  ·obtain ⟨bc,oc,vf,vm,rfl,a5,e0,e1,e2,e3,ef,em,al,am⟩:=(HV.o.keptC (Kp.below (D.o.mono F))).atC k G;have EM:=aj em;obtain ⟨fo,cf,rfl,-⟩:=ef;obtain ⟨mo,cm,rfl,-⟩:=em;have O:Hid (step k=(decide (l[k].b9=(⟨#[]⟩:ByteArray))||l[k].bd.all (mm l (dv l k).toNat))):=by show step k=_;simp only [step,tu G]
   have a3:(0:Int)<=k:=by omega
   have a4:(k:Int)<l.length:=by omega
   have aa:Hid (step k=true->∀w',Below wr.heap.size wr w'->(∀j,j<k+1->step j=true)/\Below I.heap.size I w'):=fun h w' hb=>⟨fun j hj=>by
    by_cases a1:j<k
    ·exact HQ.o.1 j a1
    have:j=k:=by omega
    rw [this];exact h,HQ.o.2.trans (hb.mono ae)⟩
   have ai:Hid (step k=false->∀w',Below wr.heap.size wr w'->ny l=false/\Below w.heap.size w w'):=fun h w' hb=>⟨by
    rw [ak.o,all_eq_false];exact ⟨k,mem_range.2 G,by simp [h]⟩,D.o.trans (hb.mono (lt3 Y.o.size ae))⟩
   have E:Hid (∀o L,Below wr.heap.size wr ((wr.alloc o).alloc L)):=fun o L=>((br _ _).alloc (nlq _) o).alloc (by simp) L;have au:wr.cell? ⟨w.heap.size,0,none⟩=some (.p b):=(HQ.o.2.cell (p:=⟨w.heap.size,0,none⟩) av).trans an;by_cases A:l[k].b9=⟨#[]⟩
   ·have aw:=Cx A;have Z:=aj (aa.o (by rw [O.o];simp [A]));clear A O aa ai al am
    go_wp21
    go_roundw
    case rel=>exact ⟨k+1,by omega,by go_num,Z.o _ (E.o _ _)⟩
    case measure=>simp [intOf];omega
   have aw:l[k].b9.toList.isEmpty=false:=by
    cases hq:l[k].b9.toList with
    | nil=>exact absurd (Eo hq) A
    | cons _ _=>rfl
   obtain ⟨n,hn⟩:∃n:Nat,dv l k=n:=by
    have h1:=all_eq_true.1 az.o l[k] (gm G);have h2:ng l l[k].b9=true:=by simpa [A]using h1
    have h3:0<=dv l k:=by rw [dv,tu G];simpa [ng]using h2
    exact ⟨(dv l k).toNat,by omega⟩
   have V:Hid (step k=l[k].bd.all (mm l n)):=by show step k=_;rw [O.o,hn];simp [A]
   have ah:Hid (∀o L,Calls prog 245 #[.slice mo l[k].bd.length cm,.func (.func 254) #[] #[.p w.heap.size,.p wr.heap.size]] ((wr.alloc (.cells #[.i k] o)).alloc L) fun r w'=>r=.returned (.bool (l[k].bd.all (mm l n)))/\Below ((wr.alloc (.cells #[.i k] o)).alloc L).heap.size ((wr.alloc (.cells #[.i k] o)).alloc L) w'):=fun o L=>by
    have ac:=E.o (.cells #[.i k] o) L;have ad:Below B w ((wr.alloc (.cells #[.i k] o)).alloc L):=(D.o.mono F).trans (ac.mono (lt3 F D.o.size));refine zc0 _ B _ l[k].bd (EM.o.keptM (Kp.below (ac.mono (lt3 F D.o.size)))) (lt3 F ad.size) 254 #[] _ (mm l n) (fun args w=>by kernel_rfl) ?_;intro x _ u W X hu;have a0:((wr.alloc (.cells #[.i k] o)).alloc L).cell? ⟨wr.heap.size,0,none⟩=some (.i k):=by refine (cell?_alloc_past _ _ _ (by simp)).trans ?_;simp [go_sem]
    exact zi8 W B b w.heap.size wr.heap.size l _ vS vF vN vT vL Bm (HW.o.below (ad.trans (X.mono (lt3 F ad.size)))) k n G hn u x hu
     ((X.cell (p:=⟨w.heap.size,0,none⟩) (by simp;omega)).trans ((ac.cell (p:=⟨w.heap.size,0,none⟩) (ll3 av ae)).trans au)) ((X.cell (p:=⟨wr.heap.size,0,none⟩) (by simp;omega)).trans a0)
   clear A O al am hn EM;generalize l[k].bd.all (mm l n)=rv at*;cases rv
   ·have Z:=aj (ai.o V.o);go_wp2_with (go_at_call 245;refine (ah.o _ _).mono ?_;rintro r w9 ⟨rfl,J⟩);have N:=aj (Z.o w9 ((E.o _ _).trans (J.mono (E.o _ _).size)));clear J
    go_wp21
    go_ret;exact ⟨by rw [N.o.1];rfl,N.o.2⟩
   have Z:=aj (aa.o V.o);go_wp2_with (go_at_call 245;refine (ah.o _ _).mono ?_;rintro r w9 ⟨rfl,J⟩);have N:=aj (Z.o w9 ((E.o _ _).trans (J.mono (E.o _ _).size)));clear J
   go_wp21
   go_roundw
   case rel=>exact ⟨k+1,by omega,by go_num,N.o⟩
   case measure=>simp [intOf];omega
  have Z:Hid (ny l=true):=by show ny l=true;rw [ak.o,all_eq_true];exact fun j hj=>HQ.o.1 j (by have:=mem_range.1 hj;omega)
  go_wp21
  go_ret;exact ⟨by rw [Z.o];rfl,D.o⟩
end
section
open Go.Sort
variable {M M':Nat->Prop} {w w':World} {b X:Nat} {v:Value} {l:List aq} {E F L G J N I:Value}
theorem infoL:(prog.info? 22).map (fun i=>(i.zero,i.size,i.bytes))=some (some (.nl),1,24):=by kernel_rfl
theorem Cj:(prog.info? 126).map (fun i=>(i.zero,i.size,i.bytes))=some (some (.nl),1,24):=by kernel_rfl
theorem Ck:(prog.info? 225).map (fun i=>(i.zero,i.size,i.bytes))=some (some (.nl),1,24):=by kernel_rfl
theorem Cl:(prog.info? 226).map (fun i=>(i.zero,i.size,i.bytes))=some (some (.nl),1,24):=by kernel_rfl
def yp (l:List aq) (k:Nat):List Value:=(range k).map fun n=>Value.int .i64 (dv l n)
theorem zja (l:List aq) (k:Nat):yp l (k+1)=yp l k++ [.i (dv l k)]:=by simp [yp,range_succ]
theorem Ev {α:Type} (f:Nat->α) (k:Nat):(range (k+1)).map f=(range k).map f++ [f k]:=by simp [range_succ]
theorem Ds (w:World) (b:Nat) (l:List aq) (s:ByteArray) (D:sg w b l) (E:s.size<=maxLen):
 Calls prog 199 #[.p b,.string s] w fun r w'=>r=.returned (.i (num l s))/\Below w.heap.size w w':=
 (A6 w b l s D E).mono fun _ _ ⟨h1,A⟩=>⟨h1,A ▸ br _ _⟩
theorem iy.drew (h:iy w b l):iy w.drew b l:=by obtain ⟨D,h,A⟩:=h;exact ⟨D,h.drew,A⟩
theorem zjc (h:w.ownsRow (X+2) 3 1 v l.length (yp l l.length)) (F:l.length<=1000):SL 1 RI (MT X [3] w) w v ((range l.length).map (dv l)):=by
 have A:((range l.length).map fun n=>([Value.int .i64 (dv l n)],dv l n)).length=l.length:=by simp
 have D:((range l.length).map fun n=>([Value.int .i64 (dv l n)],dv l n)).flatMap (·.1)=yp l l.length:=by
  rw [flatMap_map,yp];generalize range l.length=r;induction r with
  | nil=>rfl
  | cons x r ih=>rw [flatMap_cons,ih];rfl
 have:=xr (n:=1) (R:=RI) (T:=[3]) (zs:=(range l.length).map fun n=>([Value.int .i64 (dv l n)],dv l n)) (by rw [A,D];exact Cv h (B':=X) (by omega)) (fun z A=>by
  obtain ⟨s,E,rfl⟩:=mem_map.1 A;exact ⟨rfl,rfl⟩) (by simp) (by rw [A];unfold maxLen;omega)
 rwa [map_map]at this
structure ua (M:Nat->Prop) (w:World) (b:Nat) (l:List aq) (vC vS vF vN vT vL:Value) (Bm:Nat):Prop where
 bM:M b
 mM:M Bm
 le:∀k,M k->k<w.heap.size
 blk:w.heap[b]? =some (.cells #[vC,vS,vF,vN,vT,.map (some Bm),vL] 155 (0,0))
 sC:SL 4 RC (fun k=>M k/\k≠b) w vC l
 sS:SL 1 RI (fun k=>M k/\k≠b) w vS ((range l.length).map (dv l))
 sF:SL 1 (la 3 RF) (fun k=>M k/\k≠b) w vF ((range l.length).map (fieldsOf l))
 sN:SL 1 (la 1 RS) (fun k=>M k/\k≠b) w vN ((range l.length).map (fg l))
 sT:SL 1 (la 2 RT) (fun k=>M k/\k≠b) w vT ((range l.length).map (fd l))
 sL:SL 1 (la 1 RO) (fun k=>M k/\k≠b) w vL ((range l.length).map (dt l))
 nm:iy w Bm l
theorem ua.kp (A:Kp M w w'):Kp (fun k=>M k/\k≠b) w w':=⟨A.size,fun k h D=>A.block k h.1 D⟩
theorem ua.kept {O J N V L:Value} {F:Nat} (h:ua M w b l I O J N V L F) (G:Kp M w w'):ua M w' b l I O J N V L F:=
 have A:=ua.kp (b:=b) G
 ⟨h.bM,h.mM,fun k Y=>ll3 (h.le k Y) G.size,(G.block b h.bM (h.le b h.bM)).trans h.blk,h.sC.keptC A,h.sS.keptI A,h.sF.keptSl A fun _ _ h=>h,h.sN.keptSl A fun _ _ h=>h,h.sT.keptSl A fun _ _ h=>h,h.sL.keptSl A fun _ _ h=>h,by
  obtain ⟨D,⟨W,E,e,h'⟩,X⟩:=h.nm;exact ⟨D,⟨W,E,(G.block F h.mM (h.le F h.mM)).trans e,h'⟩,X⟩⟩
theorem ua.mono {E:Nat} (h:ua M w b l F L G J N I E) (D:∀k,M k->M' k) (O:∀k,M' k->k<w.heap.size):ua M' w b l F L G J N I E:=
 have A:∀k,(M k/\k≠b)->(M' k/\k≠b):=fun k h=>⟨D k h.1,h.2⟩
 ⟨D _ h.bM,D _ h.mM,O,h.blk,h.sC.monoC A,h.sS.monoI A,h.sF.monoSl A fun _ _ h=>h,h.sN.monoSl A fun _ _ h=>h,h.sT.monoSl A fun _ _ h=>h,h.sL.monoSl A fun _ _ h=>h,h.nm⟩
theorem ua.web {F I L G:Value} {D:Nat} (h:ua M w b l E J F I L G D):uh w.heap.size w b l E J F I L G D:=
 have A:∀k,(M k/\k≠b)->k<w.heap.size:=fun k N=>h.le k N.1
 ⟨h.le _ h.bM,h.le _ h.mM,nlq _,h.blk,h.sC.monoC A,h.sS.monoI A,h.sF.monoSl A fun _ _ h=>h,h.sN.monoSl A fun _ _ h=>h,h.sT.monoSl A fun _ _ h=>h,h.sL.monoSl A fun _ _ h=>h,h.nm⟩
theorem zjd (w:World) (B:Nat) (l:List aq) (v:Value) (hv:SL 4 RC (· <B) w v l) (hB:B<=w.heap.size) (bl:ed l=0):
 Calls prog 160 #[v] w fun r w'=>r=.returned (.p (w.heap.size+1))/\Below w.heap.size w w'/\∃vS vF vN vT vL,ua (fun k=>(k<B\/w.heap.size<=k)/\k<w'.heap.size) w' (w.heap.size+1) l v vS vF vN vT vL w.heap.size:=by
 obtain ⟨iI,eg,cx,cy,c0⟩:=info_parts kh;obtain ⟨iL,eh,c1,c2,c3⟩:=info_parts infoL;obtain ⟨iF,ee,cs,ct,cv⟩:=info_parts Cj;obtain ⟨iN,ei,c4,c5,c6⟩:=info_parts Ck;obtain ⟨iT,ej,c7,c8,c9⟩:=info_parts Cl;have eo:=@run_makeMap prog;obtain ⟨hN,a5⟩:=zgd bl;have b5:=aj a5;have HV:=aj hv;obtain ⟨ao,cl,rfl,-⟩:=hv;clear bl a5;have cj:Below w.heap.size w ((w.alloc (.map #[] 0)).alloc (.cells #[.slice ao l.length cl,.nl,.nl,.nl,.nl,.map (some w.heap.size),.nl] 155)):=((br _ _).alloc (nlq _) _).alloc (by simp) _;have cn:((w.alloc (.map #[] 0)).alloc (.cells #[.slice ao l.length cl,.nl,.nl,.nl,.nl,.map (some w.heap.size),.nl] 155)).heap[w.heap.size+1]? =some (.cells #[.slice ao l.length cl,.nl,.nl,.nl,.nl,.map (some w.heap.size),.nl] 155 (0,0)):=by have:=heap_alloc_new (w.alloc (.map #[] 0)) (.cells #[.slice ao l.length cl,.nl,.nl,.nl,.nl,.map (some w.heap.size),.nl] 155);simpa using this
 have cp:iy ((w.alloc (.map #[] 0)).alloc (.cells #[.slice ao l.length cl,.nl,.nl,.nl,.nl,.map (some w.heap.size),.nl] 155)) w.heap.size []:=⟨_,(ownsMap_made w _ _ _).alloc _,zcd⟩;have cc:=aj (And.intro cj (And.intro cn cp));clear cj cn cp;generalize hXX:w.heap.size=X at*;go_enter func160,ntmps160
 go_wp21
 go_loopw [21] (fun i wr=>∃k:Nat,k<=l.length/\i=.i k/\Hid (Below X w wr/\wr.heap[X+1]? =some (.cells #[.slice ao l.length cl,.nl,.nl,.nl,.nl,.map (some X),.nl] 155 (0,0))/\iy wr X (l.take k))) (fun i _=>l.length - (intOf i).toNat)
 case atStart=>exact ⟨0,n0q _,rfl,cc.o⟩
 case round=>
  obtain ⟨k,hk,rfl,a1⟩:=hrel;clear cc;obtain ⟨Z,I,af⟩:=a1.o;have al:X<=wr.heap.size:=by have:=Z.size;omega
  have ae:X+1<wr.heap.size:=bz I;by_cases av:k<l.length
  ·obtain ⟨b,off,vf,vm,rfl,hb,e0,e1,e2,e3,ef,em,bc,bf⟩:=(HV.o.keptC (Kp.below (Z.mono hB))).atC k av;obtain ⟨fo,cf,rfl,-⟩:=ef;obtain ⟨mo,cm,rfl,-⟩:=em;have m5:=bg I 5 (x:=.map (some X)) rfl;obtain ⟨D,Y,hD⟩:=af;have bi:(l.take k).length=k:=by simp;omega
   have bm:keyOf prog 9 (.string l[k].name)=some (key l[k].name):=Go.WideMaps.keyOf_string_mk underlying9 bc;obtain ⟨w2,en,aw,b2⟩:=ownsMap.update (w:=(wr.alloc (.cells #[.string l[k].name,.string l[k].b9,.slice fo l[k].fields.length cf,.slice mo l[k].bd.length cm] 162)).drew) ((Y.alloc _).drew) Fg underlying152 (by rw [bi];unfold maxLen;omega) bm (plainElem_int (H:=Unit) underlying3 (a:=(k:Int)) (WalkArith.wf_i64 (by omega)));have b1:=zce hD (Y.tidy Fg) l[k];have dz:Hid (Below X w w2/\w2.heap[X+1]? =some (.cells #[.slice (some ⟨b,off,none⟩) l.length cl,.nl,.nl,.nl,.nl,.map (some X),.nl] 155 (0,0))/\iy w2 X (l.take (k+1))):=by
    refine ⟨((Z.alloc al (.cells #[.string l[k].name,.string l[k].b9,.slice fo l[k].fields.length cf,.slice mo l[k].bd.length cm] 162)).drew).grown b2 (by show X<=(wr.alloc _).heap.size;simp;omega) (fun q e=>by cases e;exact nlq _),?_,?_⟩
    ·rw [b2.block (X+1) (by show X+1<(wr.alloc _).heap.size;simp;omega) (by simp)];exact (Below.heap_alloc _ _ _ ae).trans I
    rw [take_succ_eq_append_getElem av];rw [bi]at b1 aw;refine ⟨_,?_,b1⟩;rw [length_append,bi];exact aw
   clear Y aw b2 hD b1 bm I bi bc bf;have ch:(0:Int)<=k:=by omega
   have ci:(k:Int)<l.length:=by omega
   go_wp21
   go_region
   all_goals
    go_wp21
    go_roundw
    case rel=>exact ⟨k+1,by omega,by go_num,dz.o⟩
    case measure=>simp [intOf];omega
  have b7:Hid (iy wr X l):=by have:=af;rwa [take_of_length_le (by omega)]at this
  have b4:=aj Z;have b6:=aj I;clear Z I af a1
  go_wp21
  go_loopw [36] (fun i wr=>∃(k:Nat) (vS:Value),k<=l.length/\i=.i k/\Hid (Below X w wr/\wr.heap[X+1]? =some (.cells #[.slice ao l.length cl,vS,.nl,.nl,.nl,.map (some X),.nl] 155 (0,0))/\iy wr X l/\wr.ownsRow (X+2) 3 1 vS k (yp l k))) (fun i _=>l.length - (intOf i).toNat)
  case atStart=>exact ⟨0,_,n0q _,rfl,b4.o,b6.o,b7.o,ownsRow_nil _ _ _ _⟩
  case round=>
   clear b4 b6 b7 al ae
   rename World=>wr
   obtain ⟨k,vS,hk,rfl,a1⟩:=hrel;obtain ⟨Z,I,af,Y⟩:=a1.o;have al:X<=wr.heap.size:=by have:=Z.size;omega
   have ae:X+1<wr.heap.size:=bz I;by_cases a6:k<l.length
   ·obtain ⟨b,off,vf,vm,rfl,hb,e0,e1,e2,e3,ef,em,bc,bf⟩:=(HV.o.keptC (Kp.below (Z.mono hB))).atC k a6;obtain ⟨fo,cf,rfl,-⟩:=ef;obtain ⟨mo,cm,rfl,-⟩:=em;have m1:=bg I 1 (x:=vS) rfl;have d6:Hid (num l l[k].b9=dv l k):=by show _=_;rw [dv,tu a6]
    have d3:Hid (sg (wr.alloc (.cells #[.string l[k].name,.string l[k].b9,.slice fo l[k].fields.length cf,.slice mo l[k].bd.length cm] 162)).drew (X+1) l):=⟨X,(cell?_alloc_past (w:=wr) _ (X+1) 5 ae).trans (bg I 5 rfl),(af.kept (row:=none) (grownBy_alloc wr _ _) (by simp)).drew⟩;have dl:=aj I;have d4:=aj Y;have d2:=aj af;have ds:=aj bf;have dk:=aj Z;have ch:(0:Int)<=k:=by omega
    have ci:(k:Int)<l.length:=by omega
    clear I Y af bc bf Z a1
    go_upto_region 11 with fail
    go_region_law (first
     | (refine step_append_lies _ (by rfl) (.tmp 45) (.tmp 50) 22 (by rfl) (X+2) 3 iI (.i 0) 1 8 underlying22 eg cx cy c0 rfl (by decide) vS k (yp l k) (by rfl) (V.o.alloc _) ⟨O.heap.size,0,none⟩ 1 1 [.i (num l l[k].b9)] (by rfl) rfl (news_of_block (heap_alloc_new O _)) (by intro u hu;simp at hu;subst hu;rfl) (by decide) J.o.1 J.o.2.1 J.o.2.2 _ rfl ?_;intro gA cA w9 E A _ ak;have G:∀q,vS.ownBlock=some q->X+2<=q:=fun q e=>(V.o.lt q e).1;have F:=(A.block (X+1) (by simp;omega) (fun e=>by have:=G _ e.symm;omega)).trans ((Below.heap_alloc _ _ _ am).trans L.o);have m9:=bg F 1 (x:=vS) rfl;have z9:=pq F 1;have a7:=bz F;have ah:=aj (And.intro E (And.intro A F));clear E A F G)
     | (go_simp;go_wp2_with (go_at_call 199;refine (Ds _ (X+1) l l[k].b9 d3.o ds.o).mono ?_;rintro r O ⟨rfl,N⟩;have L:=aj ((N.block (X+1) (by show X+1<(wr.alloc _).heap.size;simp;omega)).trans ((Below.heap_alloc wr _ _ ae).trans dl.o));have V:=aj (km ((d4.o.alloc (.cells #[.string l[k].name,.string l[k].b9,.slice fo l[k].fields.length cf,.slice mo l[k].bd.length cm] 162)).kept (w':=(wr.alloc (.cells #[.string l[k].name,.string l[k].b9,.slice fo l[k].fields.length cf,.slice mo l[k].bd.length cm] 162)).drew) (row:=none) ⟨rfl,rfl,rfl,nlq _,fun _ _ _=>rfl⟩ (by cases vS.ownBlock<;>simp)) N);have m7:=bg L.o 1 (x:=vS) rfl;have am:=bz L.o;have d1:=aj (iy.below ((d2.o.kept (row:=none) (grownBy_alloc wr (.cells #[.string l[k].name,.string l[k].b9,.slice fo l[k].fields.length cf,.slice mo l[k].bd.length cm] 162) _) (by simp)).drew) N (by show X<(wr.alloc _).heap.size;simp;omega));have bj:=aj (((dk.o.alloc al (.cells #[.string l[k].name,.string l[k].b9,.slice fo l[k].fields.length cf,.slice mo l[k].bd.length cm] 162)).drew).trans (N.mono (by show X<=(wr.alloc _).heap.size;simp;omega)));have J:Hid (k+1<=maxLen/\(k+1)*8<=140737488355328/\X+2<=(O.alloc (.cells #[.i (num l l[k].b9)] 3)).heap.size):=⟨by unfold maxLen;omega,by omega,by simp;omega⟩;clear N)))
    all_goals
     obtain ⟨E,A,F⟩:=ah.o;have G:∀q,vS.ownBlock=some q->X+2<=q:=fun q e=>(V.o.lt q e).1;have bk:Below X w (w9.setCell ⟨X+1,1,none⟩ (.slice (some ⟨gA,0,none⟩) (k+1) cA))/\(w9.setCell ⟨X+1,1,none⟩ (.slice (some ⟨gA,0,none⟩) (k+1) cA)).heap[X+1]? =some (.cells #[.slice (some ⟨b,off,none⟩) l.length cl,.slice (some ⟨gA,0,none⟩) (k+1) cA,.nl,.nl,.nl,.map (some X),.nl] 155 (0,0))/\iy (w9.setCell ⟨X+1,1,none⟩ (.slice (some ⟨gA,0,none⟩) (k+1) cA)) X l/\(w9.setCell ⟨X+1,1,none⟩ (.slice (some ⟨gA,0,none⟩) (k+1) cA)).ownsRow (X+2) 3 1 (.slice (some ⟨gA,0,none⟩) (k+1) cA) (k+1) (yp l (k+1)):=by
      have cr:X<=O.heap.size:=by have:=bj.o.size;omega
      refine ⟨((bj.o.alloc cr _).grown A (by simp;omega) (fun q e=>by have:=G q e;omega)).setCell (by simp) _,s9 F _,?_,?_⟩
      ·exact (((d1.o.kept (row:=none) (grownBy_alloc O _ _) (by simp)).kept A (fun e=>by have:=G _ e.symm;omega)).kept (row:=some (X+1)) (pi (grownBy.refl _ _) _ _ (inl rfl)) (by simp))
      rw [zja,<-d6.o];exact ownsRow_setCell_below E (by simp) _
     have ai:=aj bk;clear E A F G bk ah
     go_wp21
     go_roundw
     case rel=>exact ⟨k+1,_,by omega,by go_num,ai.o⟩
     case measure=>simp [intOf];omega
   have bh:k=l.length:=by omega
   have sS:=zjc (bh ▸ Y) (by omega);have bs:Hid (Wv w wr l (.slice ao l.length cl) vS (.nl) (.nl) (.nl) (.nl) [] [] [] []):=by refine ⟨by unfold Bl;rw [hXX];exact Z,by rw [hXX];exact I,by rw [hXX];exact sS,by rw [hXX];exact af,ownsRow_nil _ _ _ _,(fun z hz=>by cases hz),ownsRow_nil _ _ _ _,(fun z hz=>by cases hz),ownsRow_nil _ _ _ _,(fun z hz=>by cases hz),ownsRow_nil _ _ _ _,(fun z hz=>by cases hz)⟩
   clear sS Z I af Y a1 bh;obtain ⟨aS,cS,ek⟩:∃aS cS,vS=.slice aS l.length cS:=by have:=bs.o.sS;obtain ⟨aS,cS,e,-⟩:=this;exact ⟨aS,cS,by simpa using e⟩
   subst ek
   go_wp21
   have d0:Hid (True):=trivial;go_loopw [58] (fun i wr=>∃(k:Nat) (vF vN vT vL:Value) (zF:List (List Value×List bv)) (zN:List (List Value×List ByteArray)) (zT:List (List Value×List dc)) (zL:List (List Value×List Nat)),k<=l.length/\i=.i k/\Hid (Wv w wr l (.slice ao l.length cl) (.slice aS l.length cS) vF vN vT vL zF zN zT zL)/\
    Hid (zF.map (·.2)=(range k).map (fieldsOf l)/\zN.map (·.2)=(range k).map (fg l)/\zT.map (·.2)=(range k).map (fd l)/\zL.map (·.2)=(range k).map (dt l))) (fun i _=>l.length - (intOf i).toNat)
   case atStart=>exact ⟨0,_,_,_,_,[],[],[],[],n0q _,rfl,bs.o,rfl,rfl,rfl,rfl⟩
   case round=>
    clear bs al ae a6 hk av d0
    rename World=>wr
    obtain ⟨k,vF,vN,vT,vL,zF,zN,zT,zL,hk,rfl,HW,HZ⟩:=hrel;have ae:X+1<wr.heap.size:=by have:=HW.o.lt;omega
    have al:X<=wr.heap.size:=by omega
    have co:zF.length=k/\zN.length=k/\zT.length=k/\zL.length=k:=by obtain ⟨h1,h2,h3,h4⟩:=HZ.o;have g1:=congrArg length h1;have g2:=congrArg length h2;have g3:=congrArg length h3;have g4:=congrArg length h4;simp at g1 g2 g3 g4;exact ⟨g1,g2,g3,g4⟩
    have a2:=aj co;clear co;by_cases av:k<l.length
    ·have ch:(0:Int)<=k:=by omega
     have ci:(k:Int)<l.length:=by omega
     have a3:=aj (HW.o.grow ((br wr.heap.size wr).drew));have m6:wr.cell? ⟨X+1,6,none⟩=some vL:=by have:=HW.o.cell 6 (x:=vL) rfl;rwa [hXX]at this
     go_upto_region 16 with fail
     go_cut [] (fun W=>∃az ad,Wv w W l (.slice ao l.length cl) (.slice aS l.length cS) vF vN vT az zF zN zT ad/\ad.map (·.2)=(range (k+1)).map (dt l))
     case first=>
      go_region_law (first
       | (refine step_append_lies _ (by rfl) (.tmp 65) (.tmp 69) 153 (by rfl) (X+2) 22 iL (.nl) 1 24 underlying153 eh c1 c2 c3 rfl (by decide) vL zL.length (zL.flatMap (·.1)) (by rfl) (V.o.alloc _) ⟨O.heap.size,0,none⟩ 1 1 [.slice au (dt l k).length cu] (by rfl) rfl (news_of_block (heap_alloc_new O _)) (by intro u hu;simp at hu;subst hu;rfl) (by decide) J.o.1 J.o.2.1 J.o.2.2 _ rfl ?_;intro gA cA w9 E A _ ak;have G:∀q,vL.ownBlock=some q->X+2<=q:=fun q e=>(V.o.lt q e).1;have F:=(A.block (X+1) (by simp;omega) (fun e=>by have:=G _ e.symm;omega)).trans ((Below.heap_alloc _ _ _ am).trans L.o);have m9:=bg F 6 (x:=vL) rfl;have z9:=pq F 6;have a7:=bz F;have ah:=aj (And.intro E A);clear E A F G)
       | (go_simp;go_wp2_with (go_at_call 200;refine (zfx _ wr.heap.size (X+1) l k av ao cl (.slice aS l.length cS) (hXX ▸ a3.o.cell 0 rfl) (hXX ▸ a3.o.cell 1 rfl) (a3.o.sS.monoI fun _ hk=>hk.lt) (nlq _) hN).mono ?_;rintro r O ⟨N,u7,rfl,an⟩;have ac:=aj (a3.o.grow N);have a4:=aj (an.monoO (M':=MT w.heap.size [3] O) fun _ hk=>hk.more (by rw [hXX];exact al) (fun _ ht=>ht));obtain ⟨au,cu,rfl,-⟩:=an;have L:Hid (O.heap[X+1]? =_):=hXX ▸ ac.o.blk;have V:Hid (O.ownsRow (X+2) 22 1 vL zL.length (zL.flatMap (·.1))):=hXX ▸ ac.o.oL;have m7:=bg L.o 6 (x:=vL) rfl;have am:=bz L.o;have J:Hid (zL.length+1<=maxLen/\(zL.length+1)*24<=140737488355328/\X+2<=(O.alloc (.cells #[.slice au (dt l k).length cu] 22)).heap.size):=(by have hz:=a2.o.2.2.2;exact ⟨by unfold maxLen;omega,by omega,by simp;omega⟩);clear N)))
      all_goals
       have ai:=aj (ac.o.addL a4.o (hXX.symm ▸ ah.o.1) ah.o.2)
       go_wp21
       go_meet
       exact ⟨_,_,hXX ▸ ai.o,by rw [map_append,HZ.o.2.2.2,Ev];rfl⟩
     case rest=>
      clear m6 HW a3 ae al
      rename World=>W
      obtain ⟨az,ad,hW,hZ⟩:=hcut;have aa:=aj hW;have bx:=aj hZ;clear hW hZ;have dd:ad.length=k+1:=by have:=congrArg length bx.o;simpa using this
      have b0:=aj dd;clear dd;have ck:X+1<W.heap.size:=by have:=aa.o.lt;omega
      have ay:X<=W.heap.size:=by omega
      have a0:=aj (aa.o.grow ((br W.heap.size W).drew));have m2:W.cell? ⟨X+1,2,none⟩=some vF:=by have:=aa.o.cell 2 (x:=vF) rfl;rwa [hXX]at this
      have a9:Hid (SL 4 RC (· <X) W.drew (.slice ao l.length cl) l):=(HV.o.keptC (Kp.below (a0.o.below.mono (hXX.symm ▸ hB)))).monoC fun _ (hk:_<B)=>(by omega);have ba:Hid (SL 1 (la 1 RO) (MT X [3,22] W.drew) W.drew az (ad.map (·.2))):=hXX ▸ a0.o.rowsL (by have:=b0.o;omega);have a8:Hid (∃h:k<(ad.map (·.2)).length,(ad.map (·.2))[k]=dt l k):=⟨by have:=b0.o;simp;omega,by simp only [bx.o];simp⟩
      go_upto_region 17 with fail
      go_cut [] (fun W=>∃dg b3,Wv w W l (.slice ao l.length cl) (.slice aS l.length cS) dg vN vT az b3 zN zT ad/\b3.map (·.2)=(range (k+1)).map (fieldsOf l))
      case first=>
       go_region_law (first
        | (refine step_append_lies _ (by rfl) (.tmp 78) (.tmp 82) 32 (by rfl) (X+2) 126 iF (.nl) 1 24 underlying32 ee cs ct cv rfl (by decide) vF zF.length (zF.flatMap (·.1)) (by rfl) (V.o.alloc _) ⟨O.heap.size,0,none⟩ 1 1 [.slice au (fieldsOf l k).length cu] (by rfl) rfl (news_of_block (heap_alloc_new O _)) (by intro u hu;simp at hu;subst hu;rfl) (by decide) J.o.1 J.o.2.1 J.o.2.2 _ rfl ?_;intro gA cA w9 E A _ ak;have G:∀q,vF.ownBlock=some q->X+2<=q:=fun q e=>(V.o.lt q e).1;have F:=(A.block (X+1) (by simp;omega) (fun e=>by have:=G _ e.symm;omega)).trans ((Below.heap_alloc _ _ _ am).trans L.o);have m9:=bg F 2 (x:=vF) rfl;have z9:=pq F 2;have a7:=bz F;have ah:=aj (And.intro E A);clear E A F G)
        | (go_simp;go_wp2_with (go_at_call 201;refine (zgw _ X (X+1) l k av ao cl (hXX ▸ a0.o.cell 0 rfl) a9.o az (ad.map (·.2)) (hXX ▸ a0.o.cell 6 rfl) ba.o a8.o.1 a8.o.2 ay hN (fun c hc=>(b5.o c hc).2.2.1)).mono ?_;rintro r O ⟨N,u7,rfl,an⟩;have ac:=aj (a0.o.grow N);have a4:=aj (an.monoF (M':=MT w.heap.size [125] O) fun _ hk=>hk.more (by rw [hXX];exact ay) (fun _ ht=>ht));obtain ⟨au,cu,rfl,-⟩:=an;have L:Hid (O.heap[X+1]? =_):=hXX ▸ ac.o.blk;have V:Hid (O.ownsRow (X+2) 126 1 vF zF.length (zF.flatMap (·.1))):=hXX ▸ ac.o.oF;have m7:=bg L.o 2 (x:=vF) rfl;have am:=bz L.o;have J:Hid (zF.length+1<=maxLen/\(zF.length+1)*24<=140737488355328/\X+2<=(O.alloc (.cells #[.slice au (fieldsOf l k).length cu] 126)).heap.size):=(by have hz:=a2.o.1;exact ⟨by unfold maxLen;omega,by omega,by simp;omega⟩);clear N)))
       all_goals
        have ai:=aj (ac.o.addF a4.o (hXX.symm ▸ ah.o.1) ah.o.2)
        go_wp21
        go_meet
        exact ⟨_,_,hXX ▸ ai.o,by rw [map_append,HZ.o.1,Ev];rfl⟩
      case rest=>
       clear m2 aa a0 ck ay a9 ba
       rename World=>W
       obtain ⟨dg,b3,hW,hZ⟩:=hcut;have aa:=aj hW;have ea:=aj hZ;clear hW hZ;have ck:X+1<W.heap.size:=by have:=aa.o.lt;omega
       have ay:X<=W.heap.size:=by omega
       have a9:Hid (SL 4 RC (· <X) W (.slice ao l.length cl) l):=(HV.o.keptC (Kp.below (aa.o.below.mono (hXX.symm ▸ hB)))).monoC fun _ (hk:_<B)=>(by omega);have ba:Hid (SL 1 (la 1 RO) (MT X [3,22] W) W az (ad.map (·.2))):=hXX ▸ aa.o.rowsL (by have:=b0.o;omega)
       go_upto_region 19 with (go_at_call 202;refine (zg9 _ X (X+1) l k av ao cl (hXX ▸ aa.o.cell 0 rfl) a9.o az (ad.map (·.2)) (hXX ▸ aa.o.cell 6 rfl) ba.o a8.o.1 a8.o.2 ay hN (fun c hc=>(b5.o c hc).2.2.2.2.1)).mono ?_;rintro r O ⟨N,u7,t7,rfl,an,df⟩;have ac:=aj (aa.o.grow N);have a4:=aj (an.monoS (M':=MT w.heap.size [9] O) fun _ hk=>hk.more (by rw [hXX];exact ay) (fun _ ht=>ht));have eb:=aj (df.monoT (M':=MT w.heap.size [233] O) fun _ hk=>hk.more (by rw [hXX];exact ay) (fun _ ht=>ht));obtain ⟨au,cu,rfl,-⟩:=an;obtain ⟨bu,du,rfl,-⟩:=df;clear N)
       have L:Hid (O.heap[X+1]? =_):=hXX ▸ ac.o.blk;have m7:=bg L.o 3 (x:=vN) rfl;have am:=bz L.o;have V:Hid (O.ownsRow (X+2) 225 1 vN zN.length (zN.flatMap (·.1))):=hXX ▸ ac.o.oN;have J:Hid (zN.length+1<=maxLen/\(zN.length+1)*24<=140737488355328/\X+2<=(O.alloc (.cells #[.slice au (fg l k).length cu] 225)).heap.size):=(by have hz:=a2.o.2.1;exact ⟨by unfold maxLen;omega,by omega,by simp;omega⟩)
       go_upto_region 20 with (at_builtin;refine wpList_append_lies _ rfl _ _ 33 rfl (X+2) 225 iN (.nl) 1 24 underlying33 ei c4 c5 c6 rfl (by decide) vN zN.length (zN.flatMap (·.1)) rfl (V.o.alloc _) ⟨O.heap.size,0,none⟩ 1 1 [.slice au (fg l k).length cu] rfl rfl (news_of_block (heap_alloc_new O _)) (by intro u hu;simp at hu;subst hu;rfl) (by decide) J.o.1 J.o.2.1 J.o.2.2 _ rfl ?_;intro gA cA w9 E A _ ak;have G:∀q,vN.ownBlock=some q->X+2<=q:=fun q e=>(V.o.lt q e).1;have F:=(A.block (X+1) (by simp;omega) (fun e=>by have:=G _ e.symm;omega)).trans ((Below.heap_alloc _ _ _ am).trans L.o);have m9:=bg F 3 (x:=vN) rfl;have z9:=pq F 3;have a7:=bz F;have bb:=aj (ac.o.addN a4.o (hXX.symm ▸ E) A);have hst:Stp w.heap.size [233] O (w9.setCell ⟨X+1,3,none⟩ (.slice (some ⟨gA,0,none⟩) (zN.length+1) cA)):=(((Stp.refl _ _ _).alloc _).trans (Stp.row A (V.o.alloc _) (by decide))).trans (Stp.set F (by decide) 3 _);have d5:=aj ((eb.o.keptT hst.kp).monoT fun _ hk=>hk.step hst);clear E A F G hst)
       rw [hXX]at bb;generalize hW9:w9.setCell ⟨X+1,3,none⟩ (.slice (some ⟨gA,0,none⟩) (zN.length+1) cA)=wz at*;have bo:Hid (wz.heap[X+1]? =_):=hXX ▸ bb.o.blk;have mz:=bg bo.o 4 (x:=vT) rfl;have el:=bz bo.o;have ca:Hid (wz.ownsRow (X+2) 226 1 vT zT.length (zT.flatMap (·.1))):=hXX ▸ bb.o.oT;have bn:Hid (zT.length+1<=maxLen/\(zT.length+1)*24<=140737488355328/\X+2<=(wz.alloc (.cells #[.slice bu (fd l k).length du] 226)).heap.size):=(by have hz:=a2.o.2.2.1;exact ⟨by unfold maxLen;omega,by omega,by simp;omega⟩);clear hW9 m9 z9 a7 ak m7 am
       go_upto_region 21 with (at_builtin;refine wpList_append_lies _ rfl _ _ 34 rfl (X+2) 226 iT (.nl) 1 24 underlying34 ej c7 c8 c9 rfl (by decide) vT zT.length (zT.flatMap (·.1)) rfl (ca.o.alloc _) ⟨wz.heap.size,0,none⟩ 1 1 [.slice bu (fd l k).length du] rfl rfl (news_of_block (heap_alloc_new wz _)) (by intro u hu;simp at hu;subst hu;rfl) (by decide) bn.o.1 bn.o.2.1 bn.o.2.2 _ rfl ?_;intro gB cB wy E A _ ak;have G:∀q,vT.ownBlock=some q->X+2<=q:=fun q e=>(ca.o.lt q e).1;have F:=(A.block (X+1) (by simp;omega) (fun e=>by have:=G _ e.symm;omega)).trans ((Below.heap_alloc _ _ _ el).trans bo.o);have m9:=bg F 4 (x:=vT) rfl;have z9:=pq F 4;have a7:=bz F;have d8:=aj (bb.o.addT d5.o (hXX.symm ▸ E) A);clear E A F G)
       go_wp21
       go_roundw
       case rel=>exact ⟨k+1,_,_,_,_,_,_,_,_,by omega,by go_num,hXX ▸ d8.o,ea.o,by rw [map_append,HZ.o.2.1,Ev];rfl,by rw [map_append,HZ.o.2.2.1,Ev];rfl,bx.o⟩
       case measure=>simp [intOf];omega
    have bh:k=l.length:=by omega
    have ce:Hid (ua (fun k=>(k<B\/X<=k)/\k<wr.heap.size) wr (X+1) l (.slice ao l.length cl) (.slice aS l.length cS) vF vN vT vL X):=by
     obtain ⟨h1,h2,h3,h4⟩:=HZ.o;obtain ⟨g1,g2,g3,g4⟩:=a2.o;rw [bh]at h1 h2 h3 h4;have sF:=HW.o.rowsF (by omega);have sN:=HW.o.rowsN (by omega);have sT:=HW.o.rowsT (by omega);have sL:=HW.o.rowsL (by omega);rw [h1]at sF;rw [h2]at sN;rw [h3]at sT;rw [h4]at sL;have ec:=hXX ▸ HW.o.blk;have hM:∀ {T:List Nat},155∉T->∀(k:Nat),MT w.heap.size T wr k->((k<B\/X<=k)/\k<wr.heap.size)/\k≠X+1:=fun hT k hk=>⟨⟨inr (hXX ▸ hk.1),hk.lt⟩,fun e=>by
      obtain ⟨_,c,t,fr,h2,h3⟩:=hk;rw [e,ec]at h2;cases h2;exact hT h3⟩
     exact ⟨⟨inr (by omega),ae⟩,⟨inr (nlq _),by omega⟩,fun _ h=>h.2,hXX ▸ HW.o.blk,(HV.o.keptC (Kp.below (HW.o.below.mono (hXX.symm ▸ hB)))).monoC (fun _ (hk:_<B)=>⟨⟨inl hk,by omega⟩,by omega⟩),HW.o.sS.monoI (hM (by decide)),sF.monoSl (hM (by decide)) (fun _ _ h=>h),sN.monoSl (hM (by decide)) (fun _ _ h=>h),sT.monoSl (hM (by decide)) (fun _ _ h=>h),sL.monoSl (hM (by decide)) (fun _ _ h=>h),hXX ▸ HW.o.nm⟩
    have dj:Hid (Below X w wr):=hXX ▸ HW.o.below;clear HW HZ
    go_wp21
    go_ret;exact ⟨rfl,dj.o,_,_,_,_,_,ce.o⟩
end
section
open Go.Maps
variable {E F:Nat} {z:Value} {lo hi:Nat} (args:Array Value) (w A:World) (B P b t:Nat) (l:List aq) (v I O J N V L:Value) (G g:Nat) (cap:Array Value) (Ok X:Value->World->Prop) (W:Int->Int->Prop) (Y Q:Nat) (x:Value) (No:Int->Int->Prop)
structure tb (lo hi:Nat) (W W':World):Prop where
 size:W.heap.size<=W'.heap.size
 block:∀k,k<W.heap.size->(k<lo\/hi<=k)->W'.heap[k]? =W.heap[k]?
theorem tb.trans {a b c:World} (h:tb lo hi a b) (k:tb lo hi b c):tb lo hi a c:=⟨lt3 h.size k.size,fun i hi A=>(k.block i (ll3 hi h.size) A).trans (h.block i hi A)⟩
theorem tb.grown {b:Nat} {W A:World} (h:W.grownBy A (some b)) (G:lo<=b) (F:b<hi):tb lo hi W A:=⟨h.size,fun k D E=>h.block k D (by intro e;injection e;omega)⟩
theorem tb.below {W A:World} (h:Below W.heap.size W A):tb lo hi W A:=⟨h.size,fun k D _=>h.block k D⟩
theorem zje (aa:∀args w,(callFunc g args).run prog w=.ok (.enter g args) w) (ac:w.cell? ⟨Y,0,none⟩=some (.func (.func g) #[] cap)) (N:w.cell? ⟨Q,0,none⟩=some x) (hz:w.frozen? ⟨Q,0,none⟩=false) (hc:Calls prog g cap w fun r E=>Below w.heap.size w E/\((∃v,r=.returned v/\(∃p,v=.pointer p)/\X v E)\/∃e p,r=.panicked [wrongV e p]/\W e p)):
 Calls prog 198 #[.p Y,.p Q] w fun r w'=>
  (r=.returned (.tuple #[])/\∃v E,(∃p,v=.pointer p)/\X v E/\w'.cell? ⟨Q,0,none⟩=some v/\w.grownBy w' (some Q)/\E.grownBy w' (some Q)/\Below w.heap.size w E)\/
  (∃e p,r=.panicked [wrongV e p]/\W e p/\Below w.heap.size w w'):=by
 have Z:Q<w.heap.size:=block_lt_of_cell? w _ N;have V:=aj hc;clear hc;go_enter func198,ntmps198
 go_wp21
 refine V.o.mono ?_;rintro r D ⟨A,⟨v,rfl,hT,F⟩ | ⟨e,p,rfl,L⟩⟩
 rotate_left
 ·exact ⟨rfl,inr ⟨e,p,rfl,L,A⟩⟩
 have O:D.cell? ⟨Q,0,none⟩=some x:=(A.cell (p:=⟨Q,0,none⟩) Z).trans N;have ad:D.frozen? ⟨Q,0,none⟩=false:=(A.frozen (p:=⟨Q,0,none⟩) Z).trans hz;have I:Hid (D.grownBy (D.setCell ⟨Q,0,none⟩ v) (some Q)):=pi (grownBy.refl _ _) _ _ (inl rfl);have HG:Hid (w.grownBy (D.setCell ⟨Q,0,none⟩ v) (some Q)):=pi ⟨A.os,A.tape,A.output,A.size,fun k hk _=>A.block k hk⟩ _ _ (by simp);have G:=aj (cell?_setCell_same D ⟨Q,0,none⟩ v O);have J:=aj F;have HB:=aj A;have HT:=aj hT;obtain ⟨vv,rfl⟩:=hT;clear F A N hz V;go_wp2
 go_end0;exact inl ⟨rfl,_,D,HT.o,J.o,G.o,HG.o,I.o,HB.o⟩
theorem Bj:(callFunc 198 args).run prog w=.ok (.enter 198 args) w:=by kernel_rfl
theorem rm (h:((((w.alloc (.cells #[x] E)).alloc (.cells #[.i 0,.i 0] 84)).alloc (.cells #[z] F)).alloc (.cells #[.i 0,.i 0] 84)).grownBy A (some (w.heap.size+2))):
 A.heap[w.heap.size+3]? =some (.cells #[.i 0,.i 0] 84 (0,0))/\Below w.heap.size w A/\A.cell? ⟨w.heap.size+1,0,none⟩=some (.i 0)/\A.cell? ⟨w.heap.size+1,1,none⟩=some (.i 0)/\
  (∀j,A.frozen? ⟨w.heap.size+1,j,none⟩=false)/\w.heap.size+4<=A.heap.size:=by
 have D:Below w.heap.size w ((((w.alloc (.cells #[x] E)).alloc (.cells #[.i 0,.i 0] 84)).alloc (.cells #[z] F)).alloc (.cells #[.i 0,.i 0] 84)):=((((br _ _).alloc (nlq _) _).alloc (by simp) _).alloc (by simp;omega) _).alloc (by simp;omega) _;have G:((((w.alloc (.cells #[x] E)).alloc (.cells #[.i 0,.i 0] 84)).alloc (.cells #[z] F)).alloc (.cells #[.i 0,.i 0] 84)).heap.size=w.heap.size+4:=by simp
 refine ⟨?_,pf D h (by omega),?_,?_,?_,by rw [<-G];exact h.size⟩
 ·rw [h.block (w.heap.size+3) (by omega) (by simp)];show ((((w.heap.push _).push _).push _).push _)[w.heap.size+3]? =_;rw [Array.getElem?_push,if_pos (by simp)]
 ·exact h.cell (a:=⟨w.heap.size+1,0,none⟩) (by simp [go_sem]) (by simp)
 ·exact h.cell (a:=⟨w.heap.size+1,1,none⟩) (by simp [go_sem]) (by simp)
 intro j;rw [frozen?_of_block (a:=⟨w.heap.size+1,j,none⟩) (h.block (w.heap.size+1) (by omega) (by simp))];simp [go_sem]
theorem zjf (ae:∀args w,(callFunc g args).run prog w=.ok (.enter g args) w) (hc:∀W,Below w.heap.size w W->W.heap.size=w.heap.size+4->Calls prog g cap W fun r O=>Below W.heap.size W O/\((∃v,r=.returned v/\(∃p,v=.pointer p)/\Ok v O)\/∃e p,r=.panicked [wrongV e p]/\No e p)) (hst:∀v W O,w.heap.size+4<=W.heap.size->tb w.heap.size (w.heap.size+4) W O->Ok v W->Ok v O):
 Calls prog 158 #[.func (.func g) #[] cap] w fun r w'=>Below w.heap.size w w'/\w.heap.size+4<=w'.heap.size/\
  ((∃v,r=.returned (.tuple #[v,.agg #[.i 0,.i 0]])/\(∃p,v=.pointer p)/\Ok v w')\/
   (∃e p,r=.returned (.tuple #[.pointer none,.agg #[.i e,.i p]])/\No e p)):=by
 have au:=ri prog;have Y:Below w.heap.size w (((w.alloc (.cells #[.func (.func g) #[] cap] 213)).alloc (.cells #[.i 0,.i 0] 84)).alloc (.cells #[.pointer none] 148)):=(((br _ _).alloc (nlq _) _).alloc (by simp) _).alloc (by simp;omega) _;have ad:=Y.alloc Y.size (.cells #[.i 0,.i 0] 84);have HC:=aj hc;have G:=aj hst;have ac:=aj ae;clear hc hst ae;go_enter func158,ntmps158
 go_wp21
 refine (Ek 198 _ _ (fun E=>∃v,(∃p,v=.pointer p)/\E.cell? ⟨w.heap.size+2,0,none⟩=some v/\Ok v E/\Below w.heap.size w E/\
  (∃x y,E.cell? ⟨w.heap.size+1,0,none⟩=some x/\E.cell? ⟨w.heap.size+1,1,none⟩=some y)/\(∀j,E.frozen? ⟨w.heap.size+1,j,none⟩=false)/\w.heap.size+4<=E.heap.size)
  (fun e p E=>No e p/\E.cell? ⟨w.heap.size+2,0,none⟩=some (.pointer none)/\Below w.heap.size w E/\
  (∃x y,E.cell? ⟨w.heap.size+1,0,none⟩=some x/\E.cell? ⟨w.heap.size+1,1,none⟩=some y)/\(∀j,E.frozen? ⟨w.heap.size+1,j,none⟩=false)/\w.heap.size+4<=E.heap.size) (Bj _) ?hc).mono ?_
 case hc=>
  refine (zje _ g cap Ok No w.heap.size (w.heap.size+2) (.pointer none) ac.o (by simp [go_sem]) (by simp [go_sem]) (by simp [go_sem]) (HC.o _ ad (by simp))).mono ?_;rintro r E (⟨rfl,v,O,hT,J,hc,A,am,al⟩ | ⟨e,p,rfl,hd,hb⟩)
  ·obtain ⟨a1,a2,a3,a4,a5,a6⟩:=rm w E _ A;refine ⟨by simpa using a1,inl ⟨rfl,v,hT,hc,?_,a2,⟨.i 0,.i 0,a3,a4⟩,a5,a6⟩⟩;exact G.o v O E (by have:=al.size;simp at this;omega) (tb.grown am (by omega) (by omega)) J
  have an:grownBy _ E (some (w.heap.size+2)):=⟨hb.os,hb.tape,hb.output,hb.size,fun k hk _=>hb.block k hk⟩;obtain ⟨a1,a2,a3,a4,a5,a6⟩:=rm w E _ an;refine ⟨by simpa using a1,inr ⟨e,p,rfl,hd,?_,a2,⟨.i 0,.i 0,a3,a4⟩,a5,a6⟩⟩;exact (hb.cell (p:=⟨w.heap.size+2,0,none⟩) (by simp)).trans (by simp [go_sem])
 rintro r D ⟨E,A,hr⟩;have hz:(((w.alloc (.cells #[.func (.func g) #[] cap] 213)).alloc (.cells #[.i 0,.i 0] 84)).alloc (.cells #[.pointer none] 148)).heap.size=w.heap.size+3:=by simp
 rw [hz]at A;clear Y ad hz HC ac;rcases hr with ⟨rfl,v,hT,hc,J,hB,⟨x,y,hx,hy⟩,I,L⟩ | ⟨e,p,rfl,hd,hc,hB,⟨x,y,hx,hy⟩,I,L⟩
 ·have c4:D.cell? ⟨w.heap.size+1+1,0,none⟩=some v:=A.cell hc (by simp);have V:D.cell? ⟨w.heap.size+1,0,none⟩=some x:=A.cell hx (by simp);have X:D.cell? ⟨w.heap.size+1,1,none⟩=some y:=A.cell hy (by simp);have z3:∀j,D.frozen? ⟨w.heap.size+1,j,none⟩=false:=fun j=>(frozen?_of_block (a:=⟨w.heap.size+1,j,none⟩) (A.block (w.heap.size+1) (by omega) (by simp))).trans (I j);have F:w.heap.size+4<=D.heap.size:=lt3 L A.size;have af:w.heap.size+1<D.heap.size:=by omega
  have ah:w.heap.size+1+1<D.heap.size:=by omega
  have HT:=aj hT;have Z:Below w.heap.size w D:=pf hB A (by omega);have ai:=aj (G.o v E D L (tb.grown A (by omega) (by omega)) J);obtain ⟨vv,rfl⟩:=hT;clear J hc hx hy I A hB
  go_wp21
  go_region
  all_goals
   go_wp2
   obtain ⟨A,q0,q1⟩:=zb5 D (w.heap.size+1) 0 0 (.cells #[.i 0,.i 0] 84) V X;have aa:=pf Z A (by omega);have ak:=aj (G.o _ D _ F (tb.grown A (by omega) (by omega)) ai.o);have N:=lt3 F A.size;generalize ((D.setCell ⟨w.heap.size+1,0,none⟩ (.i 0)).setCell ⟨w.heap.size+1,1,none⟩ (.i 0)).alloc (.cells #[.i 0,.i 0] 84)=W9 at*;exact bodyPost_ret (v:=.tuple #[_,.agg #[.i 0,.i 0]]) (by simp [results,results158,go_sem,q0,q1]) rfl ⟨aa.drew,N,inl ⟨_,rfl,HT.o,G.o _ W9 _ N ⟨nlq _,fun _ _ _=>rfl⟩ ak.o⟩⟩
 have c4:D.cell? ⟨w.heap.size+1+1,0,none⟩=some (.pointer none):=A.cell hc (by simp);have V:D.cell? ⟨w.heap.size+1,0,none⟩=some x:=A.cell hx (by simp);have X:D.cell? ⟨w.heap.size+1,1,none⟩=some y:=A.cell hy (by simp);have z3:∀j,D.frozen? ⟨w.heap.size+1,j,none⟩=false:=fun j=>(frozen?_of_block (a:=⟨w.heap.size+1,j,none⟩) (A.block (w.heap.size+1) (by omega) (by simp))).trans (I j);have F:w.heap.size+4<=D.heap.size:=lt3 L A.size;have af:w.heap.size+1<D.heap.size:=by omega
 have ah:w.heap.size+1+1<D.heap.size:=by omega
 have HD:=aj hd;have Z:Below w.heap.size w D:=pf hB A (by omega);clear hd hc hx hy I A hB G
 go_wp21
 go_region
 all_goals
  go_wp2
  obtain ⟨A,q0,q1⟩:=zb5 D (w.heap.size+1) e p (.cells #[.i e,.i p] 84) V X;have aa:=pf Z A (by omega);have N:=lt3 F A.size;generalize ((D.setCell ⟨w.heap.size+1,0,none⟩ (.i e)).setCell ⟨w.heap.size+1,1,none⟩ (.i p)).alloc (.cells #[.i e,.i p] 84)=W9 at*;exact bodyPost_ret (v:=.tuple #[.pointer none,.agg #[.i e,.i p]]) (by simp [results,results158,go_sem,q0,q1]) rfl ⟨aa.drew,N,inr ⟨_,_,rfl,HD.o⟩⟩
theorem zjg (aa:∀args w,(callFunc g args).run prog w=.ok (.enter g args) w) (ac:w.cell? ⟨Y,0,none⟩=some (.func (.func g) #[] cap)) (N:w.cell? ⟨Q,0,none⟩=some x) (hz:w.frozen? ⟨Q,0,none⟩=false) (hc:Calls prog g cap w fun r E=>Below w.heap.size w E/\((∃v,r=.returned v/\(∃n,v=.i n)/\X v E)\/∃e p,r=.panicked [wrongV e p]/\W e p)):
 Calls prog 127 #[.p Y,.p Q] w fun r w'=>
  (r=.returned (.tuple #[])/\∃v E,(∃n,v=.i n)/\X v E/\w'.cell? ⟨Q,0,none⟩=some v/\w.grownBy w' (some Q)/\E.grownBy w' (some Q)/\Below w.heap.size w E)\/
  (∃e p,r=.panicked [wrongV e p]/\W e p/\Below w.heap.size w w'):=by
 have Z:Q<w.heap.size:=block_lt_of_cell? w _ N;have V:=aj hc;clear hc;go_enter func127,ntmps127
 go_wp21
 refine V.o.mono ?_;rintro r D ⟨A,⟨v,rfl,hT,F⟩ | ⟨e,p,rfl,L⟩⟩
 rotate_left
 ·exact ⟨rfl,inr ⟨e,p,rfl,L,A⟩⟩
 have O:D.cell? ⟨Q,0,none⟩=some x:=(A.cell (p:=⟨Q,0,none⟩) Z).trans N;have ad:D.frozen? ⟨Q,0,none⟩=false:=(A.frozen (p:=⟨Q,0,none⟩) Z).trans hz;have I:Hid (D.grownBy (D.setCell ⟨Q,0,none⟩ v) (some Q)):=pi (grownBy.refl _ _) _ _ (inl rfl);have HG:Hid (w.grownBy (D.setCell ⟨Q,0,none⟩ v) (some Q)):=pi ⟨A.os,A.tape,A.output,A.size,fun k hk _=>A.block k hk⟩ _ _ (by simp);have G:=aj (cell?_setCell_same D ⟨Q,0,none⟩ v O);have J:=aj F;have HB:=aj A;have HT:=aj hT;obtain ⟨vv,rfl⟩:=hT;clear F A N hz V;go_wp2
 go_end0;exact inl ⟨rfl,_,D,HT.o,J.o,G.o,HG.o,I.o,HB.o⟩
theorem Bi:(callFunc 127 args).run prog w=.ok (.enter 127 args) w:=by kernel_rfl
theorem zjh (ae:∀args w,(callFunc g args).run prog w=.ok (.enter g args) w) (hc:∀W,Below w.heap.size w W->W.heap.size=w.heap.size+4->Calls prog g cap W fun r O=>Below W.heap.size W O/\((∃v,r=.returned v/\(∃n,v=.i n)/\Ok v O)\/∃e p,r=.panicked [wrongV e p]/\No e p)) (hst:∀v W O,w.heap.size+4<=W.heap.size->tb w.heap.size (w.heap.size+4) W O->Ok v W->Ok v O):
 Calls prog 65 #[.func (.func g) #[] cap] w fun r w'=>Below w.heap.size w w'/\w.heap.size+4<=w'.heap.size/\
  ((∃v,r=.returned (.tuple #[v,.agg #[.i 0,.i 0]])/\(∃n,v=.i n)/\Ok v w')\/
   (∃e p,r=.returned (.tuple #[.i 0,.agg #[.i e,.i p]])/\No e p)):=by
 have au:=ri prog;have Y:Below w.heap.size w (((w.alloc (.cells #[.func (.func g) #[] cap] 110)).alloc (.cells #[.i 0,.i 0] 84)).alloc (.cells #[.i 0] 3)):=(((br _ _).alloc (nlq _) _).alloc (by simp) _).alloc (by simp;omega) _;have ad:=Y.alloc Y.size (.cells #[.i 0,.i 0] 84);have HC:=aj hc;have G:=aj hst;have ac:=aj ae;clear hc hst ae;go_enter func65,ntmps65
 go_wp21
 refine (Ek 127 _ _ (fun E=>∃v,(∃n,v=.i n)/\E.cell? ⟨w.heap.size+2,0,none⟩=some v/\Ok v E/\Below w.heap.size w E/\
  (∃x y,E.cell? ⟨w.heap.size+1,0,none⟩=some x/\E.cell? ⟨w.heap.size+1,1,none⟩=some y)/\(∀j,E.frozen? ⟨w.heap.size+1,j,none⟩=false)/\w.heap.size+4<=E.heap.size)
  (fun e p E=>No e p/\E.cell? ⟨w.heap.size+2,0,none⟩=some (.i 0)/\Below w.heap.size w E/\
  (∃x y,E.cell? ⟨w.heap.size+1,0,none⟩=some x/\E.cell? ⟨w.heap.size+1,1,none⟩=some y)/\(∀j,E.frozen? ⟨w.heap.size+1,j,none⟩=false)/\w.heap.size+4<=E.heap.size) (Bi _) ?hc).mono ?_
 case hc=>
  refine (zjg _ g cap Ok No w.heap.size (w.heap.size+2) (.i 0) ac.o (by simp [go_sem]) (by simp [go_sem]) (by simp [go_sem]) (HC.o _ ad (by simp))).mono ?_;rintro r E (⟨rfl,v,O,hT,J,hc,A,am,al⟩ | ⟨e,p,rfl,hd,hb⟩)
  ·obtain ⟨a1,a2,a3,a4,a5,a6⟩:=rm w E _ A;refine ⟨by simpa using a1,inl ⟨rfl,v,hT,hc,?_,a2,⟨.i 0,.i 0,a3,a4⟩,a5,a6⟩⟩;exact G.o v O E (by have:=al.size;simp at this;omega) (tb.grown am (by omega) (by omega)) J
  have an:grownBy _ E (some (w.heap.size+2)):=⟨hb.os,hb.tape,hb.output,hb.size,fun k hk _=>hb.block k hk⟩;obtain ⟨a1,a2,a3,a4,a5,a6⟩:=rm w E _ an;refine ⟨by simpa using a1,inr ⟨e,p,rfl,hd,?_,a2,⟨.i 0,.i 0,a3,a4⟩,a5,a6⟩⟩;exact (hb.cell (p:=⟨w.heap.size+2,0,none⟩) (by simp)).trans (by simp [go_sem])
 rintro r D ⟨E,A,hr⟩;have hz:(((w.alloc (.cells #[.func (.func g) #[] cap] 110)).alloc (.cells #[.i 0,.i 0] 84)).alloc (.cells #[.i 0] 3)).heap.size=w.heap.size+3:=by simp
 rw [hz]at A;clear Y ad hz HC ac;rcases hr with ⟨rfl,v,hT,hc,J,hB,⟨x,y,hx,hy⟩,I,L⟩ | ⟨e,p,rfl,hd,hc,hB,⟨x,y,hx,hy⟩,I,L⟩
 ·have c4:D.cell? ⟨w.heap.size+1+1,0,none⟩=some v:=A.cell hc (by simp);have V:D.cell? ⟨w.heap.size+1,0,none⟩=some x:=A.cell hx (by simp);have X:D.cell? ⟨w.heap.size+1,1,none⟩=some y:=A.cell hy (by simp);have z3:∀j,D.frozen? ⟨w.heap.size+1,j,none⟩=false:=fun j=>(frozen?_of_block (a:=⟨w.heap.size+1,j,none⟩) (A.block (w.heap.size+1) (by omega) (by simp))).trans (I j);have F:w.heap.size+4<=D.heap.size:=lt3 L A.size;have af:w.heap.size+1<D.heap.size:=by omega
  have ah:w.heap.size+1+1<D.heap.size:=by omega
  have HT:=aj hT;have Z:Below w.heap.size w D:=pf hB A (by omega);have ai:=aj (G.o v E D L (tb.grown A (by omega) (by omega)) J);obtain ⟨vv,rfl⟩:=hT;clear J hc hx hy I A hB
  go_wp21
  go_region
  all_goals
   go_wp2
   obtain ⟨A,q0,q1⟩:=zb5 D (w.heap.size+1) 0 0 (.cells #[.i 0,.i 0] 84) V X;have aa:=pf Z A (by omega);have ak:=aj (G.o _ D _ F (tb.grown A (by omega) (by omega)) ai.o);have N:=lt3 F A.size;generalize ((D.setCell ⟨w.heap.size+1,0,none⟩ (.i 0)).setCell ⟨w.heap.size+1,1,none⟩ (.i 0)).alloc (.cells #[.i 0,.i 0] 84)=W9 at*;exact bodyPost_ret (v:=.tuple #[_,.agg #[.i 0,.i 0]]) (by simp [results,results65,go_sem,q0,q1]) rfl ⟨aa.drew,N,inl ⟨_,rfl,HT.o,G.o _ W9 _ N ⟨nlq _,fun _ _ _=>rfl⟩ ak.o⟩⟩
 have c4:D.cell? ⟨w.heap.size+1+1,0,none⟩=some (.i 0):=A.cell hc (by simp);have V:D.cell? ⟨w.heap.size+1,0,none⟩=some x:=A.cell hx (by simp);have X:D.cell? ⟨w.heap.size+1,1,none⟩=some y:=A.cell hy (by simp);have z3:∀j,D.frozen? ⟨w.heap.size+1,j,none⟩=false:=fun j=>(frozen?_of_block (a:=⟨w.heap.size+1,j,none⟩) (A.block (w.heap.size+1) (by omega) (by simp))).trans (I j);have F:w.heap.size+4<=D.heap.size:=lt3 L A.size;have af:w.heap.size+1<D.heap.size:=by omega
 have ah:w.heap.size+1+1<D.heap.size:=by omega
 have HD:=aj hd;have Z:Below w.heap.size w D:=pf hB A (by omega);clear hd hc hx hy I A hB G
 go_wp21
 go_region
 all_goals
  go_wp2
  obtain ⟨A,q0,q1⟩:=zb5 D (w.heap.size+1) e p (.cells #[.i e,.i p] 84) V X;have aa:=pf Z A (by omega);have N:=lt3 F A.size;generalize ((D.setCell ⟨w.heap.size+1,0,none⟩ (.i e)).setCell ⟨w.heap.size+1,1,none⟩ (.i p)).alloc (.cells #[.i e,.i p] 84)=W9 at*;exact bodyPost_ret (v:=.tuple #[.i 0,.agg #[.i e,.i p]]) (by simp [results,results65,go_sem,q0,q1]) rfl ⟨aa.drew,N,inr ⟨_,_,rfl,HD.o⟩⟩
def kv (l:List aq):List QD:=[⟨203,6,dy l⟩,⟨204,5,qn l⟩,⟨205,4,sp l⟩,⟨206,5,np l⟩,⟨207,4,jf l⟩,⟨208,4,mt l⟩,⟨209,5,ub l⟩,⟨210,6,kd l⟩,⟨211,4,ny l⟩,⟨212,2,nk l⟩]
def ie (l:List aq):Int:=if ed l=0 then d9 (kv l) else ed l
theorem qs_SL:SL 2 (RQ #[.p b]) (· <w.heap.size+1) (w.alloc (.cells #[.func (.func 203) #[.p b] #[],.i 6,.func (.func 204) #[.p b] #[],.i 5,.func (.func 205) #[.p b] #[],.i 4,.func (.func 206) #[.p b] #[],.i 5,.func (.func 207) #[.p b] #[],.i 4,.func (.func 208) #[.p b] #[],.i 4,.func (.func 209) #[.p b] #[],.i 5,.func (.func 210) #[.p b] #[],.i 6,.func (.func 211) #[.p b] #[],.i 4,.func (.func 212) #[.p b] #[],.i 2] t)) (.slice (some ⟨w.heap.size,0,none⟩) 10 10) (kv l):=by
 refine ⟨some ⟨w.heap.size,0,none⟩,10,rfl,by simp [kv],by unfold maxLen;simp [kv],fun k E=>?_⟩;have D:k<10:=by simpa [kv]using E
 refine ⟨w.heap.size,0,[.func (.func (kv l)[k].g) #[.p b] #[],.i (kv l)[k].e],rfl,by simp,by simp,rfl,?_,rfl⟩;have hc:∀j v,(#[.func (.func 203) #[.p b] #[],.i 6,.func (.func 204) #[.p b] #[],.i 5,.func (.func 205) #[.p b] #[],.i 4,.func (.func 206) #[.p b] #[],.i 5,.func (.func 207) #[.p b] #[],.i 4,.func (.func 208) #[.p b] #[],.i 4,.func (.func 209) #[.p b] #[],.i 5,.func (.func 210) #[.p b] #[],.i 6,.func (.func 211) #[.p b] #[],.i 4,.func (.func 212) #[.p b] #[],.i 2]:Array Value)[j]? =some v->(w.alloc (.cells #[.func (.func 203) #[.p b] #[],.i 6,.func (.func 204) #[.p b] #[],.i 5,.func (.func 205) #[.p b] #[],.i 4,.func (.func 206) #[.p b] #[],.i 5,.func (.func 207) #[.p b] #[],.i 4,.func (.func 208) #[.p b] #[],.i 4,.func (.func 209) #[.p b] #[],.i 5,.func (.func 210) #[.p b] #[],.i 6,.func (.func 211) #[.p b] #[],.i 4,.func (.func 212) #[.p b] #[],.i 2] t)).cell? ⟨w.heap.size,j,none⟩=some v:=fun j v h=>bg (heap_alloc_new w _) j h;match k,D with
 | 0,_=>
   intro j A;rcases (by omega:j=0\/j=1)with rfl | rfl
   ·exact hc 0 _ rfl
   exact hc 1 _ rfl
 | 1,_=>
   intro j A;rcases (by omega:j=0\/j=1)with rfl | rfl
   ·exact hc 2 _ rfl
   exact hc 3 _ rfl
 | 2,_=>
   intro j A;rcases (by omega:j=0\/j=1)with rfl | rfl
   ·exact hc 4 _ rfl
   exact hc 5 _ rfl
 | 3,_=>
   intro j A;rcases (by omega:j=0\/j=1)with rfl | rfl
   ·exact hc 6 _ rfl
   exact hc 7 _ rfl
 | 4,_=>
   intro j A;rcases (by omega:j=0\/j=1)with rfl | rfl
   ·exact hc 8 _ rfl
   exact hc 9 _ rfl
 | 5,_=>
   intro j A;rcases (by omega:j=0\/j=1)with rfl | rfl
   ·exact hc 10 _ rfl
   exact hc 11 _ rfl
 | 6,_=>
   intro j A;rcases (by omega:j=0\/j=1)with rfl | rfl
   ·exact hc 12 _ rfl
   exact hc 13 _ rfl
 | 7,_=>
   intro j A;rcases (by omega:j=0\/j=1)with rfl | rfl
   ·exact hc 14 _ rfl
   exact hc 15 _ rfl
 | 8,_=>
   intro j A;rcases (by omega:j=0\/j=1)with rfl | rfl
   ·exact hc 16 _ rfl
   exact hc 17 _ rfl
 | 9,_=>
   intro j A;rcases (by omega:j=0\/j=1)with rfl | rfl
   ·exact hc 18 _ rfl
   exact hc 19 _ rfl
 | k+10,h=>exact absurd h (by omega)
theorem zji:∀q∈kv l,∀args w,(callFunc q.g args).run prog w=.ok (.enter q.g args) w:=by intro q A;simp only [kv,mem_cons,not_mem_nil,or_false]at A;rcases A with rfl | rfl | rfl | rfl | rfl | rfl | rfl | rfl | rfl | rfl<;>intro args w<;>kernel_rfl
theorem zjj:∀q∈kv l,q.e≠0:=by intro q A;simp only [kv,mem_cons,not_mem_nil,or_false]at A;rcases A with rfl | rfl | rfl | rfl | rfl | rfl | rfl | rfl | rfl | rfl<;>simp
theorem zjk (D:uh B w b l I O J N V L G) (k:Nat) (E:k<(kv l).length) (A:∀(j:Nat) (hj:j<(kv l).length),j<k->(kv l)[j].ans=true):
 Calls prog (kv l)[k].g #[.p b] w fun r w'=>r=.returned (.bool (kv l)[k].ans)/\Below w.heap.size w w':=by
 match k,E,A with
 | 0,E,A=>exact zdi _ B b l _ _ _ _ _ _ _ D
 | 1,E,A=>exact zdj _ B b l _ _ _ _ _ _ _ D
 | 2,E,A=>exact zdm _ B b l _ _ _ _ _ _ _ D
 | 3,E,A=>exact zdo _ B b l _ _ _ _ _ _ _ D
 | 4,E,A=>exact zdq _ B b l _ _ _ _ _ _ _ D
 | 5,E,A=>exact zdz _ B b l _ _ _ _ _ _ _ D (by have h:=A 1 (by simp [kv]) (by omega);have F:qn l=true:=h;rw [qn,Bool.and_eq_true]at F;simpa [ng]using F.2)
 | 6,E,A=>exact zdv _ B b l _ _ _ _ _ _ _ D
 | 7,E,A=>exact zfm _ B b l _ _ _ _ _ _ _ D
 | 8,E,A=>exact zi9 _ B b l _ _ _ _ _ _ _ D (A 3 (by simp [kv]) (by omega))
 | 9,E,A=>exact zdy _ B b l _ _ _ _ _ _ _ D
 | k+10,E,_=>exact absurd E (by simp [kv])
theorem zjl (W vS X Z vT Y:Value) (I:Nat) (G:uh B w b l W vS X Z vT Y I):
 Calls prog 161 #[.p b] w fun r w'=>pr (d9 (kv l)) r/\Below w.heap.size w w':=by
 have V:=ri prog;have F:=aj G;have A:=aj (fun o=>(br w.heap.size w).alloc (nlq _) o);have N:=aj (fun t=>qs_SL w b t l);clear G;go_enter func161,ntmps161
 go_wp21
 refine (zi6 _ (w.heap.size+1) #[.p b] _ (kv l) (N.o _) (by simp) (zji l) (zjj l) ?_).mono ?_
 ·intro k O D w' E;exact zjk w' B b l _ _ _ _ _ _ _ (F.o.below (((A.o _).mono F.o.le).trans (E.mono (lt3 F.o.le (A.o _).size)))) k O D
 rintro r w1 ⟨⟨hc,rfl⟩ | ⟨hc,rfl⟩,E⟩
 ·exact ⟨rfl,inl ⟨hc,rfl⟩,(A.o _).trans (E.mono (A.o _).size)⟩
 have L:=aj hc;have J:=aj ((A.o _).trans (E.mono (A.o _).size));clear hc E
 go_wp21
 go_end0;exact ⟨inr ⟨L.o,rfl⟩,J.o⟩
def Az (B:Nat) (w:World) (l:List aq) (v:Value) (p:Value) (w':World):Prop:=∃b vS vF vN vT vL Bm,p=.p b/\w.heap.size<=b/\ua (fun k=>(k<B\/w.heap.size<=k)/\k<w'.heap.size) w' b l v vS vF vN vT vL Bm
theorem zjm (N:SL 4 RC (· <B) w v l) (Y:B<=w.heap.size) (I:ed l=0) (hP:w.cell? ⟨P,0,none⟩=some v):
 Calls prog 159 #[.p P] w fun r w'=>Below w.heap.size w w'/\
  ((∃p,r=.returned p/\(∃q,p=.pointer q)/\d9 (kv l)=0/\Az B w l v p w')\/∃e p,r=.panicked [wrongV e p]/\d9 (kv l)=e/\e≠0):=by
 have X:=aj N;obtain ⟨ao,cl,rfl,-⟩:=N;go_enter func159,ntmps159
 go_wp21
 refine (zjd w B l _ X.o Y I).mono ?_;rintro r O ⟨rfl,G,vS,vF,vN,vT,vL,D⟩;have J:=aj D;have A:=aj G;clear D G
 go_wp21
 refine (zjl O O.heap.size (w.heap.size+1) l _ _ _ _ _ _ _ J.o.web).mono ?_;rintro r Z ⟨⟨hc,rfl⟩ | ⟨hc,rfl⟩,E⟩
 ·exact ⟨rfl,A.o.trans (E.mono A.o.size),inr ⟨_,_,rfl,rfl,hc⟩⟩
 have W:=aj hc;have V:=aj (A.o.trans (E.mono A.o.size));have L:Hid (Az B w l (.slice ao l.length cl) (.p (w.heap.size+1)) Z):=⟨_,_,_,_,_,_,_,rfl,by omega,((J.o.kept ⟨E.size,fun k F _=>E.block k F.2⟩).mono (fun k F=>⟨F.1,ll3 F.2 E.size⟩) (fun k F=>F.2))⟩;clear hc E J
 go_wp21
 go_ret;exact ⟨V.o,inl ⟨_,rfl,⟨_,rfl⟩,W.o,L.o⟩⟩
theorem Ci:(callFunc 159 args).run prog w=.ok (.enter 159 args) w:=by kernel_rfl
theorem zjn (hv:SL 4 RC (· <B) w v l) (hB:B<=w.heap.size):
 Calls prog 101 #[v] w fun r w'=>Below w.heap.size w w'/\
  ((ie l=0/\∃p,r=.returned (.tuple #[p,.i 0])/\Az B w l v p w')\/(ie l≠0/\r=.returned (.tuple #[.pointer none,.i (ie l)]))):=by
 have af:=ri prog;have HV:=aj hv;obtain ⟨ao,cl,rfl,-⟩:=hv;have I:=aj (fun o=>(br w.heap.size w).alloc (nlq _) o);go_enter func101,ntmps101
 go_wp21
 refine (zb8 _ B l _ (HV.o.keptC (Kp.below ((I.o _).mono hB))) (lt3 hB (I.o _).size)).mono ?_;rintro r w1 ⟨rfl,J⟩;have aa:=(I.o (.cells #[.slice ao l.length cl] 31)).trans (J.mono (I.o _).size);have ad:w1.cell? ⟨w.heap.size,0,none⟩=some (.slice ao l.length cl):=(J.cell (p:=⟨w.heap.size,0,none⟩) (by simp)).trans (by simp [go_sem]);have ai:w.heap.size+1<=w1.heap.size:=by have:=J.size;simpa using this
 have D:=aj aa;clear J aa;by_cases A:ed l=0
 ·have HT:Hid (ie l=d9 (kv l)):=by show ie l=_;rw [ie,if_pos A]
  have ac:=aj A;rw [A];clear A
  go_wp21
  refine (zjf w1 159 _ (fun p w'=>d9 (kv l)=0/\∃b Z V Y vT X N,p=.p b/\w.heap.size<=b/\ua (fun k=>(k<B\/w1.heap.size+4<=k)/\k<w'.heap.size) w' b l (.slice ao l.length cl) Z V Y vT X N) (fun e p=>d9 (kv l)=e/\e≠0) Ci ?hc ?hst).mono ?_
  case hc=>
   intro W hW ae;refine (zjm W B w.heap.size l _ (HV.o.keptC (Kp.below ((D.o.trans (hW.mono D.o.size)).mono hB))) (lt3 hB (D.o.trans (hW.mono D.o.size)).size) ac.o ((hW.cell (p:=⟨w.heap.size,0,none⟩) (by simp;omega)).trans ad)).mono ?_;rintro r w2 ⟨E,⟨p,rfl,hp,h0,b,Z,V,Y,vT,X,N,e,L,F⟩ | ⟨e,p,rfl,h1,h2⟩⟩
   ·refine ⟨E,inl ⟨p,rfl,hp,h0,b,Z,V,Y,vT,X,N,e,by omega,?_⟩⟩;rw [ae]at F;exact F
   exact ⟨E,inr ⟨e,p,rfl,h1,h2⟩⟩
  case hst=>
   rintro p W W' hz hf ⟨h0,b,Z,V,Y,vT,X,N,e,L,F⟩;refine ⟨h0,b,Z,V,Y,vT,X,N,e,L,(F.kept ⟨hf.size,fun k G _=>hf.block k G.2 (by rcases G.1 with h | h;(have:=D.o.size;omega);omega)⟩).mono (fun k G=>⟨G.1,ll3 G.2 hf.size⟩) (fun k G=>G.2)⟩
  rintro r w2 ⟨E,ak,⟨p,rfl,-,h0,b,Z,V,Y,vT,X,N,rfl,L,F⟩ | ⟨e,p,rfl,h1,h2⟩⟩
  ·have O:=aj (fun o=>(D.o.trans (E.mono D.o.size)).alloc (lt3 D.o.size E.size) o);have HR:Hid (∀o n,ie l=0/\Az B w l (.slice ao l.length cl) (.p b) ((w2.alloc o).drewN n)):=fun o n=>⟨HT.o.trans h0,b,Z,V,Y,vT,X,N,rfl,L,(F.kept (w':=(w2.alloc o).drewN n) ⟨by show _<=(w2.alloc o).heap.size;simp,fun k G _=>Below.heap_alloc _ _ _ G.2⟩).mono (fun k G=>⟨G.1.imp id (fun h=>by omega),by show _<(w2.alloc o).heap.size;have:=G.2;simp;omega⟩) (fun k G=>G.2)⟩;clear F h0 E
   go_wp21
   go_quiet (fail)
   go_wp21
   exact bodyPost_ret (v:=.tuple #[_,_]) (by simp [results,results101,go_sem]) rfl ⟨pa (O.o _) _,inl ⟨(HR.o (.map #[] 0) 0).1,_,rfl,(HR.o _ _).2⟩⟩
  have O:=aj (fun o=>(D.o.trans (E.mono D.o.size)).alloc (lt3 D.o.size E.size) o);have HR:Hid (ie l=e/\e≠0):=⟨HT.o.trans h1,h2⟩;clear E h1 h2
  go_wp21
  go_quiet (fail)
  go_wp21
  exact bodyPost_ret (v:=.tuple #[_,_]) (by simp [results,results101,go_sem];exact ⟨rfl,rfl⟩) rfl ⟨pa (O.o _) _,inr ⟨by rw [HR.o.1];exact HR.o.2,by rw [HR.o.1]⟩⟩
 have HT:Hid (ie l=ed l):=by show ie l=_;rw [ie,if_neg A]
 have ah:(ed l==0)=false:=beq_eq_false_iff_ne.2 A;have HN:=aj A;clear A;generalize ed l=ce at*
 go_wp21
 exact bodyPost_ret (v:=.tuple #[_,_]) (by simp [results,results101,go_sem];exact ⟨rfl,rfl⟩) rfl ⟨D.o,inr ⟨by rw [HT.o];exact HN.o,by rw [HT.o]⟩⟩
end
end Go.Proofs.YtjdnmblggdobgaaGreat
