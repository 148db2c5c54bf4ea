import Derived.Test.YtjdnmblggdobgaaGreatJLSaLTie
import Derived.Test.YtjdnmblggdobgaaGreatJLClLCp
import Derived.KernelRfl
set_option maxHeartbeats 4000000
set_option maxRecDepth 100000
namespace Go.Proofs.YtjdnmblggdobgaaGreat
open Go.RowKit Go.Maps Tryz
def qi (l:List aq):bd:=⟨l,(List.range l.length).map (dj l),(List.range l.length).map (fieldsOf l),(List.range l.length).map (fb l),(List.range l.length).map (ew l)⟩
def Bu:Value:=.agg #[.nl,.nl,.nl,.nl,.nl]
theorem mt.mono {M M':Nat->Prop} {w:World} {D I E G J:Value} {d:bd} (h:mt M w D I E G J d) (A:∀k,M k->M' k):mt M' w D I E G J d:=
 ⟨h.C.monoC A,h.S.monoI A,h.F.monoSl A fun _ _ h=>h,h.N.monoSl A fun _ _ h=>h,h.T.monoSl A fun _ _ h=>h⟩
theorem zka {l:List aq} (h:gw l=0):dy l=0:=by
 unfold gw at h;by_cases hc:dy l=0
 ·exact hc
 rw [if_neg hc]at h;exact h
theorem zkb {l:List aq} (h:dy l=0):l.length<=100000/\∀x∈l,x.fields.length<=100000/\x.be.length<=100000/\∀m∈x.be,m.args.length<=100000/\m.hands.length<=100000:=by obtain ⟨h1,A⟩:=zgm h;refine ⟨by omega,fun x F=>?_⟩;obtain ⟨-,-,G,-,I,D⟩:=A x F;refine ⟨by omega,by omega,fun m E=>?_⟩;obtain ⟨-,J,-,-,-,-,-,L,-⟩:=D m E;exact ⟨by omega,by omega⟩
theorem SL.stpC {B:Nat} {T:List Nat} {w w':World} {v:Value} {l:List aq} (h:SL 4 RC (MT B T w) w v l) (A:Stp B T w w'):SL 4 RC (MT B T w') w' v l:=(h.keptC A.kp).monoC fun _ D=>D.step A
theorem Ff (W:World) (R t:Nat) (O N L J G A D E F I:Value) (h:W.heap[R]? =some (.cells #[O,N,L,J,G] t (0,0))):
 (((((W.setCell ⟨R,0,none⟩ A).setCell ⟨R,1,none⟩ D).setCell ⟨R,2,none⟩ E).setCell ⟨R,3,none⟩ F).setCell ⟨R,4,none⟩ I).heap[R]? =some (.cells #[A,D,E,F,I] t (0,0))/\
 W.grownBy (((((W.setCell ⟨R,0,none⟩ A).setCell ⟨R,1,none⟩ D).setCell ⟨R,2,none⟩ E).setCell ⟨R,3,none⟩ F).setCell ⟨R,4,none⟩ I) (some R):=
 ⟨by
  have h0:(W.setCell ⟨R,0,none⟩ A).heap[R]? =some (.cells #[A,N,L,J,G] t (0,0)):=(rr (j:=0) h A).trans rfl;have h1:((W.setCell ⟨R,0,none⟩ A).setCell ⟨R,1,none⟩ D).heap[R]? =some (.cells #[A,D,L,J,G] t (0,0)):=(rr (j:=1) h0 D).trans rfl;have h2:(((W.setCell ⟨R,0,none⟩ A).setCell ⟨R,1,none⟩ D).setCell ⟨R,2,none⟩ E).heap[R]? =some (.cells #[A,D,E,J,G] t (0,0)):=(rr (j:=2) h1 E).trans rfl;have h3:((((W.setCell ⟨R,0,none⟩ A).setCell ⟨R,1,none⟩ D).setCell ⟨R,2,none⟩ E).setCell ⟨R,3,none⟩ F).heap[R]? =some (.cells #[A,D,E,F,G] t (0,0)):=(rr (j:=3) h2 F).trans rfl
  exact (rr (j:=4) h3 I).trans rfl,by
  have V:W.grownBy (W.setCell ⟨R,0,none⟩ A) (some R):=ow (World.grownBy.refl W (some R)) ⟨R,0,none⟩ A (Or.inl rfl);have X:=ow V ⟨R,1,none⟩ D (Or.inl rfl);have Y:=ow X ⟨R,2,none⟩ E (Or.inl rfl);have Z:=ow Y ⟨R,3,none⟩ F (Or.inl rfl);exact ow Z ⟨R,4,none⟩ I (Or.inl rfl)⟩
theorem zkc (w:World) (B:Nat) (l:List aq) (v:Value) (hv:SL 4 RC (· <B) w v l) (hB:B<=w.heap.size):
 Calls prog 49 #[v] w fun r w'=>Below w.heap.size w w'/\
  ((gw l=0/\∃kC kS kF kN kT,r=.returned (.tuple #[.agg #[kC,kS,kF,kN,kT],.i 0])/\mt (fun k=>(k<B\/w.heap.size<=k)/\k<w'.heap.size) w' kC kS kF kN kT (qi l))\/(gw l≠0/\r=.returned (.tuple #[Bu,.i (gw l)]))):=by
 have HV:=ag hv;obtain ⟨ao,cl,rfl,-⟩:=hv;have N:=ag (fun o=>(br w.heap.size w).alloc (nlq _) o);go_enter func49,ntmps49;go_wp2_with fail;refine (zjw _ B l _ (HV.o.keptC (Kp.below ((N.o _).mono hB))) (lt3 hB (N.o _).size)).mono ?_;rintro r w1 ⟨V,⟨h0,p,rfl,b,vS,vF,vN,vT,vL,Bm,rfl,a0,ai⟩ | ⟨h0,rfl⟩⟩
 ·have A:w1.heap[w.heap.size]? =some (.cells #[.nl,.nl,.nl,.nl,.nl] 36 (0,0)):=(V.block w.heap.size (by simp)).trans (heap_alloc_new w _);have a3:w.heap.size+1<=b:=by simpa using a0
  have ac:Below w.heap.size w w1:=(N.o _).trans (V.mono (N.o _).size);have aa:=ag ac;have HW:=ag ai;have HT:=ag h0;have ay:=ag A;have aj:=ag (zj9 w1 B _ l (HV.o.keptC (Kp.below (ac.mono hB))) (lt3 hB ac.size) (zkb (zka h0)).1 (zkb (zka h0)).2);have a1:w.heap.size<w1.heap.size:=bz A;clear V ai h0 ac A;go_wp2_with fail;refine aj.o.mono ?_;rintro r w2 ⟨I,vC,rfl,sC⟩;have ak:=ag sC;obtain ⟨J,L,rfl,-⟩:=sC;have Z:=HW.o.blk;have ah:=bz Z;have F:=(I.block b ah).trans Z;have a2:b≠w.heap.size:=by omega
  have a4:=bz F;have an:Below w.heap.size w (w2.setCell ⟨b,0,none⟩ (.slice J l.length L)):=(aa.o.trans (I.mono aa.o.size)).setCell (by simp;omega) _;have D:=rr (j:=0) F (.slice J l.length L);have c0:=bp F 0 (x:=.slice ao l.length cl) rfl;have z0:=pj F 0;have G:(w2.setCell ⟨b,0,none⟩ (.slice J l.length L)).heap[w.heap.size]? =some (.cells #[.nl,.nl,.nl,.nl,.nl] 36 (0,0)):=(Below.heap_setCell _ _ _ _ (by simp;omega)).trans ((I.block w.heap.size a1).trans ay.o);have az:Hid (mt (fun k=>((k<B\/w.heap.size+1<=k)/\k<w2.heap.size)) (w2.setCell ⟨b,0,none⟩ (.slice J l.length L)) (.slice J l.length L) vS vF vN vT (qi l)):=by have ad:Kp (fun k=>((k<B\/(w.alloc (.cells #[.nl,.nl,.nl,.nl,.nl] 36)).heap.size<=k)/\k<w1.heap.size)/\k≠b) w1 (w2.setCell ⟨b,0,none⟩ (.slice J l.length L)):=⟨lt3 I.size (by simp [World.setCell]),fun k W hl=>(Below.heap_setCell _ _ _ _ (by simpa using W.2)).trans (I.block k hl)⟩;have af:∀k,(((k<B\/(w.alloc (.cells #[.nl,.nl,.nl,.nl,.nl] 36)).heap.size<=k)/\k<w1.heap.size)/\k≠b)->((k<B\/w.heap.size+1<=k)/\k<w2.heap.size):=fun k W=>⟨W.1.1.imp id (fun h=>by simpa using h),ll3 W.1.2 I.size⟩;exact ⟨(ak.o.stpC (Stp.set F (by decide) 0 (.slice J l.length L))).monoC (fun k W=>⟨Or.inr (by have:=W.1;omega),by have:=W.lt;simpa [World.setCell]using this⟩),(HW.o.sS.keptI ad).monoI af,(HW.o.sF.keptSl ad fun _ _ h=>h).monoSl af fun _ _ h=>h,(HW.o.sN.keptSl ad fun _ _ h=>h).monoSl af fun _ _ h=>h,(HW.o.sT.keptSl ad fun _ _ h=>h).monoSl af fun _ _ h=>h⟩
  have av:((List.range l.length).map (dj l)).length=l.length:=by simp
  have ap:((List.range l.length).map (fieldsOf l)).length=l.length:=by simp
  have au:((List.range l.length).map (fb l)).length=l.length:=by simp
  have aw:((List.range l.length).map (ew l)).length=l.length:=by simp
  obtain ⟨aS,cS,e1,-⟩:=HW.o.sS;obtain ⟨aF,cF,e2,-⟩:=HW.o.sF;obtain ⟨aN,cN,e3,-⟩:=HW.o.sN;obtain ⟨aT,cT,e4,-⟩:=HW.o.sT;rw [av]at e1;rw [ap]at e2;rw [au]at e3;rw [aw]at e4;subst e1 e2 e3 e4;have d0:=bp D 0 (x:=.slice J l.length L) rfl;have d1:=bp D 1 (x:=.slice aS l.length cS) rfl;have d2:=bp D 2 (x:=.slice aF l.length cF) rfl;have d3:=bp D 3 (x:=.slice aN l.length cN) rfl;have d4:=bp D 4 (x:=.slice aT l.length cT) rfl;have r0:=bp G 0 (x:=.nl) rfl;have r1:=bp G 1 (x:=.nl) rfl;have r2:=bp G 2 (x:=.nl) rfl;have r3:=bp G 3 (x:=.nl) rfl;have r4:=bp G 4 (x:=.nl) rfl;have f0:∀j,(w2.setCell ⟨b,0,none⟩ (.slice J l.length L)).frozen? ⟨w.heap.size,j,none⟩=false:=fun j=>pj G j;have lR:=bz G;have a6:=bz D;have ax:=ag an;obtain ⟨Y,X⟩:=Ff _ w.heap.size _ _ _ _ _ _ (.slice J l.length L) (.slice aS l.length cS) (.slice aF l.length cF) (.slice aN l.length cN) (.slice aT l.length cT) G;have E:=ag Y;have O:=ag X;clear Y X;clear HW ak aj av ap au aw Z I an ah;go_wp2_with fail;generalize ((((((w2.setCell ⟨b,0,none⟩ (.slice J l.length L)).setCell ⟨w.heap.size,0,none⟩ (.slice J l.length L)).setCell ⟨w.heap.size,1,none⟩ (.slice aS l.length cS)).setCell ⟨w.heap.size,2,none⟩ (.slice aF l.length cF)).setCell ⟨w.heap.size,3,none⟩ (.slice aN l.length cN)).setCell ⟨w.heap.size,4,none⟩ (.slice aT l.length cT))=W9 at*;have s0:=bp E.o 0 (x:=.slice J l.length L) rfl;have s1:=bp E.o 1 (x:=.slice aS l.length cS) rfl;have s2:=bp E.o 2 (x:=.slice aF l.length cF) rfl;have s3:=bp E.o 3 (x:=.slice aN l.length cN) rfl;have s4:=bp E.o 4 (x:=.slice aT l.length cT) rfl;refine bodyPost_ret (v:=.tuple #[.agg #[.slice J l.length L,.slice aS l.length cS,.slice aF l.length cF,.slice aN l.length cN,.slice aT l.length cT],.i 0]) (by simp [results,results49,go_sem,s0,s1,s2,s3,s4]) rfl ⟨rn ax.o O.o (nlq _),Or.inl ⟨HT.o,_,_,_,_,_,rfl,?_⟩⟩;refine ((az.o.kept (w':=W9) ⟨O.o.size,fun k W hl=>O.o.block k hl (by intro e;injection e with e;rcases W.1 with h | h<;>omega)⟩).mono fun k W=>⟨W.1.imp id (fun h=>by omega),?_⟩);have:=O.o.size;have h2:=W.2;simp [World.setCell]at this;omega
 have aa:=ag ((N.o _).trans (V.mono (N.o _).size));have a5:(gw l==0)=false:=beq_eq_false_iff_ne.2 h0;have A:w1.heap[w.heap.size]? =some (.cells #[.nl,.nl,.nl,.nl,.nl] 36 (0,0)):=(V.block w.heap.size (by simp)).trans (heap_alloc_new w _);have lR:=bz A;have r0:=bp A 0 (x:=.nl) rfl;have r1:=bp A 1 (x:=.nl) rfl;have r2:=bp A 2 (x:=.nl) rfl;have r3:=bp A 3 (x:=.nl) rfl;have r4:=bp A 4 (x:=.nl) rfl;have f0:∀j,w1.frozen? ⟨w.heap.size,j,none⟩=false:=fun j=>pj A j;have HN:=ag h0;obtain ⟨Y,X⟩:=Ff _ w.heap.size _ _ _ _ _ _ (.nl) (.nl) (.nl) (.nl) (.nl) A;have E:=ag Y;have O:=ag X;clear V h0 A Y X;generalize hte:gw l=te at*;have al:=ag hte;clear hte;go_wp2_with fail;generalize (((((w1.setCell ⟨w.heap.size,0,none⟩ (.nl)).setCell ⟨w.heap.size,1,none⟩ (.nl)).setCell ⟨w.heap.size,2,none⟩ (.nl)).setCell ⟨w.heap.size,3,none⟩ (.nl)).setCell ⟨w.heap.size,4,none⟩ (.nl))=W9 at*;have s0:=bp E.o 0 (x:=.nl) rfl;have s1:=bp E.o 1 (x:=.nl) rfl;have s2:=bp E.o 2 (x:=.nl) rfl;have s3:=bp E.o 3 (x:=.nl) rfl;have s4:=bp E.o 4 (x:=.nl) rfl;exact bodyPost_ret (v:=.tuple #[Bu,.i te]) (by simp [results,results49,go_sem,s0,s1,s2,s3,s4,Bu]) rfl ⟨rn aa.o O.o (nlq _),Or.inr ⟨by rw [al.o];exact HN.o,by rw [al.o]⟩⟩
def ql (d:bd):Bool:=decide (gw d.aj=0)&&rp d.aj d
def A2 (d:bd) (n:Int):Bool:=decide (0<=n)&&decide (n<d.aj.length)
def il (d:bd) (ns:List Int):Int:=if ql d=true then (if ns.all (A2 d)=true then 0 else 3) else 4
theorem ti.web' {B:Nat} {w:World} {b:Nat} {l:List aq} {E J F I L G:Value} {D:Nat} (h:ti B w b l E J F I L G D):ti w.heap.size w b l E J F I L G D:=
 have A:∀k,k<B->k<w.heap.size:=fun _ N=>ll3 N h.le
 ⟨A _ h.bB,A _ h.mB,nlq _,h.blk,h.sC.monoC A,h.sS.monoI A,h.sF.monoSl A fun _ _ h=>h,h.sN.monoSl A fun _ _ h=>h,h.sT.monoSl A fun _ _ h=>h,h.sL.monoSl A fun _ _ h=>h,h.nm⟩
theorem mt.agg {M:Nat->Prop} {w:World} {V Y W X Z:Value} {d:bd} (h:mt M w V Y W X Z d):∃A I F N D J E L G O,V=.slice A d.aj.length I/\Y=.slice F d.bg.length N/\W=.slice D d.fields.length J/\X=.slice E d.names.length L/\Z=.slice G d.ax.length O:=by obtain ⟨⟨A,I,e1,-⟩,⟨F,N,e2,-⟩,⟨D,J,e3,-⟩,⟨E,L,e4,-⟩,⟨G,O,e5,-⟩⟩:=h;exact ⟨_,_,_,_,_,_,_,_,_,_,e1,e2,e3,e4,e5⟩
theorem zkd (w:World) (B:Nat) (kC kS kF kN kT:Value) (d:bd) (Z:mt (· <B) w kC kS kF kN kT d) (hB:B<=w.heap.size) (M:Nat->Prop) (vn:Value) (ns:List Int) (hn:SL 1 RI M w vn ns):
 Calls prog 166 #[.agg #[kC,kS,kF,kN,kT],vn] w fun r w'=>Bl w w'/\
  ((il d ns=0/\ql d=true/\∃b vS vF vN vT vL Bm,r=.returned (.p b)/\ti w'.heap.size w' b d.aj kC vS vF vN vT vL Bm)\/(il d ns≠0/\r=.panicked [wrongV (il d ns) 0])):=by
 have HK:=ag Z;have ah:=ag hn;obtain ⟨aC,cC,aS,cS,aF,cF,aN,cN,aT,cT,rfl,rfl,rfl,rfl,rfl⟩:=Z.agg;obtain ⟨an,cn,rfl,-,al,-⟩:=hn;unfold maxLen at al;have G:=ag (fun o=>(br w.heap.size w).alloc (nlq _) o);have ao:d.aj.length<=9223372036854775807:=by obtain ⟨a,c,-,-,h,-⟩:=Z.C;unfold maxLen at h;omega
 clear Z;go_enter func166,ntmps166;go_wp2_with fail;refine (zjw _ B d.aj _ (HK.o.C.keptC (Kp.below ((G.o _).mono hB))) (lt3 hB (G.o _).size)).mono ?_;rintro r w1 ⟨L,⟨h0,p,rfl,b,vS,vF,vN,vT,vL,Bm,rfl,aw,N⟩ | ⟨h0,rfl⟩⟩
 ·have D:w1.heap[w.heap.size]? =some (.cells #[.slice aC d.aj.length cC,.slice aS d.bg.length cS,.slice aF d.fields.length cF,.slice aN d.names.length cN,.slice aT d.ax.length cT] 36 (0,0)):=(L.block w.heap.size (by simp)).trans (heap_alloc_new w _);have I:Bl w w1:=(G.o _).trans (L.mono (G.o _).size);have O:=ag I;have HW:=ag N.web;have aa:=bz D;have r0:=bp D 0 (x:=.slice aC d.aj.length cC) rfl;have r1:=bp D 1 (x:=.slice aS d.bg.length cS) rfl;have r2:=bp D 2 (x:=.slice aF d.fields.length cF) rfl;have r3:=bp D 3 (x:=.slice aN d.names.length cN) rfl;have r4:=bp D 4 (x:=.slice aT d.ax.length cT) rfl;have ai:=ag D;have V:=ag (zem w1 w1.heap.size b d.aj _ _ _ _ _ _ Bm N.web _ _ _ _ _ d ((HK.o.kept (Kp.below (I.mono hB))).mono fun k Z=>ll3 Z (lt3 hB I.size)));have W:Hid (ql d=rp d.aj d):=by show ql d=_;simp [ql,h0]
  clear L N h0 I D;generalize rp d.aj d=mk at*;cases mk with
  | false=>
    have E:Hid (il d ns=4):=by show il d ns=4;rw [il,W.o];rfl
    go_wp2_with (go_at_call 216;refine V.o.mono ?_;rintro r w2 ⟨rfl,F⟩);refine (od _ _ _).mono ?_;rintro r w3 ⟨rfl,⟨A,rfl⟩ | ⟨A,rfl⟩⟩
    ·exact ⟨rfl,O.o.trans (F.mono O.o.size),Or.inr ⟨by rw [E.o];decide,by rw [E.o]⟩⟩
    exact absurd A (by simp)
  | true=>
    go_wp2_with (go_at_call 216;refine V.o.mono ?_;rintro r w2 ⟨rfl,F⟩);refine (od _ _ _).mono ?_;rintro r w3 ⟨rfl,⟨A,rfl⟩ | ⟨A,rfl⟩⟩
    ·exact absurd A (by simp)
    clear A;have ak:=ag (((HW.o.below F).web'));have J:=ag (O.o.trans (F.mono O.o.size));have k0:=(F.cell (p:=⟨w.heap.size,0,none⟩) aa).trans r0;have az:w.heap.size<w3.heap.size:=ll3 aa F.size;have X:Hid (il d ns=if ns.all (A2 d)=true then 0 else 3):=by show il d ns=_;rw [il,if_pos W.o]
    clear r0 r1 r2 r3 r4 F V ai HW aa;go_wp2_with fail;go_loopw [25] (fun i wr=>∃k:Nat,k<=ns.length/\i=.i k/\wr=w3/\Hid (ns.all (A2 d)=(ns.drop k).all (A2 d))) (fun i _=>ns.length - (intOf i).toNat)
    case atStart=>exact ⟨0,n0q _,rfl,rfl,rfl⟩
    case round=>
     obtain ⟨k,Z,rfl,rfl,HQ⟩:=hrel;by_cases ac:k<ns.length
     ·obtain ⟨bn,on,rfl,av,en⟩:=(ah.o.keptI ⟨J.o.size,fun q _ hq=>J.o.block q hq⟩).atI k ac;have Y:Hid ((ns.drop k).all (A2 d)=(A2 d ns[k]&&(ns.drop (k+1)).all (A2 d))):=by show _=_;rw [List.drop_eq_getElem_cons ac,List.all_cons]
      generalize ns[k]=n at*;have ap:(0:Int)<=k:=by omega
      have au:(k:Int)<ns.length:=by omega
      by_cases ad:0<=n
      ·by_cases af:n<d.aj.length
       ·have E:Hid (ns.all (A2 d)=(ns.drop (k+1)).all (A2 d)):=HQ.o.trans (Y.o.trans (by simp [A2,ad,af]));go_wp2_with fail;refine (od _ _ _).mono ?_;rintro r w4 ⟨rfl,⟨A,rfl⟩ | ⟨A,rfl⟩⟩
        ·exact absurd A (by simp<;>omega)
        clear A;go_wp2_with fail;go_roundw
        case rel=>exact ⟨k+1,by omega,by go_num,(by first | rfl | trivial),E.o⟩
        case measure=>simp [intOf];omega
       have E:Hid (il d ns=3):=X.o.trans (by rw [HQ.o,Y.o];simp [A2,af]);go_wp2_with fail;refine (od _ _ _).mono ?_;rintro r w4 ⟨rfl,⟨A,rfl⟩ | ⟨A,rfl⟩⟩
       ·exact ⟨rfl,J.o,Or.inr ⟨by rw [E.o];decide,by rw [E.o]⟩⟩
       exact absurd A (by simp<;>omega)
      have E:Hid (il d ns=3):=X.o.trans (by rw [HQ.o,Y.o];simp [A2,ad]);go_wp2_with fail;refine (od _ _ _).mono ?_;rintro r w4 ⟨rfl,⟨A,rfl⟩ | ⟨A,rfl⟩⟩
      ·exact ⟨rfl,J.o,Or.inr ⟨by rw [E.o];decide,by rw [E.o]⟩⟩
      exact absurd A (by simp<;>omega)
     have E:Hid (il d ns=0):=X.o.trans (by rw [HQ.o,List.drop_of_length_le (by omega)];rfl);go_wp2_with fail;go_ret;exact ⟨J.o,Or.inl ⟨E.o,W.o,_,_,_,_,_,_,_,rfl,ak.o⟩⟩
 have I:=ag ((G.o (.cells #[.slice aC d.aj.length cC,.slice aS d.bg.length cS,.slice aF d.fields.length cF,.slice aN d.names.length cN,.slice aT d.ax.length cT] 36)).trans (L.mono (G.o _).size));have E:Hid (il d ns=4):=by
  show il d ns=4;have:ql d=false:=by simp [ql,h0]
  rw [il,this];rfl
 have ay:(gw d.aj==0)=false:=beq_eq_false_iff_ne.2 h0;clear L h0;generalize gw d.aj=te at*;go_wp2_with fail;refine (od _ _ _).mono ?_;rintro r w3 ⟨rfl,⟨A,rfl⟩ | ⟨A,rfl⟩⟩
 ·exact ⟨rfl,I.o,Or.inr ⟨by rw [E.o];decide,by rw [E.o]⟩⟩
 exact absurd A (by simp)
theorem Fc (M:Nat->Prop) (w:World):SL 1 RI M w (.nl) []:=⟨none,0,rfl,nlq _,by unfold maxLen;simp,fun k A=>by cases A⟩
theorem zkt (w:World) (B P:Nat) (D G E F I:Value) (d:bd) (N:mt (· <B) w D G E F I d) (hB:B<=w.heap.size) (A:w.heap[P]? =some (.cells #[D,G,E,F,I] 36 (0,0))):
 Calls prog 165 #[.p P] w fun r w'=>pc (il d []) r/\Bl w w':=by
 have J:=ag (zkd w B D G E F I d N hB (fun _=>True) _ [] (Fc _ _));have aa:=bz A;have W:=bp A 0 (x:=D) rfl;have X:=bp A 1 (x:=G) rfl;have Y:=bp A 2 (x:=E) rfl;have Z:=bp A 3 (x:=F) rfl;have c4:=bp A 4 (x:=I) rfl;obtain ⟨aC,cC,aS,cS,aF,cF,aN,cN,aT,cT,rfl,rfl,rfl,rfl,rfl⟩:=N.agg;clear N A;go_enter func165,ntmps165;go_wp2_with fail;refine J.o.mono ?_;rintro r w1 ⟨L,⟨h0,-,b,vS,vF,vN,vT,vL,Bm,rfl,-⟩ | ⟨h0,rfl⟩⟩
 ·have V:=ag h0;have O:=ag L;clear h0 L W X Y Z c4;go_wp2_with fail;go_end0;exact ⟨Or.inr ⟨V.o,rfl⟩,O.o⟩
 exact ⟨rfl,Or.inl ⟨h0,rfl⟩,L⟩
theorem yh (args:Array Value) (w:World):(callFunc 165 args).run prog w=.ok (.enter 165 args) w:=by kernel_rfl
theorem zku (w:World) (B:Nat) (kC kS kF kN kT:Value) (d:bd) (hk:mt (· <B) w kC kS kF kN kT d) (D:B<=w.heap.size):
 Calls prog 104 #[.agg #[kC,kS,kF,kN,kT]] w fun r w'=>r=.returned (.i (il d []))/\Bl w w':=by
 have J:=qj prog;have V:=ag hk;obtain ⟨W,cC,Z,cS,X,cF,Y,cN,aT,cT,rfl,rfl,rfl,rfl,rfl⟩:=hk.agg;clear hk;have E:=(br w.heap.size w).alloc (nlq _) (.cells #[.slice W d.aj.length cC,.slice Z d.bg.length cS,.slice X d.fields.length cF,.slice Y d.names.length cN,.slice aT d.ax.length cT] 36);have A:=E.alloc E.size (.cells #[.i 0,.i 0] 84);go_enter func104,ntmps104;go_wp2_with fail;refine (zb6 165 _ _ (fun L=>il d []=0/\Bl w L) (fun e p L=>il d []=e/\Bl w L) (yh _) ?hc).mono ?_
 case hc=>
  refine (zkt _ B w.heap.size _ _ _ _ _ d (V.o.kept (Kp.below (A.mono D))) (lt3 D A.size) ((Below.heap_alloc _ _ _ (by simp)).trans (heap_alloc_new w _))).mono ?_;rintro r L ⟨hr,hb⟩;have G:=A.trans (hb.mono A.size);refine ⟨?_,?_⟩
  ·rw [hb.block (w.alloc (.cells #[.slice W d.aj.length cC,.slice Z d.bg.length cS,.slice X d.fields.length cF,.slice Y d.names.length cN,.slice aT d.ax.length cT] 36)).heap.size (by simp)];exact heap_alloc_new _ _
  rcases hr with ⟨hc,rfl⟩ | ⟨hc,rfl⟩
  ·exact Or.inr ⟨_,_,rfl,rfl,G⟩
  exact Or.inl ⟨rfl,hc,G⟩
 rintro r w2 ⟨L,I,hr⟩;have hz:(w.alloc (.cells #[.slice W d.aj.length cC,.slice Z d.bg.length cS,.slice X d.fields.length cF,.slice Y d.names.length cN,.slice aT d.ax.length cT] 36)).heap.size=w.heap.size+1:=by simp
 rw [hz]at I;clear E A hz;rcases hr with ⟨rfl,hc,F⟩ | ⟨e,p,rfl,hc,F⟩
 ·have O:=ag hc;have N:=ag (rn F I (by omega));clear hc I F J D V;have aa:=qh;go_wp2
  go_ret;exact ⟨by rw [O.o];rfl,N.o⟩
 have O:=ag hc;have N:=ag (rn F I (by omega));clear hc I F J D V;have aa:=qh;go_wp2
 go_ret;exact ⟨by rw [O.o];rfl,N.o⟩
def baseD:List aq:=[⟨⟨#[79,98,106,101,99,116]⟩,⟨#[]⟩,[],[⟨⟨#[109,97,105,110]⟩,true,[],⟨0,⟨#[]⟩⟩,2,0,⟨#[1,0,7,31,27]⟩,[]⟩]⟩,
 ⟨⟨#[69,114,114,111,114]⟩,⟨#[79,98,106,101,99,116]⟩,[⟨⟨#[99,111,100,101]⟩,⟨1,⟨#[]⟩⟩⟩],[]⟩]
theorem zm4:gw baseD=0:=by kernel_rfl
theorem zm6 (w:World):Calls prog 50 #[] w fun r w'=>Bl w w'/\∃v,r=.returned v/\SL 4 RC (· <w'.heap.size) w' v baseD:=by
 go_enter func50,ntmps50;go_wp2
 go_ret;refine ⟨((((br _ _).alloc (nlq _) _).alloc (by simp) _).alloc (by simp;omega) _),_,rfl,?_⟩;refine ⟨_,_,rfl,nlq _,by unfold maxLen;simp [baseD],fun k A=>?_⟩;have F:k<2:=A;match k,F with
 | 0,_=>
   refine ⟨_,_,[.string ⟨#[79,98,106,101,99,116]⟩,.string ⟨#[]⟩,.nl,.slice (some ⟨w.heap.size,0,none⟩) 1 1],rfl,by simp,by simp,rfl,fun j D=>?_,?_⟩
   ·match j,D with
    | 0,_=>simp [go_sem]
    | 1,_=>simp [go_sem]
    | 2,_=>simp [go_sem]
    | 3,_=>simp [go_sem]
   refine ⟨_,_,rfl,⟨none,0,rfl,nlq _,n0q _,fun k A=>by cases A⟩,⟨some ⟨w.heap.size,0,none⟩,1,rfl,nlq _,by unfold maxLen;simp [baseD],fun k A=>?_⟩,of_decide_eq_true (by kernel_rfl),of_decide_eq_true (by kernel_rfl)⟩;have E:k<1:=A;match k,E with
   | 0,_=>
     refine ⟨_,_,[.string ⟨#[109,97,105,110]⟩,.bool true,.nl,.i 0,.string ⟨#[]⟩,.i 2,.i 0,.string ⟨#[1,0,7,31,27]⟩,.nl],rfl,by simp;omega,by simp;omega,rfl,fun j D=>?_,?_⟩
     ·match j,D with
      | 0,_=>simp [go_sem]
      | 1,_=>simp [go_sem]
      | 2,_=>simp [go_sem]
      | 3,_=>simp [go_sem]
      | 4,_=>simp [go_sem]
      | 5,_=>simp [go_sem]
      | 6,_=>simp [go_sem]
      | 7,_=>simp [go_sem]
      | 8,_=>simp [go_sem]
     exact ⟨_,_,rfl,⟨none,0,rfl,nlq _,n0q _,fun k A=>by cases A⟩,⟨none,0,rfl,nlq _,n0q _,fun k A=>by cases A⟩,of_decide_eq_true (by kernel_rfl),of_decide_eq_true (by kernel_rfl),of_decide_eq_true (by kernel_rfl)⟩
 | 1,_=>
   refine ⟨_,_,[.string ⟨#[69,114,114,111,114]⟩,.string ⟨#[79,98,106,101,99,116]⟩,.slice (some ⟨w.heap.size+1,0,none⟩) 1 1,.nl],rfl,by simp,by simp,rfl,fun j D=>?_,?_⟩
   ·match j,D with
    | 0,_=>simp [go_sem]
    | 1,_=>simp [go_sem]
    | 2,_=>simp [go_sem]
    | 3,_=>simp [go_sem]
   refine ⟨_,_,rfl,⟨some ⟨w.heap.size+1,0,none⟩,1,rfl,nlq _,by unfold maxLen;simp [baseD],fun k A=>?_⟩,⟨none,0,rfl,nlq _,n0q _,fun k A=>by cases A⟩,of_decide_eq_true (by kernel_rfl),of_decide_eq_true (by kernel_rfl)⟩;have E:k<1:=A;match k,E with
   | 0,_=>
     refine ⟨_,_,[.string ⟨#[99,111,100,101]⟩,.i 1,.string ⟨#[]⟩],rfl,by simp,by simp,rfl,fun j D=>?_,?_⟩
     ·match j,D with
      | 0,_=>simp [go_sem]
      | 1,_=>simp [go_sem]
      | 2,_=>simp [go_sem]
     exact ⟨rfl,of_decide_eq_true (by kernel_rfl),of_decide_eq_true (by kernel_rfl)⟩
end Go.Proofs.YtjdnmblggdobgaaGreat
