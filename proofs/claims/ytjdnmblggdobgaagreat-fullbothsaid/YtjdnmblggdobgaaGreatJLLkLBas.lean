import Derived.Test.YtjdnmblggdobgaaGreatJLSaLTie
import Derived.Test.YtjdnmblggdobgaaGreatJLClLCp
set_option maxHeartbeats 4000000
set_option maxRecDepth 100000
namespace Go.Proofs.YtjdnmblggdobgaaGreat
open Go.Maps Go.RowKit Tryz List Or World
variable (W:World) (R t:Nat) (O N L J:Value) (args:Array Value) {l:List aq} {M:Nat->Prop} (w:World) (B P:Nat) (D G E F I kC kS kF kN kT:Value) (d:ax)
def kg (l:List aq):ax:=⟨l,(range l.length).map (dv l),(range l.length).map (fieldsOf l),(range l.length).map (fg l),(range l.length).map (fd l)⟩
def Co:Value:=.agg #[.nl,.nl,.nl,.nl,.nl]
theorem nh.mono {M':Nat->Prop} {w:World} {D I E G J:Value} {d:ax} (h:nh M w D I E G J d) (A:∀k,M k->M' k):nh M' w D I E G J d:=
 ⟨h.C.monoC A,h.S.monoI A,h.F.monoSl A fun _ _ h=>h,h.N.monoSl A fun _ _ h=>h,h.T.monoSl A fun _ _ h=>h⟩
theorem zj1 (h:ie l=0):ed l=0:=by
 unfold ie at h;by_cases hc:ed l=0
 ·exact hc
 rw [if_neg hc]at h;exact h
theorem zj2 (h:ed l=0):l.length<=100000/\∀x∈l,x.fields.length<=100000/\x.bd.length<=100000/\∀m∈x.bd,m.args.length<=100000/\m.hands.length<=100000:=by obtain ⟨h1,A⟩:=zgd h;refine ⟨by omega,fun x F=>?_⟩;obtain ⟨-,-,G,-,I,D⟩:=A x F;refine ⟨by omega,by omega,fun m E=>?_⟩;obtain ⟨-,J,-,-,-,-,-,L,-⟩:=D m E;exact ⟨by omega,by omega⟩
theorem SL.stpC {B:Nat} {T:List Nat} {w w':World} {v:Value} {l:List aq} (h:SL 4 RC (MT B T w) w v l) (A:Stp B T w w'):SL 4 RC (MT B T w') w' v l:=(h.keptC A.kp).monoC fun _ D=>D.step A
theorem Fk (A D E F I:Value) (h:W.heap[R]? =some (.cells #[O,N,L,J,G] t (0,0))):
 (((((W.setCell ⟨R,0,none⟩ A).setCell ⟨R,1,none⟩ D).setCell ⟨R,2,none⟩ E).setCell ⟨R,3,none⟩ F).setCell ⟨R,4,none⟩ I).heap[R]? =some (.cells #[A,D,E,F,I] t (0,0))/\
 W.grownBy (((((W.setCell ⟨R,0,none⟩ A).setCell ⟨R,1,none⟩ D).setCell ⟨R,2,none⟩ E).setCell ⟨R,3,none⟩ F).setCell ⟨R,4,none⟩ I) (some R):=
 ⟨by
  have h0:(W.setCell ⟨R,0,none⟩ A).heap[R]? =some (.cells #[A,N,L,J,G] t (0,0)):=(s9 (j:=0) h A).trans rfl;have h1:((W.setCell ⟨R,0,none⟩ A).setCell ⟨R,1,none⟩ D).heap[R]? =some (.cells #[A,D,L,J,G] t (0,0)):=(s9 (j:=1) h0 D).trans rfl;have h2:(((W.setCell ⟨R,0,none⟩ A).setCell ⟨R,1,none⟩ D).setCell ⟨R,2,none⟩ E).heap[R]? =some (.cells #[A,D,E,J,G] t (0,0)):=(s9 (j:=2) h1 E).trans rfl;have h3:((((W.setCell ⟨R,0,none⟩ A).setCell ⟨R,1,none⟩ D).setCell ⟨R,2,none⟩ E).setCell ⟨R,3,none⟩ F).heap[R]? =some (.cells #[A,D,E,F,G] t (0,0)):=(s9 (j:=3) h2 F).trans rfl
  exact (s9 (j:=4) h3 I).trans rfl,by
  have V:W.grownBy (W.setCell ⟨R,0,none⟩ A) (some R):=pi (grownBy.refl W (some R)) ⟨R,0,none⟩ A (inl rfl);have X:=pi V ⟨R,1,none⟩ D (inl rfl);have Y:=pi X ⟨R,2,none⟩ E (inl rfl);have Z:=pi Y ⟨R,3,none⟩ F (inl rfl);exact pi Z ⟨R,4,none⟩ I (inl rfl)⟩
theorem zj3 (l:List aq) (v:Value) (hv:SL 4 RC (· <B) w v l) (hB:B<=w.heap.size):
 Calls prog 49 #[v] w fun r w'=>Below w.heap.size w w'/\
  ((ie l=0/\∃kC kS kF kN kT,r=.returned (.tuple #[.agg #[kC,kS,kF,kN,kT],.i 0])/\nh (fun k=>(k<B\/w.heap.size<=k)/\k<w'.heap.size) w' kC kS kF kN kT (kg l))\/(ie l≠0/\r=.returned (.tuple #[Co,.i (ie l)]))):=by
 have HV:=aj hv;obtain ⟨ao,cl,rfl,-⟩:=hv;have N:=aj (fun o=>(br w.heap.size w).alloc (nlq _) o);go_enter func49,ntmps49;go_wp2_with fail;refine (zjn _ B l _ (HV.o.keptC (Kp.below ((N.o _).mono hB))) (lt3 hB (N.o _).size)).mono ?_;rintro r w1 ⟨V,⟨h0,p,rfl,b,vS,vF,vN,vT,vL,Bm,rfl,a1,ah⟩ | ⟨h0,rfl⟩⟩
 ·have A:w1.heap[w.heap.size]? =some (.cells #[.nl,.nl,.nl,.nl,.nl] 36 (0,0)):=(V.block w.heap.size (by simp)).trans (heap_alloc_new w _);have a4:w.heap.size+1<=b:=by simpa using a1
  have ac:Below w.heap.size w w1:=(N.o _).trans (V.mono (N.o _).size);have aa:=aj ac;have HW:=aj ah;have HT:=aj h0;have az:=aj A;have ai:=aj (zj0 w1 B _ l (HV.o.keptC (Kp.below (ac.mono hB))) (lt3 hB ac.size) (zj2 (zj1 h0)).1 (zj2 (zj1 h0)).2);have a2:w.heap.size<w1.heap.size:=bz A;clear V ah h0 ac A;go_wp2_with fail;refine ai.o.mono ?_;rintro r w2 ⟨I,vC,rfl,sC⟩;have ak:=aj sC;obtain ⟨J,L,rfl,-⟩:=sC;have Z:=HW.o.blk;have af:=bz Z;have F:=(I.block b af).trans Z;have a3:b≠w.heap.size:=by omega
  have a5:=bz F;have am:Below w.heap.size w (w2.setCell ⟨b,0,none⟩ (.slice J l.length L)):=(aa.o.trans (I.mono aa.o.size)).setCell (by simp;omega) _;have D:=s9 (j:=0) F (.slice J l.length L);have c0:=bg F 0 (x:=.slice ao l.length cl) rfl;have z0:=pq F 0;have G:(w2.setCell ⟨b,0,none⟩ (.slice J l.length L)).heap[w.heap.size]? =some (.cells #[.nl,.nl,.nl,.nl,.nl] 36 (0,0)):=(Below.heap_setCell _ _ _ _ (by simp;omega)).trans ((I.block w.heap.size a2).trans az.o);have a0:Hid (nh (fun k=>((k<B\/w.heap.size+1<=k)/\k<w2.heap.size)) (w2.setCell ⟨b,0,none⟩ (.slice J l.length L)) (.slice J l.length L) vS vF vN vT (kg l)):=by have ad:Kp (fun k=>((k<B\/(w.alloc (.cells #[.nl,.nl,.nl,.nl,.nl] 36)).heap.size<=k)/\k<w1.heap.size)/\k≠b) w1 (w2.setCell ⟨b,0,none⟩ (.slice J l.length L)):=⟨lt3 I.size (by simp [setCell]),fun k W hl=>(Below.heap_setCell _ _ _ _ (by simpa using W.2)).trans (I.block k hl)⟩;have ae:∀k,(((k<B\/(w.alloc (.cells #[.nl,.nl,.nl,.nl,.nl] 36)).heap.size<=k)/\k<w1.heap.size)/\k≠b)->((k<B\/w.heap.size+1<=k)/\k<w2.heap.size):=fun k W=>⟨W.1.1.imp id (fun h=>by simpa using h),ll3 W.1.2 I.size⟩;exact ⟨(ak.o.stpC (Stp.set F (by decide) 0 (.slice J l.length L))).monoC (fun k W=>⟨inr (by have:=W.1;omega),by have:=W.lt;simpa [setCell]using this⟩),(HW.o.sS.keptI ad).monoI ae,(HW.o.sF.keptSl ad fun _ _ h=>h).monoSl ae fun _ _ h=>h,(HW.o.sN.keptSl ad fun _ _ h=>h).monoSl ae fun _ _ h=>h,(HW.o.sT.keptSl ad fun _ _ h=>h).monoSl ae fun _ _ h=>h⟩
  have av:((range l.length).map (dv l)).length=l.length:=by simp
  have an:((range l.length).map (fieldsOf l)).length=l.length:=by simp
  have au:((range l.length).map (fg l)).length=l.length:=by simp
  have aw:((range l.length).map (fd l)).length=l.length:=by simp
  obtain ⟨aS,cS,e1,-⟩:=HW.o.sS;obtain ⟨aF,cF,e2,-⟩:=HW.o.sF;obtain ⟨aN,cN,e3,-⟩:=HW.o.sN;obtain ⟨aT,cT,e4,-⟩:=HW.o.sT;rw [av]at e1;rw [an]at e2;rw [au]at e3;rw [aw]at e4;subst e1 e2 e3 e4;have d0:=bg D 0 (x:=.slice J l.length L) rfl;have d1:=bg D 1 (x:=.slice aS l.length cS) rfl;have d2:=bg D 2 (x:=.slice aF l.length cF) rfl;have d3:=bg D 3 (x:=.slice aN l.length cN) rfl;have d4:=bg D 4 (x:=.slice aT l.length cT) rfl;have r0:=bg G 0 (x:=.nl) rfl;have r1:=bg G 1 (x:=.nl) rfl;have r2:=bg G 2 (x:=.nl) rfl;have r3:=bg G 3 (x:=.nl) rfl;have r4:=bg G 4 (x:=.nl) rfl;have f0:∀j,(w2.setCell ⟨b,0,none⟩ (.slice J l.length L)).frozen? ⟨w.heap.size,j,none⟩=false:=fun j=>pq G j;have lR:=bz G;have a7:=bz D;have ay:=aj am;obtain ⟨Y,X⟩:=Fk _ w.heap.size _ _ _ _ _ _ (.slice J l.length L) (.slice aS l.length cS) (.slice aF l.length cF) (.slice aN l.length cN) (.slice aT l.length cT) G;have E:=aj Y;have O:=aj X;clear Y X;clear HW ak ai av an au aw Z I am af;go_wp2_with fail;generalize ((((((w2.setCell ⟨b,0,none⟩ (.slice J l.length L)).setCell ⟨w.heap.size,0,none⟩ (.slice J l.length L)).setCell ⟨w.heap.size,1,none⟩ (.slice aS l.length cS)).setCell ⟨w.heap.size,2,none⟩ (.slice aF l.length cF)).setCell ⟨w.heap.size,3,none⟩ (.slice aN l.length cN)).setCell ⟨w.heap.size,4,none⟩ (.slice aT l.length cT))=W9 at*;have s0:=bg E.o 0 (x:=.slice J l.length L) rfl;have s1:=bg E.o 1 (x:=.slice aS l.length cS) rfl;have s2:=bg E.o 2 (x:=.slice aF l.length cF) rfl;have s3:=bg E.o 3 (x:=.slice aN l.length cN) rfl;have s4:=bg E.o 4 (x:=.slice aT l.length cT) rfl;refine bodyPost_ret (v:=.tuple #[.agg #[.slice J l.length L,.slice aS l.length cS,.slice aF l.length cF,.slice aN l.length cN,.slice aT l.length cT],.i 0]) (by simp [results,results49,go_sem,s0,s1,s2,s3,s4]) rfl ⟨pf ay.o O.o (nlq _),inl ⟨HT.o,_,_,_,_,_,rfl,?_⟩⟩;refine ((a0.o.kept (w':=W9) ⟨O.o.size,fun k W hl=>O.o.block k hl (by intro e;injection e with e;rcases W.1 with h | h<;>omega)⟩).mono fun k W=>⟨W.1.imp id (fun h=>by omega),?_⟩);have:=O.o.size;have h2:=W.2;simp [setCell]at this;omega
 have aa:=aj ((N.o _).trans (V.mono (N.o _).size));have a6:(ie l==0)=false:=beq_eq_false_iff_ne.2 h0;have A:w1.heap[w.heap.size]? =some (.cells #[.nl,.nl,.nl,.nl,.nl] 36 (0,0)):=(V.block w.heap.size (by simp)).trans (heap_alloc_new w _);have lR:=bz A;have r0:=bg A 0 (x:=.nl) rfl;have r1:=bg A 1 (x:=.nl) rfl;have r2:=bg A 2 (x:=.nl) rfl;have r3:=bg A 3 (x:=.nl) rfl;have r4:=bg A 4 (x:=.nl) rfl;have f0:∀j,w1.frozen? ⟨w.heap.size,j,none⟩=false:=fun j=>pq A j;have HN:=aj h0;obtain ⟨Y,X⟩:=Fk _ w.heap.size _ _ _ _ _ _ (.nl) (.nl) (.nl) (.nl) (.nl) A;have E:=aj Y;have O:=aj X;clear V h0 A Y X;generalize hte:ie l=te at*;have al:=aj hte;clear hte;go_wp2_with fail;generalize (((((w1.setCell ⟨w.heap.size,0,none⟩ (.nl)).setCell ⟨w.heap.size,1,none⟩ (.nl)).setCell ⟨w.heap.size,2,none⟩ (.nl)).setCell ⟨w.heap.size,3,none⟩ (.nl)).setCell ⟨w.heap.size,4,none⟩ (.nl))=W9 at*;have s0:=bg E.o 0 (x:=.nl) rfl;have s1:=bg E.o 1 (x:=.nl) rfl;have s2:=bg E.o 2 (x:=.nl) rfl;have s3:=bg E.o 3 (x:=.nl) rfl;have s4:=bg E.o 4 (x:=.nl) rfl;exact bodyPost_ret (v:=.tuple #[Co,.i te]) (by simp [results,results49,go_sem,s0,s1,s2,s3,s4,Co]) rfl ⟨pf aa.o O.o (nlq _),inr ⟨by rw [al.o];exact HN.o,by rw [al.o]⟩⟩
def qw (d:ax):Bool:=decide (ie d.am=0)&&sq d.am d
def B0 (d:ax) (n:Int):Bool:=decide (0<=n)&&decide (n<d.am.length)
def iq (d:ax) (ns:List Int):Int:=if qw d=true then (if ns.all (B0 d)=true then 0 else 3) else 4
theorem uh.web' {B:Nat} {w:World} {b:Nat} {l:List aq} {E J F I L G:Value} {D:Nat} (h:uh B w b l E J F I L G D):uh w.heap.size w b l E J F I L G D:=
 have A:∀k,k<B->k<w.heap.size:=fun _ N=>ll3 N h.le
 ⟨A _ h.bB,A _ h.mB,nlq _,h.blk,h.sC.monoC A,h.sS.monoI A,h.sF.monoSl A fun _ _ h=>h,h.sN.monoSl A fun _ _ h=>h,h.sT.monoSl A fun _ _ h=>h,h.sL.monoSl A fun _ _ h=>h,h.nm⟩
theorem nh.agg {w:World} {V Y W X Z:Value} {d:ax} (h:nh M w V Y W X Z d):∃A I F N D J E L G O,V=.slice A d.am.length I/\Y=.slice F d.bj.length N/\W=.slice D d.fields.length J/\X=.slice E d.names.length L/\Z=.slice G d.ba.length O:=by obtain ⟨⟨A,I,e1,-⟩,⟨F,N,e2,-⟩,⟨D,J,e3,-⟩,⟨E,L,e4,-⟩,⟨G,O,e5,-⟩⟩:=h;exact ⟨_,_,_,_,_,_,_,_,_,_,e1,e2,e3,e4,e5⟩
theorem zj4 (Z:nh (· <B) w kC kS kF kN kT d) (hB:B<=w.heap.size) (M:Nat->Prop) (vn:Value) (ns:List Int) (hn:SL 1 RI M w vn ns):
 Calls prog 166 #[.agg #[kC,kS,kF,kN,kT],vn] w fun r w'=>Bl w w'/\
  ((iq d ns=0/\qw d=true/\∃b vS vF vN vT vL Bm,r=.returned (.p b)/\uh w'.heap.size w' b d.am kC vS vF vN vT vL Bm)\/(iq d ns≠0/\r=.panicked [wrongV (iq d ns) 0])):=by
 have HK:=aj Z;have af:=aj hn;obtain ⟨aC,cC,aS,cS,aF,cF,aN,cN,aT,cT,rfl,rfl,rfl,rfl,rfl⟩:=Z.agg;obtain ⟨an,cn,rfl,-,ak,-⟩:=hn;unfold maxLen at ak;have G:=aj (fun o=>(br w.heap.size w).alloc (nlq _) o);have al:d.am.length<=9223372036854775807:=by obtain ⟨a,c,-,-,h,-⟩:=Z.C;unfold maxLen at h;omega
 clear Z;go_enter func166,ntmps166;go_wp2_with fail;refine (zjn _ B d.am _ (HK.o.C.keptC (Kp.below ((G.o _).mono hB))) (lt3 hB (G.o _).size)).mono ?_;rintro r w1 ⟨L,⟨h0,p,rfl,b,vS,vF,vN,vT,vL,Bm,rfl,ay,N⟩ | ⟨h0,rfl⟩⟩
 ·have D:w1.heap[w.heap.size]? =some (.cells #[.slice aC d.am.length cC,.slice aS d.bj.length cS,.slice aF d.fields.length cF,.slice aN d.names.length cN,.slice aT d.ba.length cT] 36 (0,0)):=(L.block w.heap.size (by simp)).trans (heap_alloc_new w _);have I:Bl w w1:=(G.o _).trans (L.mono (G.o _).size);have O:=aj I;have HW:=aj N.web;have aa:=bz D;have r0:=bg D 0 (x:=.slice aC d.am.length cC) rfl;have r1:=bg D 1 (x:=.slice aS d.bj.length cS) rfl;have r2:=bg D 2 (x:=.slice aF d.fields.length cF) rfl;have r3:=bg D 3 (x:=.slice aN d.names.length cN) rfl;have r4:=bg D 4 (x:=.slice aT d.ba.length cT) rfl;have ah:=aj D;have V:=aj (zed w1 w1.heap.size b d.am _ _ _ _ _ _ Bm N.web _ _ _ _ _ d ((HK.o.kept (Kp.below (I.mono hB))).mono fun k Z=>ll3 Z (lt3 hB I.size)));have W:Hid (qw d=sq d.am d):=by show qw d=_;simp [qw,h0]
  clear L N h0 I D;generalize sq d.am d=mk at*;cases mk
  ·have E:Hid (iq d ns=4):=by show iq d ns=4;rw [iq,W.o];rfl
   go_wp2_with (go_at_call 216;refine V.o.mono ?_;rintro r w2 ⟨rfl,F⟩);refine (oz _ _ _).mono ?_;rintro r w3 ⟨rfl,⟨A,rfl⟩ | ⟨A,rfl⟩⟩
   ·exact ⟨rfl,O.o.trans (F.mono O.o.size),inr ⟨by rw [E.o];decide,by rw [E.o]⟩⟩
   exact absurd A (by simp)
  go_wp2_with (go_at_call 216;refine V.o.mono ?_;rintro r w2 ⟨rfl,F⟩);refine (oz _ _ _).mono ?_;rintro r w3 ⟨rfl,⟨A,rfl⟩ | ⟨A,rfl⟩⟩
  ·exact absurd A (by simp)
  clear A;have ai:=aj (((HW.o.below F).web'));have J:=aj (O.o.trans (F.mono O.o.size));have k0:=(F.cell (p:=⟨w.heap.size,0,none⟩) aa).trans r0;have a0:w.heap.size<w3.heap.size:=ll3 aa F.size;have X:Hid (iq d ns=if ns.all (B0 d)=true then 0 else 3):=by show iq d ns=_;rw [iq,if_pos W.o]
  clear r0 r1 r2 r3 r4 F V ah HW aa;go_wp2_with fail;go_loopw [25] (fun i wr=>∃k:Nat,k<=ns.length/\i=.i k/\wr=w3/\Hid (ns.all (B0 d)=(ns.drop k).all (B0 d))) (fun i _=>ns.length - (intOf i).toNat)
  case atStart=>exact ⟨0,n0q _,rfl,rfl,rfl⟩
  case round=>
   obtain ⟨k,Z,rfl,rfl,HQ⟩:=hrel;by_cases ac:k<ns.length
   ·obtain ⟨bn,on,rfl,aw,en⟩:=(af.o.keptI ⟨J.o.size,fun q _ hq=>J.o.block q hq⟩).atI k ac;have Y:Hid ((ns.drop k).all (B0 d)=(B0 d ns[k]&&(ns.drop (k+1)).all (B0 d))):=by show _=_;rw [drop_eq_getElem_cons ac,all_cons]
    generalize ns[k]=n at*;have au:(0:Int)<=k:=by omega
    have av:(k:Int)<ns.length:=by omega
    by_cases ad:0<=n
    ·by_cases ae:n<d.am.length
     ·have E:Hid (ns.all (B0 d)=(ns.drop (k+1)).all (B0 d)):=HQ.o.trans (Y.o.trans (by simp [B0,ad,ae]));go_wp2_with fail;refine (oz _ _ _).mono ?_;rintro r w4 ⟨rfl,⟨A,rfl⟩ | ⟨A,rfl⟩⟩
      ·exact absurd A (by simp<;>omega)
      clear A;go_wp2_with fail;go_roundw
      case rel=>exact ⟨k+1,by omega,by go_num,(by first | rfl | trivial),E.o⟩
      case measure=>simp [intOf];omega
     have E:Hid (iq d ns=3):=X.o.trans (by rw [HQ.o,Y.o];simp [B0,ae]);go_wp2_with fail;refine (oz _ _ _).mono ?_;rintro r w4 ⟨rfl,⟨A,rfl⟩ | ⟨A,rfl⟩⟩
     ·exact ⟨rfl,J.o,inr ⟨by rw [E.o];decide,by rw [E.o]⟩⟩
     exact absurd A (by simp<;>omega)
    have E:Hid (iq d ns=3):=X.o.trans (by rw [HQ.o,Y.o];simp [B0,ad]);go_wp2_with fail;refine (oz _ _ _).mono ?_;rintro r w4 ⟨rfl,⟨A,rfl⟩ | ⟨A,rfl⟩⟩
    ·exact ⟨rfl,J.o,inr ⟨by rw [E.o];decide,by rw [E.o]⟩⟩
    exact absurd A (by simp<;>omega)
   have E:Hid (iq d ns=0):=X.o.trans (by rw [HQ.o,drop_of_length_le (by omega)];rfl);go_wp2_with fail;go_ret;exact ⟨J.o,inl ⟨E.o,W.o,_,_,_,_,_,_,_,rfl,ai.o⟩⟩
 have I:=aj ((G.o (.cells #[.slice aC d.am.length cC,.slice aS d.bj.length cS,.slice aF d.fields.length cF,.slice aN d.names.length cN,.slice aT d.ba.length cT] 36)).trans (L.mono (G.o _).size));have E:Hid (iq d ns=4):=by
  show iq d ns=4;have:qw d=false:=by simp [qw,h0]
  rw [iq,this];rfl
 have az:(ie d.am==0)=false:=beq_eq_false_iff_ne.2 h0;clear L h0;generalize ie d.am=te at*;go_wp2_with fail;refine (oz _ _ _).mono ?_;rintro r w3 ⟨rfl,⟨A,rfl⟩ | ⟨A,rfl⟩⟩
 ·exact ⟨rfl,I.o,inr ⟨by rw [E.o];decide,by rw [E.o]⟩⟩
 exact absurd A (by simp)
theorem Fi (M:Nat->Prop) (w:World):SL 1 RI M w (.nl) []:=⟨none,0,rfl,nlq _,by unfold maxLen;simp,fun k A=>by cases A⟩
theorem zkk (N:nh (· <B) w D G E F I d) (hB:B<=w.heap.size) (A:w.heap[P]? =some (.cells #[D,G,E,F,I] 36 (0,0))):
 Calls prog 165 #[.p P] w fun r w'=>pr (iq d []) r/\Bl w w':=by
 have J:=aj (zj4 w B D G E F I d N hB (fun _=>True) _ [] (Fi _ _));have aa:=bz A;have W:=bg A 0 (x:=D) rfl;have X:=bg A 1 (x:=G) rfl;have Y:=bg A 2 (x:=E) rfl;have Z:=bg A 3 (x:=F) rfl;have c4:=bg A 4 (x:=I) rfl;obtain ⟨aC,cC,aS,cS,aF,cF,aN,cN,aT,cT,rfl,rfl,rfl,rfl,rfl⟩:=N.agg;clear N A;go_enter func165,ntmps165;go_wp2_with fail;refine J.o.mono ?_;rintro r w1 ⟨L,⟨h0,-,b,vS,vF,vN,vT,vL,Bm,rfl,-⟩ | ⟨h0,rfl⟩⟩
 ·have V:=aj h0;have O:=aj L;clear h0 L W X Y Z c4;go_wp2_with fail;go_end0;exact ⟨inr ⟨V.o,rfl⟩,O.o⟩
 exact ⟨rfl,inl ⟨h0,rfl⟩,L⟩
theorem zn:(callFunc 165 args).run prog w=.ok (.enter 165 args) w:=by kernel_rfl
theorem zkl (hk:nh (· <B) w kC kS kF kN kT d) (D:B<=w.heap.size):
 Calls prog 104 #[.agg #[kC,kS,kF,kN,kT]] w fun r w'=>r=.returned (.i (iq d []))/\Bl w w':=by
 have J:=ri prog;have V:=aj hk;obtain ⟨W,cC,Z,cS,X,cF,Y,cN,aT,cT,rfl,rfl,rfl,rfl,rfl⟩:=hk.agg;clear hk;have E:=(br w.heap.size w).alloc (nlq _) (.cells #[.slice W d.am.length cC,.slice Z d.bj.length cS,.slice X d.fields.length cF,.slice Y d.names.length cN,.slice aT d.ba.length cT] 36);have A:=E.alloc E.size (.cells #[.i 0,.i 0] 84);go_enter func104,ntmps104;go_wp2_with fail;refine (Ek 165 _ _ (fun L=>iq d []=0/\Bl w L) (fun e p L=>iq d []=e/\Bl w L) (zn _) ?hc).mono ?_
 case hc=>
  refine (zkk _ B w.heap.size _ _ _ _ _ d (V.o.kept (Kp.below (A.mono D))) (lt3 D A.size) ((Below.heap_alloc _ _ _ (by simp)).trans (heap_alloc_new w _))).mono ?_;rintro r L ⟨hr,hb⟩;have G:=A.trans (hb.mono A.size);refine ⟨?_,?_⟩
  ·rw [hb.block (w.alloc (.cells #[.slice W d.am.length cC,.slice Z d.bj.length cS,.slice X d.fields.length cF,.slice Y d.names.length cN,.slice aT d.ba.length cT] 36)).heap.size (by simp)];exact heap_alloc_new _ _
  rcases hr with ⟨hc,rfl⟩ | ⟨hc,rfl⟩
  ·exact inr ⟨_,_,rfl,rfl,G⟩
  exact inl ⟨rfl,hc,G⟩
 rintro r w2 ⟨L,I,hr⟩;have hz:(w.alloc (.cells #[.slice W d.am.length cC,.slice Z d.bj.length cS,.slice X d.fields.length cF,.slice Y d.names.length cN,.slice aT d.ba.length cT] 36)).heap.size=w.heap.size+1:=by simp
 rw [hz]at I;clear E A hz;rcases hr with ⟨rfl,hc,F⟩ | ⟨e,p,rfl,hc,F⟩
 ·have O:=aj hc;have N:=aj (pf F I (by omega));clear hc I F J D V;have aa:=qv;go_wp2
  go_ret;exact ⟨by rw [O.o];rfl,N.o⟩
 have O:=aj hc;have N:=aj (pf F I (by omega));clear hc I F J D V;have aa:=qv;go_wp2
 go_ret;exact ⟨by rw [O.o];rfl,N.o⟩
def baseD:List aq:=[⟨⟨#[79,98,106,101,99,116]⟩,⟨#[]⟩,[],[⟨⟨#[109,97,105,110]⟩,true,[],⟨0,⟨#[]⟩⟩,2,0,⟨#[1,0,7,31,27]⟩,[]⟩]⟩,
 ⟨⟨#[69,114,114,111,114]⟩,⟨#[79,98,106,101,99,116]⟩,[⟨⟨#[99,111,100,101]⟩,⟨1,⟨#[]⟩⟩⟩],[]⟩]
theorem zmu:ie baseD=0:=by kernel_rfl
theorem zmw:Calls prog 50 #[] w fun r w'=>Bl w w'/\∃v,r=.returned v/\SL 4 RC (· <w'.heap.size) w' v baseD:=by
 go_enter func50,ntmps50;go_wp2
 go_ret;refine ⟨((((br _ _).alloc (nlq _) _).alloc (by simp) _).alloc (by simp;omega) _),_,rfl,?_⟩;refine ⟨_,_,rfl,nlq _,by unfold maxLen;simp [baseD],fun k A=>?_⟩;have F:k<2:=A;match k,F with
 | 0,_=>
   refine ⟨_,_,[.string ⟨#[79,98,106,101,99,116]⟩,.string ⟨#[]⟩,.nl,.slice (some ⟨w.heap.size,0,none⟩) 1 1],rfl,by simp,by simp,rfl,fun j D=>?_,?_⟩
   ·match j,D with
    | 0,_=>simp [go_sem]
    | 1,_=>simp [go_sem]
    | 2,_=>simp [go_sem]
    | 3,_=>simp [go_sem]
   refine ⟨_,_,rfl,⟨none,0,rfl,nlq _,n0q _,fun k A=>by cases A⟩,⟨some ⟨w.heap.size,0,none⟩,1,rfl,nlq _,by unfold maxLen;simp [baseD],fun k A=>?_⟩,of_decide_eq_true (by kernel_rfl),of_decide_eq_true (by kernel_rfl)⟩;have E:k<1:=A;match k,E with
   | 0,_=>
     refine ⟨_,_,[.string ⟨#[109,97,105,110]⟩,.bool true,.nl,.i 0,.string ⟨#[]⟩,.i 2,.i 0,.string ⟨#[1,0,7,31,27]⟩,.nl],rfl,by simp;omega,by simp;omega,rfl,fun j D=>?_,?_⟩
     ·match j,D with
      | 0,_=>simp [go_sem]
      | 1,_=>simp [go_sem]
      | 2,_=>simp [go_sem]
      | 3,_=>simp [go_sem]
      | 4,_=>simp [go_sem]
      | 5,_=>simp [go_sem]
      | 6,_=>simp [go_sem]
      | 7,_=>simp [go_sem]
      | 8,_=>simp [go_sem]
     exact ⟨_,_,rfl,⟨none,0,rfl,nlq _,n0q _,fun k A=>by cases A⟩,⟨none,0,rfl,nlq _,n0q _,fun k A=>by cases A⟩,of_decide_eq_true (by kernel_rfl),of_decide_eq_true (by kernel_rfl),of_decide_eq_true (by kernel_rfl)⟩
 | 1,_=>
   refine ⟨_,_,[.string ⟨#[69,114,114,111,114]⟩,.string ⟨#[79,98,106,101,99,116]⟩,.slice (some ⟨w.heap.size+1,0,none⟩) 1 1,.nl],rfl,by simp,by simp,rfl,fun j D=>?_,?_⟩
   ·match j,D with
    | 0,_=>simp [go_sem]
    | 1,_=>simp [go_sem]
    | 2,_=>simp [go_sem]
    | 3,_=>simp [go_sem]
   refine ⟨_,_,rfl,⟨some ⟨w.heap.size+1,0,none⟩,1,rfl,nlq _,by unfold maxLen;simp [baseD],fun k A=>?_⟩,⟨none,0,rfl,nlq _,n0q _,fun k A=>by cases A⟩,of_decide_eq_true (by kernel_rfl),of_decide_eq_true (by kernel_rfl)⟩;have E:k<1:=A;match k,E with
   | 0,_=>
     refine ⟨_,_,[.string ⟨#[99,111,100,101]⟩,.i 1,.string ⟨#[]⟩],rfl,by simp,by simp,rfl,fun j D=>?_,?_⟩
     ·match j,D with
      | 0,_=>simp [go_sem]
      | 1,_=>simp [go_sem]
      | 2,_=>simp [go_sem]
     exact ⟨rfl,of_decide_eq_true (by kernel_rfl),of_decide_eq_true (by kernel_rfl)⟩
end Go.Proofs.YtjdnmblggdobgaaGreat
