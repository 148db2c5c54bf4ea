import Derived.Test.YtjdnmblggdobgaaGreatJLSaLTie
import Derived.Test.YtjdnmblggdobgaaGreatJLClLCp
import Derived.Test.YtjdnmblggdobgaaGreatJLErrLRf4
import Derived.Test.YtjdnmblggdobgaaGreatJTk2Dies
import Derived.KernelRfl
set_option maxHeartbeats 4000000
set_option maxRecDepth 100000
namespace Go.Proofs.YtjdnmblggdobgaaGreat
open Go.RowKit Go.Maps
def ld (l:List ap):bd:=⟨l,(List.range l.length).map (df l),(List.range l.length).map (fieldsOf l),(List.range l.length).map (d9 l),(List.range l.length).map (d7 l)⟩
def nilLk:Value:=.agg #[.slice none 0 0,.slice none 0 0,.slice none 0 0,.slice none 0 0,.slice none 0 0]
theorem j9.mono {M M':Nat->Prop} {w:World} {D I E G J:Value} {d:bd} (h:j9 M w D I E G J d) (A:∀k,M k->M' k):j9 M' w D I E G J d:=
 ⟨h.C.monoC A,h.S.monoI A,h.F.monoSl A fun _ _ h=>h,h.N.monoSl A fun _ _ h=>h,h.T.monoSl A fun _ _ h=>h⟩
theorem zka {l:List ap} (h:gf l=0):dt l=0:=by
 unfold gf at h;by_cases hc:dt l=0
 ·exact hc
 rw [if_neg hc]at h;exact h
theorem zkb {l:List ap} (h:dt l=0):l.length<=100000/\∀x∈l,x.fields.length<=100000/\x.ba.length<=100000/\∀m∈x.ba,m.args.length<=100000/\m.hands.length<=100000:=by obtain ⟨h1,A⟩:=zgm h;refine ⟨by omega,fun x F=>?_⟩;obtain ⟨-,-,G,-,I,D⟩:=A x F;refine ⟨by omega,by omega,fun m E=>?_⟩;obtain ⟨-,J,-,-,-,-,-,L,-⟩:=D m E;exact ⟨by omega,by omega⟩
theorem SL.stpC {B:Nat} {T:List Nat} {w w':World} {v:Value} {l:List ap} (h:SL 4 RC (MT B T w) w v l) (A:Stp B T w w'):SL 4 RC (MT B T w') w' v l:=(h.keptC A.kp).monoC fun _ D=>D.step A
theorem set5 (W:World) (R t:Nat) (O N L J G A D E F I:Value) (h:W.heap[R]? =some (.cells #[O,N,L,J,G] t (0,0))):
 (((((W.setCell ⟨R,0,none⟩ A).setCell ⟨R,1,none⟩ D).setCell ⟨R,2,none⟩ E).setCell ⟨R,3,none⟩ F).setCell ⟨R,4,none⟩ I).heap[R]? =some (.cells #[A,D,E,F,I] t (0,0))/\
 W.grownBy (((((W.setCell ⟨R,0,none⟩ A).setCell ⟨R,1,none⟩ D).setCell ⟨R,2,none⟩ E).setCell ⟨R,3,none⟩ F).setCell ⟨R,4,none⟩ I) (some R):=
 ⟨by
  have h0:(W.setCell ⟨R,0,none⟩ A).heap[R]? =some (.cells #[A,N,L,J,G] t (0,0)):=(mu (j:=0) h A).trans rfl;have h1:((W.setCell ⟨R,0,none⟩ A).setCell ⟨R,1,none⟩ D).heap[R]? =some (.cells #[A,D,L,J,G] t (0,0)):=(mu (j:=1) h0 D).trans rfl;have h2:(((W.setCell ⟨R,0,none⟩ A).setCell ⟨R,1,none⟩ D).setCell ⟨R,2,none⟩ E).heap[R]? =some (.cells #[A,D,E,J,G] t (0,0)):=(mu (j:=2) h1 E).trans rfl;have h3:((((W.setCell ⟨R,0,none⟩ A).setCell ⟨R,1,none⟩ D).setCell ⟨R,2,none⟩ E).setCell ⟨R,3,none⟩ F).heap[R]? =some (.cells #[A,D,E,F,G] t (0,0)):=(mu (j:=3) h2 F).trans rfl;exact (mu (j:=4) h3 I).trans rfl,by
  have V:W.grownBy (W.setCell ⟨R,0,none⟩ A) (some R):=mf (World.grownBy.refl W (some R)) ⟨R,0,none⟩ A (Or.inl rfl);have X:=mf V ⟨R,1,none⟩ D (Or.inl rfl);have Y:=mf X ⟨R,2,none⟩ E (Or.inl rfl);have Z:=mf Y ⟨R,3,none⟩ F (Or.inl rfl);exact mf Z ⟨R,4,none⟩ I (Or.inl rfl)⟩
theorem zkc (w:World) (B:Nat) (l:List ap) (v:Value) (hv:SL 4 RC (· <B) w v l) (hB:B<=w.heap.size):
 Calls Tryz.prog 49 #[v] w fun r w'=>Below w.heap.size w w'/\
  ((gf l=0/\∃kC kS kF kN kT,r=.returned (.tuple #[.agg #[kC,kS,kF,kN,kT],.int .i64 0])/\j9 (fun k=>(k<B\/w.heap.size<=k)/\k<w'.heap.size) w' kC kS kF kN kT (ld l))\/(gf l≠0/\r=.returned (.tuple #[nilLk,.int .i64 (gf l)]))):=by
 have HV:=ae hv;obtain ⟨ao,cl,rfl,-⟩:=hv;have N:=ae (fun o=>(br w.heap.size w).alloc (nlq _) o);go_enter Tryz.func49,Tryz.ntmps49;go_wp2_with fail;refine (zjw _ B l _ (HV.o.keptC (Kp.below ((N.o _).mono hB))) (lt3 hB (N.o _).size)).mono ?_;rintro r w1 ⟨V,⟨h0,p,rfl,b,vS,vF,vN,vT,vL,Bm,rfl,a0,ah⟩ | ⟨h0,rfl⟩⟩
 ·have A:w1.heap[w.heap.size]? =some (.cells #[.slice none 0 0,.slice none 0 0,.slice none 0 0,.slice none 0 0,.slice none 0 0] 36 (0,0)):=(V.block w.heap.size (by simp)).trans (heap_alloc_new w _);have a3:w.heap.size+1<=b:=by simpa using a0
  have ac:Below w.heap.size w w1:=(N.o _).trans (V.mono (N.o _).size);have aa:=ae ac;have HW:=ae ah;have HT:=ae h0;have ay:=ae A;have ai:=ae (zj9 w1 B _ l (HV.o.keptC (Kp.below (ac.mono hB))) (lt3 hB ac.size) (zkb (zka h0)).1 (zkb (zka h0)).2);have a1:w.heap.size<w1.heap.size:=bk A;clear V ah h0 ac A;go_wp2_with fail;refine ai.o.mono ?_;rintro r w2 ⟨I,vC,rfl,sC⟩;have aj:=ae sC;obtain ⟨J,L,rfl,-⟩:=sC;have Z:=HW.o.blk;have ag:=bk Z;have F:=(I.block b ag).trans Z;have a2:b≠w.heap.size:=by omega
  have a4:=bk F;have al:Below w.heap.size w (w2.setCell ⟨b,0,none⟩ (.slice J l.length L)):=(aa.o.trans (I.mono aa.o.size)).setCell (by simp;omega) _;have D:=mu (j:=0) F (.slice J l.length L);have c0:=aw F 0 (x:=.slice ao l.length cl) rfl;have z0:=lj F 0;have G:(w2.setCell ⟨b,0,none⟩ (.slice J l.length L)).heap[w.heap.size]? =some (.cells #[.slice none 0 0,.slice none 0 0,.slice none 0 0,.slice none 0 0,.slice none 0 0] 36 (0,0)):=(Below.heap_setCell _ _ _ _ (by simp;omega)).trans ((I.block w.heap.size a1).trans ay.o);have az:Hid (j9 (fun k=>((k<B\/w.heap.size+1<=k)/\k<w2.heap.size)) (w2.setCell ⟨b,0,none⟩ (.slice J l.length L)) (.slice J l.length L) vS vF vN vT (ld l)):=by have ad:Kp (fun k=>((k<B\/(w.alloc (.cells #[.slice none 0 0,.slice none 0 0,.slice none 0 0,.slice none 0 0,.slice none 0 0] 36)).heap.size<=k)/\k<w1.heap.size)/\k≠b) w1 (w2.setCell ⟨b,0,none⟩ (.slice J l.length L)):=⟨lt3 I.size (by simp [World.setCell]),fun k W hl=>(Below.heap_setCell _ _ _ _ (by simpa using W.2)).trans (I.block k hl)⟩;have af:∀k,(((k<B\/(w.alloc (.cells #[.slice none 0 0,.slice none 0 0,.slice none 0 0,.slice none 0 0,.slice none 0 0] 36)).heap.size<=k)/\k<w1.heap.size)/\k≠b)->((k<B\/w.heap.size+1<=k)/\k<w2.heap.size):=fun k W=>⟨W.1.1.imp id (fun h=>by simpa using h),ll3 W.1.2 I.size⟩;exact ⟨(aj.o.stpC (Stp.set F (by decide) 0 (.slice J l.length L))).monoC (fun k W=>⟨Or.inr (by have:=W.1;omega),by have:=W.lt;simpa [World.setCell]using this⟩),(HW.o.sS.keptI ad).monoI af,(HW.o.sF.keptSl ad fun _ _ h=>h).monoSl af fun _ _ h=>h,(HW.o.sN.keptSl ad fun _ _ h=>h).monoSl af fun _ _ h=>h,(HW.o.sT.keptSl ad fun _ _ h=>h).monoSl af fun _ _ h=>h⟩
  have au:((List.range l.length).map (df l)).length=l.length:=by simp
  have an:((List.range l.length).map (fieldsOf l)).length=l.length:=by simp
  have aq:((List.range l.length).map (d9 l)).length=l.length:=by simp
  have av:((List.range l.length).map (d7 l)).length=l.length:=by simp
  obtain ⟨aS,cS,e1,-⟩:=HW.o.sS;obtain ⟨aF,cF,e2,-⟩:=HW.o.sF;obtain ⟨aN,cN,e3,-⟩:=HW.o.sN;obtain ⟨aT,cT,e4,-⟩:=HW.o.sT;rw [au]at e1;rw [an]at e2;rw [aq]at e3;rw [av]at e4;subst e1 e2 e3 e4;have d0:=aw D 0 (x:=.slice J l.length L) rfl;have d1:=aw D 1 (x:=.slice aS l.length cS) rfl;have d2:=aw D 2 (x:=.slice aF l.length cF) rfl;have d3:=aw D 3 (x:=.slice aN l.length cN) rfl;have d4:=aw D 4 (x:=.slice aT l.length cT) rfl;have r0:=aw G 0 (x:=.slice none 0 0) rfl;have r1:=aw G 1 (x:=.slice none 0 0) rfl;have r2:=aw G 2 (x:=.slice none 0 0) rfl;have r3:=aw G 3 (x:=.slice none 0 0) rfl;have r4:=aw G 4 (x:=.slice none 0 0) rfl;have f0:∀j,(w2.setCell ⟨b,0,none⟩ (.slice J l.length L)).frozen? ⟨w.heap.size,j,none⟩=false:=fun j=>lj G j;have lR:=bk G;have a6:=bk D;have ax:=ae al;obtain ⟨Y,X⟩:=set5 _ w.heap.size _ _ _ _ _ _ (.slice J l.length L) (.slice aS l.length cS) (.slice aF l.length cF) (.slice aN l.length cN) (.slice aT l.length cT) G;have E:=ae Y;have O:=ae X;clear Y X;clear HW aj ai au an aq av Z I al ag;go_wp2_with fail;generalize ((((((w2.setCell ⟨b,0,none⟩ (.slice J l.length L)).setCell ⟨w.heap.size,0,none⟩ (.slice J l.length L)).setCell ⟨w.heap.size,1,none⟩ (.slice aS l.length cS)).setCell ⟨w.heap.size,2,none⟩ (.slice aF l.length cF)).setCell ⟨w.heap.size,3,none⟩ (.slice aN l.length cN)).setCell ⟨w.heap.size,4,none⟩ (.slice aT l.length cT))=W9 at*;have s0:=aw E.o 0 (x:=.slice J l.length L) rfl;have s1:=aw E.o 1 (x:=.slice aS l.length cS) rfl;have s2:=aw E.o 2 (x:=.slice aF l.length cF) rfl;have s3:=aw E.o 3 (x:=.slice aN l.length cN) rfl;have s4:=aw E.o 4 (x:=.slice aT l.length cT) rfl;refine bodyPost_ret (v:=.tuple #[.agg #[.slice J l.length L,.slice aS l.length cS,.slice aF l.length cF,.slice aN l.length cN,.slice aT l.length cT],.int .i64 0]) (by simp [results,Tryz.results49,go_sem,s0,s1,s2,s3,s4]) rfl ⟨me ax.o O.o (nlq _),Or.inl ⟨HT.o,_,_,_,_,_,rfl,?_⟩⟩;refine ((az.o.kept (w':=W9) ⟨O.o.size,fun k W hl=>O.o.block k hl (by intro e;injection e with e;rcases W.1 with h | h<;>omega)⟩).mono fun k W=>⟨W.1.imp id (fun h=>by omega),?_⟩);have:=O.o.size;have h2:=W.2;simp [World.setCell]at this;omega
 have aa:=ae ((N.o _).trans (V.mono (N.o _).size));have a5:(gf l==0)=false:=beq_eq_false_iff_ne.2 h0;have A:w1.heap[w.heap.size]? =some (.cells #[.slice none 0 0,.slice none 0 0,.slice none 0 0,.slice none 0 0,.slice none 0 0] 36 (0,0)):=(V.block w.heap.size (by simp)).trans (heap_alloc_new w _);have lR:=bk A;have r0:=aw A 0 (x:=.slice none 0 0) rfl;have r1:=aw A 1 (x:=.slice none 0 0) rfl;have r2:=aw A 2 (x:=.slice none 0 0) rfl;have r3:=aw A 3 (x:=.slice none 0 0) rfl;have r4:=aw A 4 (x:=.slice none 0 0) rfl;have f0:∀j,w1.frozen? ⟨w.heap.size,j,none⟩=false:=fun j=>lj A j;have HN:=ae h0;obtain ⟨Y,X⟩:=set5 _ w.heap.size _ _ _ _ _ _ (.slice none 0 0) (.slice none 0 0) (.slice none 0 0) (.slice none 0 0) (.slice none 0 0) A;have E:=ae Y;have O:=ae X;clear V h0 A Y X;generalize hte:gf l=te at*;have ak:=ae hte;clear hte;go_wp2_with fail;generalize (((((w1.setCell ⟨w.heap.size,0,none⟩ (.slice none 0 0)).setCell ⟨w.heap.size,1,none⟩ (.slice none 0 0)).setCell ⟨w.heap.size,2,none⟩ (.slice none 0 0)).setCell ⟨w.heap.size,3,none⟩ (.slice none 0 0)).setCell ⟨w.heap.size,4,none⟩ (.slice none 0 0))=W9 at*;have s0:=aw E.o 0 (x:=.slice none 0 0) rfl;have s1:=aw E.o 1 (x:=.slice none 0 0) rfl;have s2:=aw E.o 2 (x:=.slice none 0 0) rfl;have s3:=aw E.o 3 (x:=.slice none 0 0) rfl;have s4:=aw E.o 4 (x:=.slice none 0 0) rfl;exact bodyPost_ret (v:=.tuple #[nilLk,.int .i64 te]) (by simp [results,Tryz.results49,go_sem,s0,s1,s2,s3,s4,nilLk]) rfl ⟨me aa.o O.o (nlq _),Or.inr ⟨by rw [ak.o];exact HN.o,by rw [ak.o]⟩⟩
def nh (d:bd):Bool:=decide (gf d.aj=0)&&makesB d.aj d
def inB (d:bd) (n:Int):Bool:=decide (0<=n)&&decide (n<d.aj.length)
def gn (d:bd) (ns:List Int):Int:=if nh d=true then (if ns.all (inB d)=true then 0 else 3) else 4
theorem Web.web' {B:Nat} {w:World} {b:Nat} {l:List ap} {E J F I L G:Value} {D:Nat} (h:Web B w b l E J F I L G D):Web w.heap.size w b l E J F I L G D:=
 have A:∀k,k<B->k<w.heap.size:=fun _ N=>ll3 N h.le
 ⟨A _ h.bB,A _ h.mB,nlq _,h.blk,h.sC.monoC A,h.sS.monoI A,h.sF.monoSl A fun _ _ h=>h,h.sN.monoSl A fun _ _ h=>h,h.sT.monoSl A fun _ _ h=>h,h.sL.monoSl A fun _ _ h=>h,h.nm⟩
theorem j9.agg {M:Nat->Prop} {w:World} {V Y W X Z:Value} {d:bd} (h:j9 M w V Y W X Z d):∃A I F N D J E L G O,V=.slice A d.aj.length I/\Y=.slice F d.ax.length N/\W=.slice D d.fields.length J/\X=.slice E d.names.length L/\Z=.slice G d.aq.length O:=by obtain ⟨⟨A,I,e1,-⟩,⟨F,N,e2,-⟩,⟨D,J,e3,-⟩,⟨E,L,e4,-⟩,⟨G,O,e5,-⟩⟩:=h;exact ⟨_,_,_,_,_,_,_,_,_,_,e1,e2,e3,e4,e5⟩
theorem zkd (w:World) (B:Nat) (kC kS kF kN kT:Value) (d:bd) (Z:j9 (· <B) w kC kS kF kN kT d) (hB:B<=w.heap.size) (M:Nat->Prop) (vn:Value) (ns:List Int) (hn:SL 1 RI M w vn ns):
 Calls Tryz.prog 166 #[.agg #[kC,kS,kF,kN,kT],vn] w fun r w'=>Below w.heap.size w w'/\
  ((gn d ns=0/\nh d=true/\∃b vS vF vN vT vL Bm,r=.returned (.pointer (some ⟨b,0,none⟩))/\Web w'.heap.size w' b d.aj kC vS vF vN vT vL Bm)\/(gn d ns≠0/\r=.panicked [wrongV (gn d ns) 0])):=by
 have HK:=ae Z;have ag:=ae hn;obtain ⟨aC,cC,aS,cS,aF,cF,aN,cN,aT,cT,rfl,rfl,rfl,rfl,rfl⟩:=Z.agg;obtain ⟨an,cn,rfl,-,ak,-⟩:=hn;unfold maxLen at ak;have G:=ae (fun o=>(br w.heap.size w).alloc (nlq _) o);have al:d.aj.length<=9223372036854775807:=by obtain ⟨a,c,-,-,h,-⟩:=Z.C;unfold maxLen at h;omega
 clear Z;go_enter Tryz.func166,Tryz.ntmps166;go_wp2_with fail;refine (zjw _ B d.aj _ (HK.o.C.keptC (Kp.below ((G.o _).mono hB))) (lt3 hB (G.o _).size)).mono ?_;rintro r w1 ⟨L,⟨h0,p,rfl,b,vS,vF,vN,vT,vL,Bm,rfl,ay,N⟩ | ⟨h0,rfl⟩⟩
 ·have D:w1.heap[w.heap.size]? =some (.cells #[.slice aC d.aj.length cC,.slice aS d.ax.length cS,.slice aF d.fields.length cF,.slice aN d.names.length cN,.slice aT d.aq.length cT] 36 (0,0)):=(L.block w.heap.size (by simp)).trans (heap_alloc_new w _);have I:Below w.heap.size w w1:=(G.o _).trans (L.mono (G.o _).size);have O:=ae I;have HW:=ae N.web;have aa:=bk D;have r0:=aw D 0 (x:=.slice aC d.aj.length cC) rfl;have r1:=aw D 1 (x:=.slice aS d.ax.length cS) rfl;have r2:=aw D 2 (x:=.slice aF d.fields.length cF) rfl;have r3:=aw D 3 (x:=.slice aN d.names.length cN) rfl;have r4:=aw D 4 (x:=.slice aT d.aq.length cT) rfl;have ah:=ae D;have V:=ae (zem w1 w1.heap.size b d.aj _ _ _ _ _ _ Bm N.web _ _ _ _ _ d ((HK.o.kept (Kp.below (I.mono hB))).mono fun k Z=>ll3 Z (lt3 hB I.size)));have W:Hid (nh d=makesB d.aj d):=by show nh d=_;simp [nh,h0]
  clear L N h0 I D;generalize makesB d.aj d=mk at*;cases mk with
  | false=>
    have E:Hid (gn d ns=4):=by show gn d ns=4;rw [gn,W.o];rfl
    go_wp2_with (go_at_call 216;refine V.o.mono ?_;rintro r w2 ⟨rfl,F⟩);refine (ll _ _ _).mono ?_;rintro r w3 ⟨rfl,⟨A,rfl⟩ | ⟨A,rfl⟩⟩
    ·exact ⟨rfl,O.o.trans (F.mono O.o.size),Or.inr ⟨by rw [E.o];decide,by rw [E.o]⟩⟩
    exact absurd A (by simp)
  | true=>
    go_wp2_with (go_at_call 216;refine V.o.mono ?_;rintro r w2 ⟨rfl,F⟩);refine (ll _ _ _).mono ?_;rintro r w3 ⟨rfl,⟨A,rfl⟩ | ⟨A,rfl⟩⟩
    ·exact absurd A (by simp)
    clear A;have ai:=ae (((HW.o.below F).web'));have J:=ae (O.o.trans (F.mono O.o.size));have k0:=(F.cell (p:=⟨w.heap.size,0,none⟩) aa).trans r0;have a0:w.heap.size<w3.heap.size:=ll3 aa F.size;have X:Hid (gn d ns=if ns.all (inB d)=true then 0 else 3):=by show gn d ns=_;rw [gn,if_pos W.o]
    clear r0 r1 r2 r3 r4 F V ah HW aa;go_wp2_with fail;go_loopw [25] (fun i wr=>∃k:Nat,k<=ns.length/\i=.int .i64 k/\wr=w3/\Hid (ns.all (inB d)=(ns.drop k).all (inB d))) (fun i _=>ns.length - (intOf i).toNat)
    case atStart=>exact ⟨0,n0q _,rfl,rfl,rfl⟩
    case round=>
     obtain ⟨k,Z,rfl,rfl,HQ⟩:=hrel;by_cases ac:k<ns.length
     ·obtain ⟨bn,on,rfl,av,en⟩:=(ag.o.keptI ⟨J.o.size,fun q _ hq=>J.o.block q hq⟩).atI k ac;have Y:Hid ((ns.drop k).all (inB d)=(inB d ns[k]&&(ns.drop (k+1)).all (inB d))):=by show _=_;rw [List.drop_eq_getElem_cons ac,List.all_cons]
      generalize ns[k]=n at*;have ao:(0:Int)<=k:=by omega
      have au:(k:Int)<ns.length:=by omega
      by_cases ad:0<=n
      ·by_cases af:n<d.aj.length
       ·have E:Hid (ns.all (inB d)=(ns.drop (k+1)).all (inB d)):=HQ.o.trans (Y.o.trans (by simp [inB,ad,af]));go_wp2_with fail;refine (ll _ _ _).mono ?_;rintro r w4 ⟨rfl,⟨A,rfl⟩ | ⟨A,rfl⟩⟩
        ·exact absurd A (by simp<;>omega)
        clear A;go_wp2_with fail;go_roundw
        case rel=>exact ⟨k+1,by omega,by go_num,(by first | rfl | trivial),E.o⟩
        case measure=>simp [intOf];omega
       have E:Hid (gn d ns=3):=X.o.trans (by rw [HQ.o,Y.o];simp [inB,af]);go_wp2_with fail;refine (ll _ _ _).mono ?_;rintro r w4 ⟨rfl,⟨A,rfl⟩ | ⟨A,rfl⟩⟩
       ·exact ⟨rfl,J.o,Or.inr ⟨by rw [E.o];decide,by rw [E.o]⟩⟩
       exact absurd A (by simp<;>omega)
      have E:Hid (gn d ns=3):=X.o.trans (by rw [HQ.o,Y.o];simp [inB,ad]);go_wp2_with fail;refine (ll _ _ _).mono ?_;rintro r w4 ⟨rfl,⟨A,rfl⟩ | ⟨A,rfl⟩⟩
      ·exact ⟨rfl,J.o,Or.inr ⟨by rw [E.o];decide,by rw [E.o]⟩⟩
      exact absurd A (by simp<;>omega)
     have E:Hid (gn d ns=0):=X.o.trans (by rw [HQ.o,List.drop_of_length_le (by omega)];rfl);go_wp2_with fail;go_ret;exact ⟨J.o,Or.inl ⟨E.o,W.o,_,_,_,_,_,_,_,rfl,ai.o⟩⟩
 have I:=ae ((G.o (.cells #[.slice aC d.aj.length cC,.slice aS d.ax.length cS,.slice aF d.fields.length cF,.slice aN d.names.length cN,.slice aT d.aq.length cT] 36)).trans (L.mono (G.o _).size));have E:Hid (gn d ns=4):=by
  show gn d ns=4;have:nh d=false:=by simp [nh,h0]
  rw [gn,this];rfl
 have az:(gf d.aj==0)=false:=beq_eq_false_iff_ne.2 h0;clear L h0;generalize gf d.aj=te at*;go_wp2_with fail;refine (ll _ _ _).mono ?_;rintro r w3 ⟨rfl,⟨A,rfl⟩ | ⟨A,rfl⟩⟩
 ·exact ⟨rfl,I.o,Or.inr ⟨by rw [E.o];decide,by rw [E.o]⟩⟩
 exact absurd A (by simp)
theorem nilSL0 (M:Nat->Prop) (w:World):SL 1 RI M w (.slice none 0 0) []:=⟨none,0,rfl,nlq _,by unfold maxLen;simp,fun k A=>by cases A⟩
theorem zkt (w:World) (B P:Nat) (D G E F I:Value) (d:bd) (N:j9 (· <B) w D G E F I d) (hB:B<=w.heap.size) (A:w.heap[P]? =some (.cells #[D,G,E,F,I] 36 (0,0))):
 Calls Tryz.prog 165 #[.pointer (some ⟨P,0,none⟩)] w fun r w'=>lr (gn d []) r/\Below w.heap.size w w':=by
 have J:=ae (zkd w B D G E F I d N hB (fun _=>True) _ [] (nilSL0 _ _));have aa:=bk A;have W:=aw A 0 (x:=D) rfl;have X:=aw A 1 (x:=G) rfl;have Y:=aw A 2 (x:=E) rfl;have Z:=aw A 3 (x:=F) rfl;have c4:=aw A 4 (x:=I) rfl;obtain ⟨aC,cC,aS,cS,aF,cF,aN,cN,aT,cT,rfl,rfl,rfl,rfl,rfl⟩:=N.agg;clear N A;go_enter Tryz.func165,Tryz.ntmps165;go_wp2_with fail;refine J.o.mono ?_;rintro r w1 ⟨L,⟨h0,-,b,vS,vF,vN,vT,vL,Bm,rfl,-⟩ | ⟨h0,rfl⟩⟩
 ·have V:=ae h0;have O:=ae L;clear h0 L W X Y Z c4;go_wp2_with fail;go_end0;exact ⟨Or.inr ⟨V.o,rfl⟩,O.o⟩
 exact ⟨rfl,Or.inl ⟨h0,rfl⟩,L⟩
theorem callLCheck1 (args:Array Value) (w:World):(callFunc 165 args).run Tryz.prog w=.ok (.enter 165 args) w:=by kernel_rfl
theorem zku (w:World) (B:Nat) (kC kS kF kN kT:Value) (d:bd) (hk:j9 (· <B) w kC kS kF kN kT d) (D:B<=w.heap.size):
 Calls Tryz.prog 104 #[.agg #[kC,kS,kF,kN,kT]] w fun r w'=>r=.returned (.int .i64 (gn d []))/\Below w.heap.size w w':=by
 have J:=mm Tryz.prog;have V:=ae hk;obtain ⟨W,cC,Z,cS,X,cF,Y,cN,aT,cT,rfl,rfl,rfl,rfl,rfl⟩:=hk.agg;clear hk;have E:=(br w.heap.size w).alloc (nlq _) (.cells #[.slice W d.aj.length cC,.slice Z d.ax.length cS,.slice X d.fields.length cF,.slice Y d.names.length cN,.slice aT d.aq.length cT] 36);have A:=E.alloc E.size (.cells #[.int .i64 0,.int .i64 0] 84);go_enter Tryz.func104,Tryz.ntmps104;go_wp2_with fail;refine (zb6 165 _ _ (fun L=>gn d []=0/\Below w.heap.size w L) (fun e p L=>gn d []=e/\Below w.heap.size w L) (callLCheck1 _) ?hc).mono ?_
 case hc=>
  refine (zkt _ B w.heap.size _ _ _ _ _ d (V.o.kept (Kp.below (A.mono D))) (lt3 D A.size) ((Below.heap_alloc _ _ _ (by simp)).trans (heap_alloc_new w _))).mono ?_;rintro r L ⟨hr,hb⟩;have G:=A.trans (hb.mono A.size);refine ⟨?_,?_⟩
  ·rw [hb.block (w.alloc (.cells #[.slice W d.aj.length cC,.slice Z d.ax.length cS,.slice X d.fields.length cF,.slice Y d.names.length cN,.slice aT d.aq.length cT] 36)).heap.size (by simp)];exact heap_alloc_new _ _
  rcases hr with ⟨hc,rfl⟩ | ⟨hc,rfl⟩
  ·exact Or.inr ⟨_,_,rfl,rfl,G⟩
  exact Or.inl ⟨rfl,hc,G⟩
 rintro r w2 ⟨L,I,hr⟩;have hz:(w.alloc (.cells #[.slice W d.aj.length cC,.slice Z d.ax.length cS,.slice X d.fields.length cF,.slice Y d.names.length cN,.slice aT d.aq.length cT] 36)).heap.size=w.heap.size+1:=by simp
 rw [hz]at I;clear E A hz;rcases hr with ⟨rfl,hc,F⟩ | ⟨e,p,rfl,hc,F⟩
 ·have O:=ae hc;have N:=ae (me F I (by omega));clear hc I F J D V;have aa:=my;go_wp2
  go_ret;exact ⟨by rw [O.o];rfl,N.o⟩
 have O:=ae hc;have N:=ae (me F I (by omega));clear hc I F J D V;have aa:=my;go_wp2
 go_ret;exact ⟨by rw [O.o];rfl,N.o⟩
def baseD:List ap:=[⟨⟨#[79,98,106,101,99,116]⟩,⟨#[]⟩,[],[⟨⟨#[109,97,105,110]⟩,true,[],⟨0,⟨#[]⟩⟩,2,0,⟨#[1,0,7,31,27]⟩,[]⟩]⟩,
 ⟨⟨#[69,114,114,111,114]⟩,⟨#[79,98,106,101,99,116]⟩,[⟨⟨#[99,111,100,101]⟩,⟨1,⟨#[]⟩⟩⟩],[]⟩]
theorem zm4:gf baseD=0:=by kernel_rfl
theorem zm6 (w:World):Calls Tryz.prog 50 #[] w fun r w'=>Below w.heap.size w w'/\∃v,r=.returned v/\SL 4 RC (· <w'.heap.size) w' v baseD:=by
 go_enter Tryz.func50,Tryz.ntmps50;go_wp2
 go_ret;refine ⟨((((br _ _).alloc (nlq _) _).alloc (by simp) _).alloc (by simp;omega) _),_,rfl,?_⟩;refine ⟨_,_,rfl,nlq _,by unfold maxLen;simp [baseD],fun k A=>?_⟩;have F:k<2:=A;match k,F with
 | 0,_=>
   refine ⟨_,_,[.string ⟨#[79,98,106,101,99,116]⟩,.string ⟨#[]⟩,.slice none 0 0,.slice (some ⟨w.heap.size,0,none⟩) 1 1],rfl,by simp,by simp,rfl,fun j D=>?_,?_⟩
   ·match j,D with
    | 0,_=>simp [go_sem]
    | 1,_=>simp [go_sem]
    | 2,_=>simp [go_sem]
    | 3,_=>simp [go_sem]
   refine ⟨_,_,rfl,⟨none,0,rfl,nlq _,n0q _,fun k A=>by cases A⟩,⟨some ⟨w.heap.size,0,none⟩,1,rfl,nlq _,by unfold maxLen;simp [baseD],fun k A=>?_⟩,of_decide_eq_true (by kernel_rfl),of_decide_eq_true (by kernel_rfl)⟩;have E:k<1:=A;match k,E with
   | 0,_=>
     refine ⟨_,_,[.string ⟨#[109,97,105,110]⟩,.bool true,.slice none 0 0,.int .i64 0,.string ⟨#[]⟩,.int .i64 2,.int .i64 0,.string ⟨#[1,0,7,31,27]⟩,.slice none 0 0],rfl,by simp;omega,by simp;omega,rfl,fun j D=>?_,?_⟩
     ·match j,D with
      | 0,_=>simp [go_sem]
      | 1,_=>simp [go_sem]
      | 2,_=>simp [go_sem]
      | 3,_=>simp [go_sem]
      | 4,_=>simp [go_sem]
      | 5,_=>simp [go_sem]
      | 6,_=>simp [go_sem]
      | 7,_=>simp [go_sem]
      | 8,_=>simp [go_sem]
     exact ⟨_,_,rfl,⟨none,0,rfl,nlq _,n0q _,fun k A=>by cases A⟩,⟨none,0,rfl,nlq _,n0q _,fun k A=>by cases A⟩,of_decide_eq_true (by kernel_rfl),of_decide_eq_true (by kernel_rfl),of_decide_eq_true (by kernel_rfl)⟩
 | 1,_=>
   refine ⟨_,_,[.string ⟨#[69,114,114,111,114]⟩,.string ⟨#[79,98,106,101,99,116]⟩,.slice (some ⟨w.heap.size+1,0,none⟩) 1 1,.slice none 0 0],rfl,by simp,by simp,rfl,fun j D=>?_,?_⟩
   ·match j,D with
    | 0,_=>simp [go_sem]
    | 1,_=>simp [go_sem]
    | 2,_=>simp [go_sem]
    | 3,_=>simp [go_sem]
   refine ⟨_,_,rfl,⟨some ⟨w.heap.size+1,0,none⟩,1,rfl,nlq _,by unfold maxLen;simp [baseD],fun k A=>?_⟩,⟨none,0,rfl,nlq _,n0q _,fun k A=>by cases A⟩,of_decide_eq_true (by kernel_rfl),of_decide_eq_true (by kernel_rfl)⟩;have E:k<1:=A;match k,E with
   | 0,_=>
     refine ⟨_,_,[.string ⟨#[99,111,100,101]⟩,.int .i64 1,.string ⟨#[]⟩],rfl,by simp,by simp,rfl,fun j D=>?_,?_⟩
     ·match j,D with
      | 0,_=>simp [go_sem]
      | 1,_=>simp [go_sem]
      | 2,_=>simp [go_sem]
     exact ⟨rfl,of_decide_eq_true (by kernel_rfl),of_decide_eq_true (by kernel_rfl)⟩
end Go.Proofs.YtjdnmblggdobgaaGreat
