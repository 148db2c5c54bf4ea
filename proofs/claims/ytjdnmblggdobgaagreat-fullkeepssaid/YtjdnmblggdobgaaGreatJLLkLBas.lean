import Derived.Test.YtjdnmblggdobgaaGreatJLSaLTie
import Derived.Test.YtjdnmblggdobgaaGreatJLClLCp
import Derived.Test.YtjdnmblggdobgaaGreatJLErrLRf4
import Derived.Test.YtjdnmblggdobgaaGreatJTk2Dies
import Derived.KernelRfl
set_option maxHeartbeats 4000000
set_option maxRecDepth 100000
namespace Go.Proofs.YtjdnmblggdobgaaGreat
open Go.RowKit Go.Maps
def na (l:List am):be:=⟨l,(List.range l.length).map (dj l),(List.range l.length).map (fieldsOf l),(List.range l.length).map (d9 l),(List.range l.length).map (d7 l)⟩
def nilLk:Value:=.agg #[.slice none 0 0,.slice none 0 0,.slice none 0 0,.slice none 0 0,.slice none 0 0]
theorem ma.mono {M M':Nat->Prop} {w:World} {A G D E I:Value} {d:be} (h:ma M w A G D E I d) (u:∀k,M k->M' k):ma M' w A G D E I d:=
 ⟨h.C.monoC u,h.S.monoI u,h.F.monoSl u fun _ _ h=>h,h.N.monoSl u fun _ _ h=>h,h.T.monoSl u fun _ _ h=>h⟩
theorem zka {l:List am} (h:gj l=0):dt l=0:=by
 unfold gj at h;by_cases hc:dt l=0
 ·exact hc
 rw [if_neg hc]at h;exact h
theorem zkb {l:List am} (h:dt l=0):l.length<=100000/\∀x∈l,x.fields.length<=100000/\x.ar.length<=100000/\∀m∈x.ar,m.args.length<=100000/\m.hands.length<=100000:=by obtain ⟨h1,u⟩:=zgm h;refine ⟨by omega,fun x E=>?_⟩;obtain ⟨-,-,F,-,G,A⟩:=u x E;refine ⟨by omega,by omega,fun m D=>?_⟩;obtain ⟨-,I,-,-,-,-,-,J,-⟩:=A m D;exact ⟨by omega,by omega⟩
theorem SL.stpC {B:Nat} {T:List Nat} {w w':World} {v:Value} {l:List am} (h:SL 4 RC (MT B T w) w v l) (u:Stp B T w w'):SL 4 RC (MT B T w') w' v l:=(h.keptC u.kp).monoC fun _ A=>A.step u
theorem set5 (W:World) (R t:Nat) (N L J I F u A D E G:Value) (h:W.heap[R]? =some (.cells #[N,L,J,I,F] t (0,0))):
 (((((W.setCell ⟨R,0,none⟩ u).setCell ⟨R,1,none⟩ A).setCell ⟨R,2,none⟩ D).setCell ⟨R,3,none⟩ E).setCell ⟨R,4,none⟩ G).heap[R]? =some (.cells #[u,A,D,E,G] t (0,0))/\
 W.grownBy (((((W.setCell ⟨R,0,none⟩ u).setCell ⟨R,1,none⟩ A).setCell ⟨R,2,none⟩ D).setCell ⟨R,3,none⟩ E).setCell ⟨R,4,none⟩ G) (some R):=
 ⟨by
  have h0:(W.setCell ⟨R,0,none⟩ u).heap[R]? =some (.cells #[u,L,J,I,F] t (0,0)):=(zg6 (j:=0) h u).trans rfl;have h1:((W.setCell ⟨R,0,none⟩ u).setCell ⟨R,1,none⟩ A).heap[R]? =some (.cells #[u,A,J,I,F] t (0,0)):=(zg6 (j:=1) h0 A).trans rfl;have Z:(((W.setCell ⟨R,0,none⟩ u).setCell ⟨R,1,none⟩ A).setCell ⟨R,2,none⟩ D).heap[R]? =some (.cells #[u,A,D,I,F] t (0,0)):=(zg6 (j:=2) h1 D).trans rfl;have h3:((((W.setCell ⟨R,0,none⟩ u).setCell ⟨R,1,none⟩ A).setCell ⟨R,2,none⟩ D).setCell ⟨R,3,none⟩ E).heap[R]? =some (.cells #[u,A,D,E,F] t (0,0)):=(zg6 (j:=3) Z E).trans rfl
  exact (zg6 (j:=4) h3 G).trans rfl,by
  have O:W.grownBy (W.setCell ⟨R,0,none⟩ u) (some R):=nh (World.grownBy.refl W (some R)) ⟨R,0,none⟩ u (Or.inl rfl);have V:=nh O ⟨R,1,none⟩ A (Or.inl rfl);have X:=nh V ⟨R,2,none⟩ D (Or.inl rfl);have Y:=nh X ⟨R,3,none⟩ E (Or.inl rfl);exact nh Y ⟨R,4,none⟩ G (Or.inl rfl)⟩
theorem zkc (w:World) (B:Nat) (l:List am) (v:Value) (hv:SL 4 RC (· <B) w v l) (hB:B<=w.heap.size):
 Calls Tryz.prog 49 #[v] w fun r w'=>Below w.heap.size w w'/\
  ((gj l=0/\∃kC kS kF kN kT,r=.returned (.tuple #[.agg #[kC,kS,kF,kN,kT],.int .i64 0])/\ma (fun k=>(k<B\/w.heap.size<=k)/\k<w'.heap.size) w' kC kS kF kN kT (na l))\/(gj l≠0/\r=.returned (.tuple #[nilLk,.int .i64 (gj l)]))):=by
 have HV:=ag hv;obtain ⟨ao,cl,rfl,-⟩:=hv;have L:=ag (fun o=>(br w.heap.size w).alloc (nlq _) o);go_enter Tryz.func49,Tryz.ntmps49;go_wp2_with fail;refine (zjw _ B l _ (HV.o.keptC (Kp.below ((L.o _).mono hB))) (lt3 hB (L.o _).size)).mono ?_;rintro r w1 ⟨O,⟨h0,p,rfl,b,vS,vF,vN,vT,vL,Bm,rfl,ax,ah⟩ | ⟨h0,rfl⟩⟩
 ·have u:w1.heap[w.heap.size]? =some (.cells #[.slice none 0 0,.slice none 0 0,.slice none 0 0,.slice none 0 0,.slice none 0 0] 36 (0,0)):=(O.block w.heap.size (by simp)).trans (heap_alloc_new w _);have a0:w.heap.size+1<=b:=by simpa using ax
  have ac:Below w.heap.size w w1:=(L.o _).trans (O.mono (L.o _).size);have aa:=ag ac;have Z:=ag ah;have HT:=ag h0;have av:=ag u;have ai:=ag (zj9 w1 B _ l (HV.o.keptC (Kp.below (ac.mono hB))) (lt3 hB ac.size) (zkb (zka h0)).1 (zkb (zka h0)).2);have ay:w.heap.size<w1.heap.size:=bz u;clear O ah h0 ac u;go_wp2_with fail;refine ai.o.mono ?_;rintro r w2 ⟨G,vC,rfl,sC⟩;have aj:=ag sC;obtain ⟨I,J,rfl,-⟩:=sC;have Y:=Z.o.blk;have af:=bz Y;have E:=(G.block b af).trans Y;have az:b≠w.heap.size:=by omega
  have a1:=bz E;have al:Below w.heap.size w (w2.setCell ⟨b,0,none⟩ (.slice I l.length J)):=(aa.o.trans (G.mono aa.o.size)).setCell (by simp;omega) _;have A:=zg6 (j:=0) E (.slice I l.length J);have c0:=ba E 0 (x:=.slice ao l.length cl) rfl;have z0:=nu E 0;have F:(w2.setCell ⟨b,0,none⟩ (.slice I l.length J)).heap[w.heap.size]? =some (.cells #[.slice none 0 0,.slice none 0 0,.slice none 0 0,.slice none 0 0,.slice none 0 0] 36 (0,0)):=(Below.heap_setCell _ _ _ _ (by simp;omega)).trans ((G.block w.heap.size ay).trans av.o);have aw:Hid (ma (fun k=>((k<B\/w.heap.size+1<=k)/\k<w2.heap.size)) (w2.setCell ⟨b,0,none⟩ (.slice I l.length J)) (.slice I l.length J) vS vF vN vT (na l)):=by have ad:Kp (fun k=>((k<B\/(w.alloc (.cells #[.slice none 0 0,.slice none 0 0,.slice none 0 0,.slice none 0 0,.slice none 0 0] 36)).heap.size<=k)/\k<w1.heap.size)/\k≠b) w1 (w2.setCell ⟨b,0,none⟩ (.slice I l.length J)):=⟨lt3 G.size (by simp [World.setCell]),fun k V hl=>(Below.heap_setCell _ _ _ _ (by simpa using V.2)).trans (G.block k hl)⟩;have ae:∀k,(((k<B\/(w.alloc (.cells #[.slice none 0 0,.slice none 0 0,.slice none 0 0,.slice none 0 0,.slice none 0 0] 36)).heap.size<=k)/\k<w1.heap.size)/\k≠b)->((k<B\/w.heap.size+1<=k)/\k<w2.heap.size):=fun k V=>⟨V.1.1.imp id (fun h=>by simpa using h),ll3 V.1.2 G.size⟩;exact ⟨(aj.o.stpC (Stp.set E (by decide) 0 (.slice I l.length J))).monoC (fun k V=>⟨Or.inr (by have:=V.1;omega),by have:=V.lt;simpa [World.setCell]using this⟩),(Z.o.sS.keptI ad).monoI ae,(Z.o.sF.keptSl ad fun _ _ h=>h).monoSl ae fun _ _ h=>h,(Z.o.sN.keptSl ad fun _ _ h=>h).monoSl ae fun _ _ h=>h,(Z.o.sT.keptSl ad fun _ _ h=>h).monoSl ae fun _ _ h=>h⟩
  have aq:((List.range l.length).map (dj l)).length=l.length:=by simp
  have an:((List.range l.length).map (fieldsOf l)).length=l.length:=by simp
  have ap:((List.range l.length).map (d9 l)).length=l.length:=by simp
  have ar:((List.range l.length).map (d7 l)).length=l.length:=by simp
  obtain ⟨aS,cS,e1,-⟩:=Z.o.sS;obtain ⟨aF,cF,e2,-⟩:=Z.o.sF;obtain ⟨aN,cN,e3,-⟩:=Z.o.sN;obtain ⟨aT,cT,e4,-⟩:=Z.o.sT;rw [aq]at e1;rw [an]at e2;rw [ap]at e3;rw [ar]at e4;subst e1 e2 e3 e4;have d0:=ba A 0 (x:=.slice I l.length J) rfl;have d1:=ba A 1 (x:=.slice aS l.length cS) rfl;have d2:=ba A 2 (x:=.slice aF l.length cF) rfl;have d3:=ba A 3 (x:=.slice aN l.length cN) rfl;have d4:=ba A 4 (x:=.slice aT l.length cT) rfl;have r0:=ba F 0 (x:=.slice none 0 0) rfl;have r1:=ba F 1 (x:=.slice none 0 0) rfl;have r2:=ba F 2 (x:=.slice none 0 0) rfl;have r3:=ba F 3 (x:=.slice none 0 0) rfl;have r4:=ba F 4 (x:=.slice none 0 0) rfl;have f0:∀j,(w2.setCell ⟨b,0,none⟩ (.slice I l.length J)).frozen? ⟨w.heap.size,j,none⟩=false:=fun j=>nu F j;have lR:=bz F;have a3:=bz A;have au:=ag al;obtain ⟨X,W⟩:=set5 _ w.heap.size _ _ _ _ _ _ (.slice I l.length J) (.slice aS l.length cS) (.slice aF l.length cF) (.slice aN l.length cN) (.slice aT l.length cT) F;have D:=ag X;have N:=ag W;clear X W;clear Z aj ai aq an ap ar Y G al af;go_wp2_with fail;generalize ((((((w2.setCell ⟨b,0,none⟩ (.slice I l.length J)).setCell ⟨w.heap.size,0,none⟩ (.slice I l.length J)).setCell ⟨w.heap.size,1,none⟩ (.slice aS l.length cS)).setCell ⟨w.heap.size,2,none⟩ (.slice aF l.length cF)).setCell ⟨w.heap.size,3,none⟩ (.slice aN l.length cN)).setCell ⟨w.heap.size,4,none⟩ (.slice aT l.length cT))=W9 at*;have s0:=ba D.o 0 (x:=.slice I l.length J) rfl;have s1:=ba D.o 1 (x:=.slice aS l.length cS) rfl;have s2:=ba D.o 2 (x:=.slice aF l.length cF) rfl;have s3:=ba D.o 3 (x:=.slice aN l.length cN) rfl;have s4:=ba D.o 4 (x:=.slice aT l.length cT) rfl;refine bodyPost_ret (v:=.tuple #[.agg #[.slice I l.length J,.slice aS l.length cS,.slice aF l.length cF,.slice aN l.length cN,.slice aT l.length cT],.int .i64 0]) (by simp [results,Tryz.results49,go_sem,s0,s1,s2,s3,s4]) rfl ⟨nt au.o N.o (nlq _),Or.inl ⟨HT.o,_,_,_,_,_,rfl,?_⟩⟩;refine ((aw.o.kept (w':=W9) ⟨N.o.size,fun k V hl=>N.o.block k hl (by intro e;injection e with e;rcases V.1 with h | h<;>omega)⟩).mono fun k V=>⟨V.1.imp id (fun h=>by omega),?_⟩);have:=N.o.size;have h2:=V.2;simp [World.setCell]at this;omega
 have aa:=ag ((L.o _).trans (O.mono (L.o _).size));have a2:(gj l==0)=false:=beq_eq_false_iff_ne.2 h0;have u:w1.heap[w.heap.size]? =some (.cells #[.slice none 0 0,.slice none 0 0,.slice none 0 0,.slice none 0 0,.slice none 0 0] 36 (0,0)):=(O.block w.heap.size (by simp)).trans (heap_alloc_new w _);have lR:=bz u;have r0:=ba u 0 (x:=.slice none 0 0) rfl;have r1:=ba u 1 (x:=.slice none 0 0) rfl;have r2:=ba u 2 (x:=.slice none 0 0) rfl;have r3:=ba u 3 (x:=.slice none 0 0) rfl;have r4:=ba u 4 (x:=.slice none 0 0) rfl;have f0:∀j,w1.frozen? ⟨w.heap.size,j,none⟩=false:=fun j=>nu u j;have HN:=ag h0;obtain ⟨X,W⟩:=set5 _ w.heap.size _ _ _ _ _ _ (.slice none 0 0) (.slice none 0 0) (.slice none 0 0) (.slice none 0 0) (.slice none 0 0) u;have D:=ag X;have N:=ag W;clear O h0 u X W;generalize hte:gj l=te at*;have ak:=ag hte;clear hte;go_wp2_with fail;generalize (((((w1.setCell ⟨w.heap.size,0,none⟩ (.slice none 0 0)).setCell ⟨w.heap.size,1,none⟩ (.slice none 0 0)).setCell ⟨w.heap.size,2,none⟩ (.slice none 0 0)).setCell ⟨w.heap.size,3,none⟩ (.slice none 0 0)).setCell ⟨w.heap.size,4,none⟩ (.slice none 0 0))=W9 at*;have s0:=ba D.o 0 (x:=.slice none 0 0) rfl;have s1:=ba D.o 1 (x:=.slice none 0 0) rfl;have s2:=ba D.o 2 (x:=.slice none 0 0) rfl;have s3:=ba D.o 3 (x:=.slice none 0 0) rfl;have s4:=ba D.o 4 (x:=.slice none 0 0) rfl;exact bodyPost_ret (v:=.tuple #[nilLk,.int .i64 te]) (by simp [results,Tryz.results49,go_sem,s0,s1,s2,s3,s4,nilLk]) rfl ⟨nt aa.o N.o (nlq _),Or.inr ⟨by rw [ak.o];exact HN.o,by rw [ak.o]⟩⟩
def o7 (d:be):Bool:=decide (gj d.aj=0)&&makesB d.aj d
def inB (d:be) (n:Int):Bool:=decide (0<=n)&&decide (n<d.aj.length)
def gu (d:be) (ns:List Int):Int:=if o7 d=true then (if ns.all (inB d)=true then 0 else 3) else 4
theorem Web.web' {B:Nat} {w:World} {b:Nat} {l:List am} {D I E G J F:Value} {A:Nat} (h:Web B w b l D I E G J F A):Web w.heap.size w b l D I E G J F A:=
 have u:∀k,k<B->k<w.heap.size:=fun _ L=>ll3 L h.le
 ⟨u _ h.bB,u _ h.mB,nlq _,h.blk,h.sC.monoC u,h.sS.monoI u,h.sF.monoSl u fun _ _ h=>h,h.sN.monoSl u fun _ _ h=>h,h.sT.monoSl u fun _ _ h=>h,h.sL.monoSl u fun _ _ h=>h,h.nm⟩
theorem ma.agg {M:Nat->Prop} {w:World} {O X V W Y:Value} {d:be} (h:ma M w O X V W Y d):∃u G E L A I D J F N,O=.slice u d.aj.length G/\X=.slice E d.ax.length L/\V=.slice A d.fields.length I/\W=.slice D d.names.length J/\Y=.slice F d.aq.length N:=by obtain ⟨⟨u,G,Z,-⟩,⟨E,L,e2,-⟩,⟨A,I,e3,-⟩,⟨D,J,e4,-⟩,⟨F,N,e5,-⟩⟩:=h;exact ⟨_,_,_,_,_,_,_,_,_,_,Z,e2,e3,e4,e5⟩
theorem zkd (w:World) (B:Nat) (kC kS kF kN kT:Value) (d:be) (Y:ma (· <B) w kC kS kF kN kT d) (hB:B<=w.heap.size) (M:Nat->Prop) (vn:Value) (ns:List Int) (hn:SL 1 RI M w vn ns):
 Calls Tryz.prog 166 #[.agg #[kC,kS,kF,kN,kT],vn] w fun r w'=>Below w.heap.size w w'/\
  ((gu d ns=0/\o7 d=true/\∃b vS vF vN vT vL Bm,r=.returned (.pointer (some ⟨b,0,none⟩))/\Web w'.heap.size w' b d.aj kC vS vF vN vT vL Bm)\/(gu d ns≠0/\r=.panicked [wrongV (gu d ns) 0])):=by
 have HK:=ag Y;have ae:=ag hn;obtain ⟨aC,cC,aS,cS,aF,cF,aN,cN,aT,cT,rfl,rfl,rfl,rfl,rfl⟩:=Y.agg;obtain ⟨an,cn,rfl,-,ai,-⟩:=hn;unfold maxLen at ai;have F:=ag (fun o=>(br w.heap.size w).alloc (nlq _) o);have ak:d.aj.length<=9223372036854775807:=by obtain ⟨a,c,-,-,h,-⟩:=Y.C;unfold maxLen at h;omega
 clear Y;go_enter Tryz.func166,Tryz.ntmps166;go_wp2_with fail;refine (zjw _ B d.aj _ (HK.o.C.keptC (Kp.below ((F.o _).mono hB))) (lt3 hB (F.o _).size)).mono ?_;rintro r w1 ⟨J,⟨h0,p,rfl,b,vS,vF,vN,vT,vL,Bm,rfl,ar,L⟩ | ⟨h0,rfl⟩⟩
 ·have A:w1.heap[w.heap.size]? =some (.cells #[.slice aC d.aj.length cC,.slice aS d.ax.length cS,.slice aF d.fields.length cF,.slice aN d.names.length cN,.slice aT d.aq.length cT] 36 (0,0)):=(J.block w.heap.size (by simp)).trans (heap_alloc_new w _);have G:Below w.heap.size w w1:=(F.o _).trans (J.mono (F.o _).size);have N:=ag G;have HW:=ag L.web;have Z:=bz A;have r0:=ba A 0 (x:=.slice aC d.aj.length cC) rfl;have r1:=ba A 1 (x:=.slice aS d.ax.length cS) rfl;have r2:=ba A 2 (x:=.slice aF d.fields.length cF) rfl;have r3:=ba A 3 (x:=.slice aN d.names.length cN) rfl;have r4:=ba A 4 (x:=.slice aT d.aq.length cT) rfl;have af:=ag A;have O:=ag (zem w1 w1.heap.size b d.aj _ _ _ _ _ _ Bm L.web _ _ _ _ _ d ((HK.o.kept (Kp.below (G.mono hB))).mono fun k Y=>ll3 Y (lt3 hB G.size)));have V:Hid (o7 d=makesB d.aj d):=by show o7 d=_;simp [o7,h0]
  clear J L h0 G A;generalize makesB d.aj d=mk at*;cases mk with
  | false=>
    have D:Hid (gu d ns=4):=by show gu d ns=4;rw [gu,V.o];rfl
    go_wp2_with (go_at_call 216;refine O.o.mono ?_;rintro r w2 ⟨rfl,E⟩);refine (mh _ _ _).mono ?_;rintro r w3 ⟨rfl,⟨u,rfl⟩ | ⟨u,rfl⟩⟩
    ·exact ⟨rfl,N.o.trans (E.mono N.o.size),Or.inr ⟨by rw [D.o];decide,by rw [D.o]⟩⟩
    exact absurd u (by simp)
  | true=>
    go_wp2_with (go_at_call 216;refine O.o.mono ?_;rintro r w2 ⟨rfl,E⟩);refine (mh _ _ _).mono ?_;rintro r w3 ⟨rfl,⟨u,rfl⟩ | ⟨u,rfl⟩⟩
    ·exact absurd u (by simp)
    clear u;have ah:=ag (((HW.o.below E).web'));have I:=ag (N.o.trans (E.mono N.o.size));have k0:=(E.cell (p:=⟨w.heap.size,0,none⟩) Z).trans r0;have av:w.heap.size<w3.heap.size:=ll3 Z E.size;have W:Hid (gu d ns=if ns.all (inB d)=true then 0 else 3):=by show gu d ns=_;rw [gu,if_pos V.o]
    clear r0 r1 r2 r3 r4 E O af HW Z;go_wp2_with fail;go_loopw [25] (fun i wr=>∃k:Nat,k<=ns.length/\i=.int .i64 k/\wr=w3/\Hid (ns.all (inB d)=(ns.drop k).all (inB d))) (fun i _=>ns.length - (intOf i).toNat)
    case atStart=>exact ⟨0,n0q _,rfl,rfl,rfl⟩
    case round=>
     obtain ⟨k,Y,rfl,rfl,HQ⟩:=hrel;by_cases aa:k<ns.length
     ·obtain ⟨bn,on,rfl,ap,en⟩:=(ae.o.keptI ⟨I.o.size,fun q _ hq=>I.o.block q hq⟩).atI k aa;have X:Hid ((ns.drop k).all (inB d)=(inB d ns[k]&&(ns.drop (k+1)).all (inB d))):=by show _=_;rw [List.drop_eq_getElem_cons aa,List.all_cons]
      generalize ns[k]=n at*;have al:(0:Int)<=k:=by omega
      have ao:(k:Int)<ns.length:=by omega
      by_cases ac:0<=n
      ·by_cases ad:n<d.aj.length
       ·have D:Hid (ns.all (inB d)=(ns.drop (k+1)).all (inB d)):=HQ.o.trans (X.o.trans (by simp [inB,ac,ad]));go_wp2_with fail;refine (mh _ _ _).mono ?_;rintro r w4 ⟨rfl,⟨u,rfl⟩ | ⟨u,rfl⟩⟩
        ·exact absurd u (by simp<;>omega)
        clear u;go_wp2_with fail;go_roundw
        case rel=>exact ⟨k+1,by omega,by go_num,(by first | rfl | trivial),D.o⟩
        case measure=>simp [intOf];omega
       have D:Hid (gu d ns=3):=W.o.trans (by rw [HQ.o,X.o];simp [inB,ad]);go_wp2_with fail;refine (mh _ _ _).mono ?_;rintro r w4 ⟨rfl,⟨u,rfl⟩ | ⟨u,rfl⟩⟩
       ·exact ⟨rfl,I.o,Or.inr ⟨by rw [D.o];decide,by rw [D.o]⟩⟩
       exact absurd u (by simp<;>omega)
      have D:Hid (gu d ns=3):=W.o.trans (by rw [HQ.o,X.o];simp [inB,ac]);go_wp2_with fail;refine (mh _ _ _).mono ?_;rintro r w4 ⟨rfl,⟨u,rfl⟩ | ⟨u,rfl⟩⟩
      ·exact ⟨rfl,I.o,Or.inr ⟨by rw [D.o];decide,by rw [D.o]⟩⟩
      exact absurd u (by simp<;>omega)
     have D:Hid (gu d ns=0):=W.o.trans (by rw [HQ.o,List.drop_of_length_le (by omega)];rfl);go_wp2_with fail;go_ret;exact ⟨I.o,Or.inl ⟨D.o,V.o,_,_,_,_,_,_,_,rfl,ah.o⟩⟩
 have G:=ag ((F.o (.cells #[.slice aC d.aj.length cC,.slice aS d.ax.length cS,.slice aF d.fields.length cF,.slice aN d.names.length cN,.slice aT d.aq.length cT] 36)).trans (J.mono (F.o _).size));have D:Hid (gu d ns=4):=by
  show gu d ns=4;have:o7 d=false:=by simp [o7,h0]
  rw [gu,this];rfl
 have au:(gj d.aj==0)=false:=beq_eq_false_iff_ne.2 h0;clear J h0;generalize gj d.aj=te at*;go_wp2_with fail;refine (mh _ _ _).mono ?_;rintro r w3 ⟨rfl,⟨u,rfl⟩ | ⟨u,rfl⟩⟩
 ·exact ⟨rfl,G.o,Or.inr ⟨by rw [D.o];decide,by rw [D.o]⟩⟩
 exact absurd u (by simp)
theorem nilSL0 (M:Nat->Prop) (w:World):SL 1 RI M w (.slice none 0 0) []:=⟨none,0,rfl,nlq _,by unfold maxLen;simp,fun k u=>by cases u⟩
theorem zkt (w:World) (B P:Nat) (A F D E G:Value) (d:be) (L:ma (· <B) w A F D E G d) (hB:B<=w.heap.size) (u:w.heap[P]? =some (.cells #[A,F,D,E,G] 36 (0,0))):
 Calls Tryz.prog 165 #[.pointer (some ⟨P,0,none⟩)] w fun r w'=>my (gu d []) r/\Below w.heap.size w w':=by
 have I:=ag (zkd w B A F D E G d L hB (fun _=>True) _ [] (nilSL0 _ _));have aa:=bz u;have V:=ba u 0 (x:=A) rfl;have W:=ba u 1 (x:=F) rfl;have X:=ba u 2 (x:=D) rfl;have Y:=ba u 3 (x:=E) rfl;have Z:=ba u 4 (x:=G) rfl;obtain ⟨aC,cC,aS,cS,aF,cF,aN,cN,aT,cT,rfl,rfl,rfl,rfl,rfl⟩:=L.agg;clear L u;go_enter Tryz.func165,Tryz.ntmps165;go_wp2_with fail;refine I.o.mono ?_;rintro r w1 ⟨J,⟨h0,-,b,vS,vF,vN,vT,vL,Bm,rfl,-⟩ | ⟨h0,rfl⟩⟩
 ·have O:=ag h0;have N:=ag J;clear h0 J V W X Y Z;go_wp2_with fail;go_end0;exact ⟨Or.inr ⟨O.o,rfl⟩,N.o⟩
 exact ⟨rfl,Or.inl ⟨h0,rfl⟩,J⟩
theorem callLCheck1 (args:Array Value) (w:World):(callFunc 165 args).run Tryz.prog w=.ok (.enter 165 args) w:=by kernel_rfl
theorem zku (w:World) (B:Nat) (kC kS kF kN kT:Value) (d:be) (hk:ma (· <B) w kC kS kF kN kT d) (A:B<=w.heap.size):
 Calls Tryz.prog 104 #[.agg #[kC,kS,kF,kN,kT]] w fun r w'=>r=.returned (.int .i64 (gu d []))/\Below w.heap.size w w':=by
 have I:=np Tryz.prog;have O:=ag hk;obtain ⟨V,cC,Y,cS,W,cF,X,cN,Z,cT,rfl,rfl,rfl,rfl,rfl⟩:=hk.agg;clear hk;have D:=(br w.heap.size w).alloc (nlq _) (.cells #[.slice V d.aj.length cC,.slice Y d.ax.length cS,.slice W d.fields.length cF,.slice X d.names.length cN,.slice Z d.aq.length cT] 36);have u:=D.alloc D.size (.cells #[.int .i64 0,.int .i64 0] 84);go_enter Tryz.func104,Tryz.ntmps104;go_wp2_with fail;refine (zb6 165 _ _ (fun J=>gu d []=0/\Below w.heap.size w J) (fun e p J=>gu d []=e/\Below w.heap.size w J) (callLCheck1 _) ?hc).mono ?_
 case hc=>
  refine (zkt _ B w.heap.size _ _ _ _ _ d (O.o.kept (Kp.below (u.mono A))) (lt3 A u.size) ((Below.heap_alloc _ _ _ (by simp)).trans (heap_alloc_new w _))).mono ?_;rintro r J ⟨hr,hb⟩;have F:=u.trans (hb.mono u.size);refine ⟨?_,?_⟩
  ·rw [hb.block (w.alloc (.cells #[.slice V d.aj.length cC,.slice Y d.ax.length cS,.slice W d.fields.length cF,.slice X d.names.length cN,.slice Z d.aq.length cT] 36)).heap.size (by simp)];exact heap_alloc_new _ _
  rcases hr with ⟨hc,rfl⟩ | ⟨hc,rfl⟩
  ·exact Or.inr ⟨_,_,rfl,rfl,F⟩
  exact Or.inl ⟨rfl,hc,F⟩
 rintro r w2 ⟨J,G,hr⟩;have hz:(w.alloc (.cells #[.slice V d.aj.length cC,.slice Y d.ax.length cS,.slice W d.fields.length cF,.slice X d.names.length cN,.slice Z d.aq.length cT] 36)).heap.size=w.heap.size+1:=by simp
 rw [hz]at G;clear D u hz;rcases hr with ⟨rfl,hc,E⟩ | ⟨e,p,rfl,hc,E⟩
 ·have N:=ag hc;have L:=ag (nt E G (by omega));clear hc G E I A O;have aa:=ny;go_wp2
  go_ret;exact ⟨by rw [N.o];rfl,L.o⟩
 have N:=ag hc;have L:=ag (nt E G (by omega));clear hc G E I A O;have aa:=ny;go_wp2
 go_ret;exact ⟨by rw [N.o];rfl,L.o⟩
def baseD:List am:=[⟨⟨#[79,98,106,101,99,116]⟩,⟨#[]⟩,[],[⟨⟨#[109,97,105,110]⟩,true,[],⟨0,⟨#[]⟩⟩,2,0,⟨#[1,0,7,31,27]⟩,[]⟩]⟩,
 ⟨⟨#[69,114,114,111,114]⟩,⟨#[79,98,106,101,99,116]⟩,[⟨⟨#[99,111,100,101]⟩,⟨1,⟨#[]⟩⟩⟩],[]⟩]
theorem zm4:gj baseD=0:=by kernel_rfl
theorem zm6 (w:World):Calls Tryz.prog 50 #[] w fun r w'=>Below w.heap.size w w'/\∃v,r=.returned v/\SL 4 RC (· <w'.heap.size) w' v baseD:=by
 go_enter Tryz.func50,Tryz.ntmps50;go_wp2
 go_ret;refine ⟨((((br _ _).alloc (nlq _) _).alloc (by simp) _).alloc (by simp;omega) _),_,rfl,?_⟩;refine ⟨_,_,rfl,nlq _,by unfold maxLen;simp [baseD],fun k u=>?_⟩;have E:k<2:=u;match k,E with
 | 0,_=>
   refine ⟨_,_,[.string ⟨#[79,98,106,101,99,116]⟩,.string ⟨#[]⟩,.slice none 0 0,.slice (some ⟨w.heap.size,0,none⟩) 1 1],rfl,by simp,by simp,rfl,fun j A=>?_,?_⟩
   ·match j,A with
    | 0,_=>simp [go_sem]
    | 1,_=>simp [go_sem]
    | 2,_=>simp [go_sem]
    | 3,_=>simp [go_sem]
   refine ⟨_,_,rfl,⟨none,0,rfl,nlq _,n0q _,fun k u=>by cases u⟩,⟨some ⟨w.heap.size,0,none⟩,1,rfl,nlq _,by unfold maxLen;simp [baseD],fun k u=>?_⟩,of_decide_eq_true (by kernel_rfl),of_decide_eq_true (by kernel_rfl)⟩;have D:k<1:=u;match k,D with
   | 0,_=>
     refine ⟨_,_,[.string ⟨#[109,97,105,110]⟩,.bool true,.slice none 0 0,.int .i64 0,.string ⟨#[]⟩,.int .i64 2,.int .i64 0,.string ⟨#[1,0,7,31,27]⟩,.slice none 0 0],rfl,by simp;omega,by simp;omega,rfl,fun j A=>?_,?_⟩
     ·match j,A with
      | 0,_=>simp [go_sem]
      | 1,_=>simp [go_sem]
      | 2,_=>simp [go_sem]
      | 3,_=>simp [go_sem]
      | 4,_=>simp [go_sem]
      | 5,_=>simp [go_sem]
      | 6,_=>simp [go_sem]
      | 7,_=>simp [go_sem]
      | 8,_=>simp [go_sem]
     exact ⟨_,_,rfl,⟨none,0,rfl,nlq _,n0q _,fun k u=>by cases u⟩,⟨none,0,rfl,nlq _,n0q _,fun k u=>by cases u⟩,of_decide_eq_true (by kernel_rfl),of_decide_eq_true (by kernel_rfl),of_decide_eq_true (by kernel_rfl)⟩
 | 1,_=>
   refine ⟨_,_,[.string ⟨#[69,114,114,111,114]⟩,.string ⟨#[79,98,106,101,99,116]⟩,.slice (some ⟨w.heap.size+1,0,none⟩) 1 1,.slice none 0 0],rfl,by simp,by simp,rfl,fun j A=>?_,?_⟩
   ·match j,A with
    | 0,_=>simp [go_sem]
    | 1,_=>simp [go_sem]
    | 2,_=>simp [go_sem]
    | 3,_=>simp [go_sem]
   refine ⟨_,_,rfl,⟨some ⟨w.heap.size+1,0,none⟩,1,rfl,nlq _,by unfold maxLen;simp [baseD],fun k u=>?_⟩,⟨none,0,rfl,nlq _,n0q _,fun k u=>by cases u⟩,of_decide_eq_true (by kernel_rfl),of_decide_eq_true (by kernel_rfl)⟩;have D:k<1:=u;match k,D with
   | 0,_=>
     refine ⟨_,_,[.string ⟨#[99,111,100,101]⟩,.int .i64 1,.string ⟨#[]⟩],rfl,by simp,by simp,rfl,fun j A=>?_,?_⟩
     ·match j,A with
      | 0,_=>simp [go_sem]
      | 1,_=>simp [go_sem]
      | 2,_=>simp [go_sem]
     exact ⟨rfl,of_decide_eq_true (by kernel_rfl),of_decide_eq_true (by kernel_rfl)⟩
end Go.Proofs.YtjdnmblggdobgaaGreat
