import Derived.Test.YtjdnmblggdobgaaGreatJLSaLTie
import Derived.Test.YtjdnmblggdobgaaGreatJLClLCp
import Derived.Test.YtjdnmblggdobgaaGreatJLErrLRf4
import Derived.Test.YtjdnmblggdobgaaGreatJTk2Dies
import Derived.KernelRfl
set_option maxHeartbeats 4000000
set_option maxRecDepth 100000
namespace Go.Proofs.YtjdnmblggdobgaaGreat
open Go.RowKit Go.Maps
def linkD (l:List ClassD):LinkD:=⟨l,(List.range l.length).map (supAt l),(List.range l.length).map (fieldsOf l),(List.range l.length).map (namesOf l),(List.range l.length).map (targetsOf l)⟩
def nilLk:Value:=.agg #[.slice none 0 0,.slice none 0 0,.slice none 0 0,.slice none 0 0,.slice none 0 0]
theorem RLk.mono {M M':Nat->Prop} {w:World} {kC kS kF kN kT:Value} {d:LinkD} (h:RLk M w kC kS kF kN kT d) (hM:∀k,M k->M' k):RLk M' w kC kS kF kN kT d:=
 ⟨h.C.monoC hM,h.S.monoI hM,h.F.monoSl hM fun _ _ h=>h,h.N.monoSl hM fun _ _ h=>h,h.T.monoSl hM fun _ _ h=>h⟩
theorem zj9 {l:List ClassD} (h:tieRes l=0):checkL l=0:=by
 unfold tieRes at h
 by_cases hc:checkL l=0
 ·
  exact hc
 rw [if_neg hc]at h;exact h
theorem zka {l:List ClassD} (h:checkL l=0):l.length<=100000/\∀x∈l,x.fields.length<=100000/\x.meths.length<=100000/\∀m∈x.meths,m.args.length<=100000/\m.hands.length<=100000:=by
 obtain ⟨h1,h2⟩:=zgm h
 refine ⟨by omega,fun x hx=>?_⟩
 obtain ⟨-,-,h3,-,h4,h5⟩:=h2 x hx
 refine ⟨by omega,by omega,fun m hm=>?_⟩
 obtain ⟨-,h6,-,-,-,-,-,h7,-⟩:=h5 m hm
 exact ⟨by omega,by omega⟩
theorem SL.stpC {B:Nat} {T:List Nat} {w w':World} {v:Value} {l:List ClassD} (h:SL 4 RC (MT B T w) w v l) (hs:Stp B T w w'):SL 4 RC (MT B T w') w' v l:=(h.keptC hs.kp).monoC fun _ hk=>hk.step hs
theorem set5 (W:World) (R t:Nat) (a0 a1 a2 a3 a4 x0 x1 x2 x3 x4:Value) (h:W.heap[R]? =some (.cells #[a0,a1,a2,a3,a4] t (0,0))):
 (((((W.setCell ⟨R,0,none⟩ x0).setCell ⟨R,1,none⟩ x1).setCell ⟨R,2,none⟩ x2).setCell ⟨R,3,none⟩ x3).setCell ⟨R,4,none⟩ x4).heap[R]? =some (.cells #[x0,x1,x2,x3,x4] t (0,0))/\
 W.grownBy (((((W.setCell ⟨R,0,none⟩ x0).setCell ⟨R,1,none⟩ x1).setCell ⟨R,2,none⟩ x2).setCell ⟨R,3,none⟩ x3).setCell ⟨R,4,none⟩ x4) (some R):=
 ⟨by
  have h0:(W.setCell ⟨R,0,none⟩ x0).heap[R]? =some (.cells #[x0,a1,a2,a3,a4] t (0,0)):=(zg6 (j:=0) h x0).trans rfl
  have h1:((W.setCell ⟨R,0,none⟩ x0).setCell ⟨R,1,none⟩ x1).heap[R]? =some (.cells #[x0,x1,a2,a3,a4] t (0,0)):=(zg6 (j:=1) h0 x1).trans rfl
  have h2:(((W.setCell ⟨R,0,none⟩ x0).setCell ⟨R,1,none⟩ x1).setCell ⟨R,2,none⟩ x2).heap[R]? =some (.cells #[x0,x1,x2,a3,a4] t (0,0)):=(zg6 (j:=2) h1 x2).trans rfl
  have h3:((((W.setCell ⟨R,0,none⟩ x0).setCell ⟨R,1,none⟩ x1).setCell ⟨R,2,none⟩ x2).setCell ⟨R,3,none⟩ x3).heap[R]? =some (.cells #[x0,x1,x2,x3,a4] t (0,0)):=(zg6 (j:=3) h2 x3).trans rfl
  exact (zg6 (j:=4) h3 x4).trans rfl,by
  have g0:W.grownBy (W.setCell ⟨R,0,none⟩ x0) (some R):=za8 (World.grownBy.refl W (some R)) ⟨R,0,none⟩ x0 (Or.inl rfl)
  have g1:=za8 g0 ⟨R,1,none⟩ x1 (Or.inl rfl)
  have g2:=za8 g1 ⟨R,2,none⟩ x2 (Or.inl rfl)
  have g3:=za8 g2 ⟨R,3,none⟩ x3 (Or.inl rfl)
  exact za8 g3 ⟨R,4,none⟩ x4 (Or.inl rfl)⟩
theorem zkb (w:World) (B:Nat) (l:List ClassD) (v:Value) (hv:SL 4 RC (· <B) w v l) (hB:B<=w.heap.size):
 Calls Tryz.prog 49 #[v] w fun r w'=>Below w.heap.size w w'/\
  ((tieRes l=0/\∃kC kS kF kN kT,r=.returned (.tuple #[.agg #[kC,kS,kF,kN,kT],.int .i64 0])/\RLk (fun k=>(k<B\/w.heap.size<=k)/\k<w'.heap.size) w' kC kS kF kN kT (linkD l))\/(tieRes l≠0/\r=.returned (.tuple #[nilLk,.int .i64 (tieRes l)]))):=by
 have HV:=mk0 hv
 obtain ⟨ao,cl,rfl,-⟩:=hv
 have HB0:=mk0 (fun o=>(Below.refl w.heap.size w).alloc (Nat.le_refl _) o)
 go_enter Tryz.func49,Tryz.ntmps49
 go_wp2_with fail
 refine (zjv _ B l _ (HV.out.keptC (Kp.below ((HB0.out _).mono hB))) (Nat.le_trans hB (HB0.out _).size)).mono ?_
 rintro r w1 ⟨hb1,⟨h0,p,rfl,b,vS,vF,vN,vT,vL,Bm,rfl,hle,hweb⟩ | ⟨h0,rfl⟩⟩
 ·
  have hR1:w1.heap[w.heap.size]? =some (.cells #[.slice none 0 0,.slice none 0 0,.slice none 0 0,.slice none 0 0,.slice none 0 0] 36 (0,0)):=(hb1.block w.heap.size (by simp)).trans (heap_alloc_new w _)
  have hle':w.heap.size+1<=b:=by simpa using hle
  have hB1:Below w.heap.size w w1:=(HB0.out _).trans (hb1.mono (HB0.out _).size)
  have HB1:=mk0 hB1
  have HW:=mk0 hweb
  have HT:=mk0 h0
  have HR1:=mk0 hR1
  have HCP:=mk0 (zj8 w1 B _ l (HV.out.keptC (Kp.below (hB1.mono hB))) (Nat.le_trans hB hB1.size) (zka (zj9 h0)).1 (zka (zj9 h0)).2)
  have hz1:w.heap.size<w1.heap.size:=lt0 hR1
  clear hb1 hweb h0 hB1 hR1
  go_wp2_with fail
  refine HCP.out.mono ?_
  rintro r w2 ⟨hb2,vC,rfl,sC⟩
  have HSC:=mk0 sC
  obtain ⟨aC,cC,rfl,-⟩:=sC
  have hblk:=HW.out.blk
  have hb1l:=lt0 hblk
  have hblk2:=(hb2.block b hb1l).trans hblk
  have hbne:b≠w.heap.size:=by omega
  have hbl:=lt0 hblk2
  have hB3:Below w.heap.size w (w2.setCell ⟨b,0,none⟩ (.slice aC l.length cC)):=(HB1.out.trans (hb2.mono HB1.out.size)).setCell (by simp;omega) _
  have hblk3:=zg6 (j:=0) hblk2 (.slice aC l.length cC)
  have c0:=cl0 hblk2 0 (x:=.slice ao l.length cl) rfl
  have z0:=zcf hblk2 0
  have hR3:(w2.setCell ⟨b,0,none⟩ (.slice aC l.length cC)).heap[w.heap.size]? =some (.cells #[.slice none 0 0,.slice none 0 0,.slice none 0 0,.slice none 0 0,.slice none 0 0] 36 (0,0)):=(Below.heap_setCell _ _ _ _ (by simp;omega)).trans ((hb2.block w.heap.size hz1).trans HR1.out)
  have HRL:Hid (RLk (fun k=>((k<B\/w.heap.size+1<=k)/\k<w2.heap.size)) (w2.setCell ⟨b,0,none⟩ (.slice aC l.length cC)) (.slice aC l.length cC) vS vF vN vT (linkD l)):=by
   have hkp:Kp (fun k=>((k<B\/(w.alloc (.cells #[.slice none 0 0,.slice none 0 0,.slice none 0 0,.slice none 0 0,.slice none 0 0] 36)).heap.size<=k)/\k<w1.heap.size)/\k≠b) w1 (w2.setCell ⟨b,0,none⟩ (.slice aC l.length cC)):=⟨Nat.le_trans hb2.size (by simp [World.setCell]),fun k hk hl=>(Below.heap_setCell _ _ _ _ (by simpa using hk.2)).trans (hb2.block k hl)⟩
   have hmm:∀k,(((k<B\/(w.alloc (.cells #[.slice none 0 0,.slice none 0 0,.slice none 0 0,.slice none 0 0,.slice none 0 0] 36)).heap.size<=k)/\k<w1.heap.size)/\k≠b)->((k<B\/w.heap.size+1<=k)/\k<w2.heap.size):=fun k hk=>⟨hk.1.1.imp id (fun h=>by simpa using h),Nat.lt_of_lt_of_le hk.1.2 hb2.size⟩
   exact ⟨(HSC.out.stpC (Stp.set hblk2 (by decide) 0 (.slice aC l.length cC))).monoC (fun k hk=>⟨Or.inr (by have:=hk.1;omega),by have:=hk.lt;simpa [World.setCell]using this⟩),(HW.out.sS.keptI hkp).monoI hmm,(HW.out.sF.keptSl hkp fun _ _ h=>h).monoSl hmm fun _ _ h=>h,(HW.out.sN.keptSl hkp fun _ _ h=>h).monoSl hmm fun _ _ h=>h,(HW.out.sT.keptSl hkp fun _ _ h=>h).monoSl hmm fun _ _ h=>h⟩
  have hlS:((List.range l.length).map (supAt l)).length=l.length:=by simp
  have hlF:((List.range l.length).map (fieldsOf l)).length=l.length:=by simp
  have hlN:((List.range l.length).map (namesOf l)).length=l.length:=by simp
  have hlT:((List.range l.length).map (targetsOf l)).length=l.length:=by simp
  obtain ⟨aS,cS,e1,-⟩:=HW.out.sS
  obtain ⟨aF,cF,e2,-⟩:=HW.out.sF
  obtain ⟨aN,cN,e3,-⟩:=HW.out.sN
  obtain ⟨aT,cT,e4,-⟩:=HW.out.sT
  rw [hlS]at e1
  rw [hlF]at e2
  rw [hlN]at e3
  rw [hlT]at e4
  subst e1 e2 e3 e4
  have d0:=cl0 hblk3 0 (x:=.slice aC l.length cC) rfl
  have d1:=cl0 hblk3 1 (x:=.slice aS l.length cS) rfl
  have d2:=cl0 hblk3 2 (x:=.slice aF l.length cF) rfl
  have d3:=cl0 hblk3 3 (x:=.slice aN l.length cN) rfl
  have d4:=cl0 hblk3 4 (x:=.slice aT l.length cT) rfl
  have r0:=cl0 hR3 0 (x:=.slice none 0 0) rfl
  have r1:=cl0 hR3 1 (x:=.slice none 0 0) rfl
  have r2:=cl0 hR3 2 (x:=.slice none 0 0) rfl
  have r3:=cl0 hR3 3 (x:=.slice none 0 0) rfl
  have r4:=cl0 hR3 4 (x:=.slice none 0 0) rfl
  have f0:∀j,(w2.setCell ⟨b,0,none⟩ (.slice aC l.length cC)).frozen? ⟨w.heap.size,j,none⟩=false:=fun j=>zcf hR3 j
  have lR:=lt0 hR3
  have lb3:=lt0 hblk3
  have HB3:=mk0 hB3
  obtain ⟨hR5,hG5⟩:=set5 _ w.heap.size _ _ _ _ _ _ (.slice aC l.length cC) (.slice aS l.length cS) (.slice aF l.length cF) (.slice aN l.length cN) (.slice aT l.length cT) hR3
  have HR5:=mk0 hR5
  have HG5:=mk0 hG5
  clear hR5 hG5
  clear HW HSC HCP hlS hlF hlN hlT hblk hb2 hB3 hb1l
  go_wp2_with fail
  generalize ((((((w2.setCell ⟨b,0,none⟩ (.slice aC l.length cC)).setCell ⟨w.heap.size,0,none⟩ (.slice aC l.length cC)).setCell ⟨w.heap.size,1,none⟩ (.slice aS l.length cS)).setCell ⟨w.heap.size,2,none⟩ (.slice aF l.length cF)).setCell ⟨w.heap.size,3,none⟩ (.slice aN l.length cN)).setCell ⟨w.heap.size,4,none⟩ (.slice aT l.length cT))=W9 at*
  have s0:=cl0 HR5.out 0 (x:=.slice aC l.length cC) rfl
  have s1:=cl0 HR5.out 1 (x:=.slice aS l.length cS) rfl
  have s2:=cl0 HR5.out 2 (x:=.slice aF l.length cF) rfl
  have s3:=cl0 HR5.out 3 (x:=.slice aN l.length cN) rfl
  have s4:=cl0 HR5.out 4 (x:=.slice aT l.length cT) rfl
  refine bodyPost_ret (v:=.tuple #[.agg #[.slice aC l.length cC,.slice aS l.length cS,.slice aF l.length cF,.slice aN l.length cN,.slice aT l.length cT],.int .i64 0]) (by simp [results,Tryz.results49,go_sem,s0,s1,s2,s3,s4]) rfl ⟨bg0 HB3.out HG5.out (Nat.le_refl _),Or.inl ⟨HT.out,_,_,_,_,_,rfl,?_⟩⟩
  refine ((HRL.out.kept (w':=W9) ⟨HG5.out.size,fun k hk hl=>HG5.out.block k hl (by intro e;injection e with e;rcases hk.1 with h | h<;>omega)⟩).mono fun k hk=>⟨hk.1.imp id (fun h=>by omega),?_⟩)
  have:=HG5.out.size
  have h2:=hk.2
  simp [World.setCell]at this
  omega
 have HB1:=mk0 ((HB0.out _).trans (hb1.mono (HB0.out _).size))
 have hne:(tieRes l==0)=false:=beq_eq_false_iff_ne.2 h0
 have hR1:w1.heap[w.heap.size]? =some (.cells #[.slice none 0 0,.slice none 0 0,.slice none 0 0,.slice none 0 0,.slice none 0 0] 36 (0,0)):=(hb1.block w.heap.size (by simp)).trans (heap_alloc_new w _)
 have lR:=lt0 hR1
 have r0:=cl0 hR1 0 (x:=.slice none 0 0) rfl
 have r1:=cl0 hR1 1 (x:=.slice none 0 0) rfl
 have r2:=cl0 hR1 2 (x:=.slice none 0 0) rfl
 have r3:=cl0 hR1 3 (x:=.slice none 0 0) rfl
 have r4:=cl0 hR1 4 (x:=.slice none 0 0) rfl
 have f0:∀j,w1.frozen? ⟨w.heap.size,j,none⟩=false:=fun j=>zcf hR1 j
 have HN:=mk0 h0
 obtain ⟨hR5,hG5⟩:=set5 _ w.heap.size _ _ _ _ _ _ (.slice none 0 0) (.slice none 0 0) (.slice none 0 0) (.slice none 0 0) (.slice none 0 0) hR1
 have HR5:=mk0 hR5
 have HG5:=mk0 hG5
 clear hb1 h0 hR1 hR5 hG5
 generalize hte:tieRes l=te at*
 have HTE:=mk0 hte
 clear hte
 go_wp2_with fail
 generalize (((((w1.setCell ⟨w.heap.size,0,none⟩ (.slice none 0 0)).setCell ⟨w.heap.size,1,none⟩ (.slice none 0 0)).setCell ⟨w.heap.size,2,none⟩ (.slice none 0 0)).setCell ⟨w.heap.size,3,none⟩ (.slice none 0 0)).setCell ⟨w.heap.size,4,none⟩ (.slice none 0 0))=W9 at*
 have s0:=cl0 HR5.out 0 (x:=.slice none 0 0) rfl
 have s1:=cl0 HR5.out 1 (x:=.slice none 0 0) rfl
 have s2:=cl0 HR5.out 2 (x:=.slice none 0 0) rfl
 have s3:=cl0 HR5.out 3 (x:=.slice none 0 0) rfl
 have s4:=cl0 HR5.out 4 (x:=.slice none 0 0) rfl
 exact bodyPost_ret (v:=.tuple #[nilLk,.int .i64 te]) (by simp [results,Tryz.results49,go_sem,s0,s1,s2,s3,s4,nilLk]) rfl ⟨bg0 HB1.out HG5.out (Nat.le_refl _),Or.inr ⟨by rw [HTE.out];exact HN.out,by rw [HTE.out]⟩⟩
def okLk (d:LinkD):Bool:=decide (tieRes d.classes=0)&&makesB d.classes d
def inB (d:LinkD) (n:Int):Bool:=decide (0<=n)&&decide (n<d.classes.length)
def chkRes (d:LinkD) (ns:List Int):Int:=if okLk d=true then (if ns.all (inB d)=true then 0 else 3) else 4
theorem Web.web' {B:Nat} {w:World} {b:Nat} {l:List ClassD} {vC vS vF vN vT vL:Value} {Bm:Nat} (h:Web B w b l vC vS vF vN vT vL Bm):Web w.heap.size w b l vC vS vF vN vT vL Bm:=
 have hl:∀k,k<B->k<w.heap.size:=fun _ hk=>Nat.lt_of_lt_of_le hk h.le
 ⟨hl _ h.bB,hl _ h.mB,Nat.le_refl _,h.blk,h.sC.monoC hl,h.sS.monoI hl,h.sF.monoSl hl fun _ _ h=>h,h.sN.monoSl hl fun _ _ h=>h,h.sT.monoSl hl fun _ _ h=>h,h.sL.monoSl hl fun _ _ h=>h,h.nm⟩
theorem RLk.agg {M:Nat->Prop} {w:World} {kC kS kF kN kT:Value} {d:LinkD} (h:RLk M w kC kS kF kN kT d):∃aC cC aS cS aF cF aN cN aT cT,kC=.slice aC d.classes.length cC/\kS=.slice aS d.supers.length cS/\kF=.slice aF d.fields.length cF/\kN=.slice aN d.names.length cN/\kT=.slice aT d.targets.length cT:=by
 obtain ⟨⟨aC,cC,e1,-⟩,⟨aS,cS,e2,-⟩,⟨aF,cF,e3,-⟩,⟨aN,cN,e4,-⟩,⟨aT,cT,e5,-⟩⟩:=h
 exact ⟨_,_,_,_,_,_,_,_,_,_,e1,e2,e3,e4,e5⟩
theorem zkc (w:World) (B:Nat) (kC kS kF kN kT:Value) (d:LinkD) (hk:RLk (· <B) w kC kS kF kN kT d) (hB:B<=w.heap.size) (M:Nat->Prop) (vn:Value) (ns:List Int) (hn:SL 1 RI M w vn ns):
 Calls Tryz.prog 166 #[.agg #[kC,kS,kF,kN,kT],vn] w fun r w'=>Below w.heap.size w w'/\
  ((chkRes d ns=0/\okLk d=true/\∃b vS vF vN vT vL Bm,r=.returned (.pointer (some ⟨b,0,none⟩))/\Web w'.heap.size w' b d.classes kC vS vF vN vT vL Bm)\/(chkRes d ns≠0/\r=.panicked [wrongV (chkRes d ns) 0])):=by
 have HK:=mk0 hk
 have HNS:=mk0 hn
 obtain ⟨aC,cC,aS,cS,aF,cF,aN,cN,aT,cT,rfl,rfl,rfl,rfl,rfl⟩:=hk.agg
 obtain ⟨an,cn,rfl,-,hll,-⟩:=hn
 unfold maxLen at hll
 have HB0:=mk0 (fun o=>(Below.refl w.heap.size w).alloc (Nat.le_refl _) o)
 have hll2:d.classes.length<=9223372036854775807:=by obtain ⟨a,c,-,-,h,-⟩:=hk.C;unfold maxLen at h;omega
 clear hk
 go_enter Tryz.func166,Tryz.ntmps166
 go_wp2_with fail
 refine (zjv _ B d.classes _ (HK.out.C.keptC (Kp.below ((HB0.out _).mono hB))) (Nat.le_trans hB (HB0.out _).size)).mono ?_
 rintro r w1 ⟨hb1,⟨h0,p,rfl,b,vS,vF,vN,vT,vL,Bm,rfl,hle,hweb⟩ | ⟨h0,rfl⟩⟩
 ·
  have hR1:w1.heap[w.heap.size]? =some (.cells #[.slice aC d.classes.length cC,.slice aS d.supers.length cS,.slice aF d.fields.length cF,.slice aN d.names.length cN,.slice aT d.targets.length cT] 36 (0,0)):=(hb1.block w.heap.size (by simp)).trans (heap_alloc_new w _)
  have hB1:Below w.heap.size w w1:=(HB0.out _).trans (hb1.mono (HB0.out _).size)
  have HB1:=mk0 hB1
  have HW:=mk0 hweb.web
  have hz1:=lt0 hR1
  have r0:=cl0 hR1 0 (x:=.slice aC d.classes.length cC) rfl
  have r1:=cl0 hR1 1 (x:=.slice aS d.supers.length cS) rfl
  have r2:=cl0 hR1 2 (x:=.slice aF d.fields.length cF) rfl
  have r3:=cl0 hR1 3 (x:=.slice aN d.names.length cN) rfl
  have r4:=cl0 hR1 4 (x:=.slice aT d.targets.length cT) rfl
  have HR1:=mk0 hR1
  have HMK:=mk0 (zem w1 w1.heap.size b d.classes _ _ _ _ _ _ Bm hweb.web _ _ _ _ _ d ((HK.out.kept (Kp.below (hB1.mono hB))).mono fun k hk=>Nat.lt_of_lt_of_le hk (Nat.le_trans hB hB1.size)))
  have HOK:Hid (okLk d=makesB d.classes d):=by show okLk d=_;simp [okLk,h0]
  clear hb1 hweb h0 hB1 hR1
  generalize makesB d.classes d=mk at*
  cases mk with
  | false=>
    have HR:Hid (chkRes d ns=4):=by show chkRes d ns=4;rw [chkRes,HOK.out];rfl
    go_wp2_with (go_at_call 216;refine HMK.out.mono ?_;rintro r w2 ⟨rfl,hb2⟩)
    refine (dm0 _ _ _).mono ?_
    rintro r w3 ⟨rfl,⟨hb,rfl⟩ | ⟨hb,rfl⟩⟩
    ·
     exact ⟨rfl,HB1.out.trans (hb2.mono HB1.out.size),Or.inr ⟨by rw [HR.out];decide,by rw [HR.out]⟩⟩
    exact absurd hb (by simp)
  | true=>
    go_wp2_with (go_at_call 216;refine HMK.out.mono ?_;rintro r w2 ⟨rfl,hb2⟩)
    refine (dm0 _ _ _).mono ?_
    rintro r w3 ⟨rfl,⟨hb,rfl⟩ | ⟨hb,rfl⟩⟩
    ·
     exact absurd hb (by simp)
    clear hb
    have HW2:=mk0 (((HW.out.below hb2).web'))
    have HB2:=mk0 (HB1.out.trans (hb2.mono HB1.out.size))
    have k0:=(hb2.cell (p:=⟨w.heap.size,0,none⟩) hz1).trans r0
    have lz2:w.heap.size<w3.heap.size:=Nat.lt_of_lt_of_le hz1 hb2.size
    have HRS:Hid (chkRes d ns=if ns.all (inB d)=true then 0 else 3):=by show chkRes d ns=_;rw [chkRes,if_pos HOK.out]
    clear r0 r1 r2 r3 r4 hb2 HMK HR1 HW hz1
    go_wp2_with fail
    go_loopw [25] (fun i wr=>∃k:Nat,k<=ns.length/\i=.int .i64 k/\wr=w3/\Hid (ns.all (inB d)=(ns.drop k).all (inB d))) (fun i _=>ns.length - (intOf i).toNat)
    case atStart=>exact ⟨0,Nat.zero_le _,rfl,rfl,rfl⟩
    case round=>
     obtain ⟨k,hk,rfl,rfl,HQ⟩:=hrel
     by_cases hlt:k<ns.length
     ·
      obtain ⟨bn,on,rfl,hbn,en⟩:=(HNS.out.keptI ⟨HB2.out.size,fun q _ hq=>HB2.out.block q hq⟩).atI k hlt
      have HST:Hid ((ns.drop k).all (inB d)=(inB d ns[k]&&(ns.drop (k+1)).all (inB d))):=by show _=_;rw [List.drop_eq_getElem_cons hlt,List.all_cons]
      generalize ns[k]=n at*
      have h00:(0:Int)<=k:=by omega
      have h01:(k:Int)<ns.length:=by omega
      by_cases hn0:0<=n
      ·
       by_cases hn1:n<d.classes.length
       ·
        have HR:Hid (ns.all (inB d)=(ns.drop (k+1)).all (inB d)):=HQ.out.trans (HST.out.trans (by simp [inB,hn0,hn1]))
        go_wp2_with fail
        refine (dm0 _ _ _).mono ?_
        rintro r w4 ⟨rfl,⟨hb,rfl⟩ | ⟨hb,rfl⟩⟩
        ·
         exact absurd hb (by simp<;>omega)
        clear hb
        go_wp2_with fail
        go_roundw
        case rel=>exact ⟨k+1,by omega,by go_num,(by first | rfl | trivial),HR.out⟩
        case measure=>simp [intOf];omega
       have HR:Hid (chkRes d ns=3):=HRS.out.trans (by rw [HQ.out,HST.out];simp [inB,hn1])
       go_wp2_with fail
       refine (dm0 _ _ _).mono ?_
       rintro r w4 ⟨rfl,⟨hb,rfl⟩ | ⟨hb,rfl⟩⟩
       ·
        exact ⟨rfl,HB2.out,Or.inr ⟨by rw [HR.out];decide,by rw [HR.out]⟩⟩
       exact absurd hb (by simp<;>omega)
      have HR:Hid (chkRes d ns=3):=HRS.out.trans (by rw [HQ.out,HST.out];simp [inB,hn0])
      go_wp2_with fail
      refine (dm0 _ _ _).mono ?_
      rintro r w4 ⟨rfl,⟨hb,rfl⟩ | ⟨hb,rfl⟩⟩
      ·
       exact ⟨rfl,HB2.out,Or.inr ⟨by rw [HR.out];decide,by rw [HR.out]⟩⟩
      exact absurd hb (by simp<;>omega)
     have HR:Hid (chkRes d ns=0):=HRS.out.trans (by rw [HQ.out,List.drop_of_length_le (by omega)];rfl)
     go_wp2_with fail
     go_ret
     exact ⟨HB2.out,Or.inl ⟨HR.out,HOK.out,_,_,_,_,_,_,_,rfl,HW2.out⟩⟩
 have hB1:=mk0 ((HB0.out (.cells #[.slice aC d.classes.length cC,.slice aS d.supers.length cS,.slice aF d.fields.length cF,.slice aN d.names.length cN,.slice aT d.targets.length cT] 36)).trans (hb1.mono (HB0.out _).size))
 have HR:Hid (chkRes d ns=4):=by
  show chkRes d ns=4
  have:okLk d=false:=by simp [okLk,h0]
  rw [chkRes,this]
  rfl
 have hne:(tieRes d.classes==0)=false:=beq_eq_false_iff_ne.2 h0
 clear hb1 h0
 generalize tieRes d.classes=te at*
 go_wp2_with fail
 refine (dm0 _ _ _).mono ?_
 rintro r w3 ⟨rfl,⟨hb,rfl⟩ | ⟨hb,rfl⟩⟩
 ·
  exact ⟨rfl,hB1.out,Or.inr ⟨by rw [HR.out];decide,by rw [HR.out]⟩⟩
 exact absurd hb (by simp)
theorem nilSL0 (M:Nat->Prop) (w:World):SL 1 RI M w (.slice none 0 0) []:=⟨none,0,rfl,Nat.le_refl _,by unfold maxLen;simp,fun k hk=>by cases hk⟩
theorem zlt (w:World) (B P:Nat) (kC kS kF kN kT:Value) (d:LinkD) (hk:RLk (· <B) w kC kS kF kN kT d) (hB:B<=w.heap.size) (hP:w.heap[P]? =some (.cells #[kC,kS,kF,kN,kT] 36 (0,0))):
 Calls Tryz.prog 165 #[.pointer (some ⟨P,0,none⟩)] w fun r w'=>ChkOut (chkRes d []) r/\Below w.heap.size w w':=by
 have HCK:=mk0 (zkc w B kC kS kF kN kT d hk hB (fun _=>True) _ [] (nilSL0 _ _))
 have hPl:=lt0 hP
 have c0:=cl0 hP 0 (x:=kC) rfl
 have c1:=cl0 hP 1 (x:=kS) rfl
 have c2:=cl0 hP 2 (x:=kF) rfl
 have c3:=cl0 hP 3 (x:=kN) rfl
 have c4:=cl0 hP 4 (x:=kT) rfl
 obtain ⟨aC,cC,aS,cS,aF,cF,aN,cN,aT,cT,rfl,rfl,rfl,rfl,rfl⟩:=hk.agg
 clear hk hP
 go_enter Tryz.func165,Tryz.ntmps165
 go_wp2_with fail
 refine HCK.out.mono ?_
 rintro r w1 ⟨hb,⟨h0,-,b,vS,vF,vN,vT,vL,Bm,rfl,-⟩ | ⟨h0,rfl⟩⟩
 ·
  have HC:=mk0 h0
  have HB:=mk0 hb
  clear h0 hb c0 c1 c2 c3 c4
  go_wp2_with fail
  go_end0
  exact ⟨Or.inr ⟨HC.out,rfl⟩,HB.out⟩
 exact ⟨rfl,Or.inl ⟨h0,rfl⟩,hb⟩
theorem callLCheck1 (args:Array Value) (w:World):(callFunc 165 args).run Tryz.prog w=.ok (.enter 165 args) w:=by kernel_rfl
theorem zlu (w:World) (B:Nat) (kC kS kF kN kT:Value) (d:LinkD) (hk:RLk (· <B) w kC kS kF kN kT d) (hB':B<=w.heap.size):
 Calls Tryz.prog 104 #[.agg #[kC,kS,kF,kN,kT]] w fun r w'=>r=.returned (.int .i64 (chkRes d []))/\Below w.heap.size w w':=by
 have hmf:=mkf Tryz.prog
 have HK:=mk0 hk
 obtain ⟨aC,cC,aS,cS,aF,cF,aN,cN,aT,cT,rfl,rfl,rfl,rfl,rfl⟩:=hk.agg
 clear hk
 have hB0:=(Below.refl w.heap.size w).alloc (Nat.le_refl _) (.cells #[.slice aC d.classes.length cC,.slice aS d.supers.length cS,.slice aF d.fields.length cF,.slice aN d.names.length cN,.slice aT d.targets.length cT] 36)
 have hB1:=hB0.alloc hB0.size (.cells #[.int .i64 0,.int .i64 0] 84)
 go_enter Tryz.func104,Tryz.ntmps104
 go_wp2_with fail
 refine (zb6 165 _ _ (fun w1=>chkRes d []=0/\Below w.heap.size w w1) (fun e p w1=>chkRes d []=e/\Below w.heap.size w w1) (callLCheck1 _) ?hc).mono ?_
 case hc=>
  refine (zlt _ B w.heap.size _ _ _ _ _ d (HK.out.kept (Kp.below (hB1.mono hB'))) (Nat.le_trans hB' hB1.size) ((Below.heap_alloc _ _ _ (by simp)).trans (heap_alloc_new w _))).mono ?_
  rintro r w1 ⟨hr,hb⟩
  have hb':=hB1.trans (hb.mono hB1.size)
  refine ⟨?_,?_⟩
  ·
   rw [hb.block (w.alloc (.cells #[.slice aC d.classes.length cC,.slice aS d.supers.length cS,.slice aF d.fields.length cF,.slice aN d.names.length cN,.slice aT d.targets.length cT] 36)).heap.size (by simp)]
   exact heap_alloc_new _ _
  rcases hr with ⟨hc,rfl⟩ | ⟨hc,rfl⟩
  ·
   exact Or.inr ⟨_,_,rfl,rfl,hb'⟩
  exact Or.inl ⟨rfl,hc,hb'⟩
 rintro r w2 ⟨w1,hg,hr⟩
 have hz:(w.alloc (.cells #[.slice aC d.classes.length cC,.slice aS d.supers.length cS,.slice aF d.fields.length cF,.slice aN d.names.length cN,.slice aT d.targets.length cT] 36)).heap.size=w.heap.size+1:=by simp
 rw [hz]at hg
 clear hB0 hB1 hz
 rcases hr with ⟨rfl,hc,hB⟩ | ⟨e,p,rfl,hc,hB⟩
 ·
  have HC:=mk0 hc
  have HB:=mk0 (bg0 hB hg (by omega))
  clear hc hg hB hmf hB' HK
  have hfd:=fieldErr
  go_wp2
  go_ret
  exact ⟨by rw [HC.out];rfl,HB.out⟩
 have HC:=mk0 hc
 have HB:=mk0 (bg0 hB hg (by omega))
 clear hc hg hB hmf hB' HK
 have hfd:=fieldErr
 go_wp2
 go_ret
 exact ⟨by rw [HC.out];rfl,HB.out⟩
def baseD:List ClassD:=[⟨⟨#[79,98,106,101,99,116]⟩,⟨#[]⟩,[],[⟨⟨#[109,97,105,110]⟩,true,[],⟨0,⟨#[]⟩⟩,2,0,⟨#[1,0,7,31,27]⟩,[]⟩]⟩,
 ⟨⟨#[69,114,114,111,114]⟩,⟨#[79,98,106,101,99,116]⟩,[⟨⟨#[99,111,100,101]⟩,⟨1,⟨#[]⟩⟩⟩],[]⟩]
theorem znx:tieRes baseD=0:=by kernel_rfl
theorem znz (w:World):Calls Tryz.prog 50 #[] w fun r w'=>Below w.heap.size w w'/\∃v,r=.returned v/\SL 4 RC (· <w'.heap.size) w' v baseD:=by
 go_enter Tryz.func50,Tryz.ntmps50
 go_wp2
 go_ret
 refine ⟨((((Below.refl _ _).alloc (Nat.le_refl _) _).alloc (by simp) _).alloc (by simp;omega) _),_,rfl,?_⟩
 refine ⟨_,_,rfl,Nat.le_refl _,by unfold maxLen;simp [baseD],fun k hk=>?_⟩
 have hk2:k<2:=hk
 match k,hk2 with
 | 0,_=>
   refine ⟨_,_,[.string ⟨#[79,98,106,101,99,116]⟩,.string ⟨#[]⟩,.slice none 0 0,.slice (some ⟨w.heap.size,0,none⟩) 1 1],rfl,by simp,by simp,rfl,fun j hj=>?_,?_⟩
   ·
    match j,hj with
    | 0,_=>simp [go_sem]
    | 1,_=>simp [go_sem]
    | 2,_=>simp [go_sem]
    | 3,_=>simp [go_sem]
   refine ⟨_,_,rfl,⟨none,0,rfl,Nat.le_refl _,Nat.zero_le _,fun k hk=>by cases hk⟩,⟨some ⟨w.heap.size,0,none⟩,1,rfl,Nat.le_refl _,by unfold maxLen;simp [baseD],fun k hk=>?_⟩,of_decide_eq_true (by kernel_rfl),of_decide_eq_true (by kernel_rfl)⟩
   have hk0:k<1:=hk
   match k,hk0 with
   | 0,_=>
     refine ⟨_,_,[.string ⟨#[109,97,105,110]⟩,.bool true,.slice none 0 0,.int .i64 0,.string ⟨#[]⟩,.int .i64 2,.int .i64 0,.string ⟨#[1,0,7,31,27]⟩,.slice none 0 0],rfl,by simp;omega,by simp;omega,rfl,fun j hj=>?_,?_⟩
     ·
      match j,hj with
      | 0,_=>simp [go_sem]
      | 1,_=>simp [go_sem]
      | 2,_=>simp [go_sem]
      | 3,_=>simp [go_sem]
      | 4,_=>simp [go_sem]
      | 5,_=>simp [go_sem]
      | 6,_=>simp [go_sem]
      | 7,_=>simp [go_sem]
      | 8,_=>simp [go_sem]
     exact ⟨_,_,rfl,⟨none,0,rfl,Nat.le_refl _,Nat.zero_le _,fun k hk=>by cases hk⟩,⟨none,0,rfl,Nat.le_refl _,Nat.zero_le _,fun k hk=>by cases hk⟩,of_decide_eq_true (by kernel_rfl),of_decide_eq_true (by kernel_rfl),of_decide_eq_true (by kernel_rfl)⟩
 | 1,_=>
   refine ⟨_,_,[.string ⟨#[69,114,114,111,114]⟩,.string ⟨#[79,98,106,101,99,116]⟩,.slice (some ⟨w.heap.size+1,0,none⟩) 1 1,.slice none 0 0],rfl,by simp,by simp,rfl,fun j hj=>?_,?_⟩
   ·
    match j,hj with
    | 0,_=>simp [go_sem]
    | 1,_=>simp [go_sem]
    | 2,_=>simp [go_sem]
    | 3,_=>simp [go_sem]
   refine ⟨_,_,rfl,⟨some ⟨w.heap.size+1,0,none⟩,1,rfl,Nat.le_refl _,by unfold maxLen;simp [baseD],fun k hk=>?_⟩,⟨none,0,rfl,Nat.le_refl _,Nat.zero_le _,fun k hk=>by cases hk⟩,of_decide_eq_true (by kernel_rfl),of_decide_eq_true (by kernel_rfl)⟩
   have hk0:k<1:=hk
   match k,hk0 with
   | 0,_=>
     refine ⟨_,_,[.string ⟨#[99,111,100,101]⟩,.int .i64 1,.string ⟨#[]⟩],rfl,by simp,by simp,rfl,fun j hj=>?_,?_⟩
     ·
      match j,hj with
      | 0,_=>simp [go_sem]
      | 1,_=>simp [go_sem]
      | 2,_=>simp [go_sem]
     exact ⟨rfl,of_decide_eq_true (by kernel_rfl),of_decide_eq_true (by kernel_rfl)⟩
end Go.Proofs.YtjdnmblggdobgaaGreat
