import Derived.Test.YtjdnmblggdobgaaGreatJTk2Dies
import Derived.Test.YtjdnmblggdobgaaGreatJLNoneLSaD
import Derived.Test.YtjdnmblggdobgaaGreatJLSetLQs
import Derived.Deep.RegionHeld3
import Derived.Deep.RegionLaw
import Derived.Deep.DeepCutAuto
import Derived.Test.YtjdnmblggdobgaaGreatLDif
set_option maxHeartbeats 16000000
set_option maxRecDepth 100000
namespace Go.Proofs.YtjdnmblggdobgaaGreat
open Go.RowKit Go.Maps
theorem zjf (w:World) (B b:Nat) (l:List ClassD) (vC vS vF vN vT vL:Value) (Bm:Nat) (hw:Web B w b l vC vS vF vN vT vL Bm) (n:Nat) (hn:n<l.length) (u:Value) (m:MethD) (hu:ElM B w u m):
 Calls Tryz.prog 255 #[.pointer (some ⟨b,0,none⟩),.int .i64 n,u] w fun r w'=>r=.returned (.bool (standB l n m))/\Below w.heap.size w w':=by
 obtain ⟨ao,ca,ho,ch,rfl,ea,-,es1,-,-⟩:=hu
 have hle:=hw.le
 have hlN:((List.range l.length).map (namesOf l)).length=l.length:=by simp
 have hlT:((List.range l.length).map (targetsOf l)).length=l.length:=by simp
 have c0:=hw.cell0
 have c3:=cl0 hw.blk 3 (x:=vN) rfl
 have c4:=cl0 hw.blk 4 (x:=vT) rfl
 have hbl:=lt0 hw.blk
 have hsC:=hw.sC
 obtain ⟨aC,cC,hvC,-⟩:=hw.sC
 obtain ⟨aN,cN,hvN,-⟩:=hw.sN
 obtain ⟨aT,cT,hvT,-⟩:=hw.sT
 rw [hlN]at hvN
 rw [hlT]at hvT
 subst hvC hvN hvT
 obtain ⟨bN,oN,aL,cL,rfl,hbN,e1,sL⟩:=hw.sN.atSl n (by omega)
 obtain ⟨bT,oT,aU,cU,rfl,hbT,e2,sU⟩:=hw.sT.atSl n (by omega)
 have g1:((List.range l.length).map (namesOf l))[n]'(by omega)=namesOf l n:=by simp
 have g2:((List.range l.length).map (targetsOf l))[n]'(by omega)=targetsOf l n:=by simp
 rw [g1]at e1 sL
 rw [g2]at e2 sU
 clear g1 g2 hlN hlT hw
 have h00:(0:Int)<=n:=by omega
 have h01:(n:Int)<l.length:=by omega
 have HB0:Hid (∀o k,Below w.heap.size w ((w.alloc o).drewN k)):=fun o k=>zdq ((Below.refl w.heap.size w).alloc (Nat.le_refl _) o) k
 have HI:Hid (∀o k,Calls Tryz.prog 234 #[.slice aL (namesOf l n).length cL,.string m.name] ((w.alloc o).drewN k) fun r w'=>r=.returned (.int .i64 (idxS (namesOf l n) m.name))/\w'=(w.alloc o).drewN k):=fun o k=>zfx _ (· <B) _ _ m.name (sL.keptS (Kp.below ((HB0.out o k).mono hle)))
 have hix:=zhf (namesOf l n) m.name
 have HTL:=mk0 (zi0 l n)
 by_cases hneg:idxS (namesOf l n) m.name<0
 ·
  have HR:=mk0 (zi2 hneg)
  have hge: -1<=idxS (namesOf l n) m.name:=by unfold idxS;split<;>omega
  generalize idxS (namesOf l n) m.name=ix at*
  generalize (namesOf l n).length=nl at*
  clear ea sL sU e2 hix HTL
  go_enter Tryz.func255,Tryz.ntmps255
  go_wp2_with fail
  go_quiet (first | (go_at_call 234;exact Calls.quiet_of_same (HI.out _ _)))
  go_wp2_with fail
  go_ret
  exact ⟨by rw [HR.out];rfl,HB0.out _ _⟩
 obtain ⟨k,hk⟩:=Int.eq_ofNat_of_zero_le (by omega:0<=idxS (namesOf l n) m.name)
 have hkt:k<(targetsOf l n).length:=by rw [<-zi0 l n];omega
 obtain ⟨c,j,ht,hc,hj⟩:=ziz hn _ (List.getElem_mem hkt)
 have HR:=mk0 (zi3 hk hkt ht hj)
 obtain ⟨bt,ot,rfl,hbt,t0,t1⟩:=sU.atT k hkt
 rw [ht]at t0 t1
 obtain ⟨bc,oc,vf,vm,rfl,hbc,-,-,-,d3,-,em,-,-⟩:=hsC.atC c hc
 rw [<-zay hc]at em
 have EM:=mk0 em
 obtain ⟨mo,cm,rfl,-⟩:=em
 obtain ⟨by_,oy,va,vh,rfl,hby,y0,y1,y2,y3,y4,y5,y6,y7,y8,sa,sh,-,-,-⟩:=EM.out.atM j hj
 have HSA:=mk0 sa
 obtain ⟨aa2,ca2,rfl,-⟩:=sa
 obtain ⟨ah2,ch2,rfl,-⟩:=sh
 have HEQ:Hid (∀W,Below w.heap.size w W->Calls Tryz.prog 302 #[.slice ao m.args.length ca,.slice aa2 (clsAt l c).meths[j].args.length ca2] W fun r w'=>r=.returned (.bool (eqL sameK m.args (clsAt l c).meths[j].args))/\∃n,w'=W.drewN n):=fun W hW=>zef W (· <B) (· <B) _ _ _ _ (ea.keptK (Kp.below (hW.mono hle))) (HSA.out.keptK (Kp.below (hW.mono hle)))
 have hke:=kindEql m.ret.kind (clsAt l c).meths[j].ret.kind m.ret.cls (clsAt l c).meths[j].ret.cls
 have hkg:=kindGuard
 rw [zed]at hke
 have hcm:(0:Int)<=j:=by omega
 have hcm1:(j:Int)<(clsAt l c).meths.length:=by omega
 have hc0:(0:Int)<=c:=by omega
 have hc1:(c:Int)<l.length:=by omega
 have hk0:(0:Int)<=k:=by omega
 have hk1:(k:Int)<(targetsOf l n).length:=by omega
 have hkn:¬((k:Int)<0):=by omega
 have hB:=mk0 (show ∀x:Nat,w.heap.size<=w.heap.size+x from fun x=>by omega)
 rw [hk]at HI
 clear sL sU ht ea EM HSA hsC hneg hk hix HTL hkt
 generalize (clsAt l c).meths[j]=y at*
 generalize (clsAt l c).meths.length=ml at*
 generalize (targetsOf l n).length=tl at*
 generalize (namesOf l n).length=nl at*
 generalize eqL sameK m.args y.args=ek at*
 have HKE:Hid (sameK (⟨m.ret.kind,m.ret.cls⟩:KindD) ⟨y.ret.kind,y.ret.cls⟩=sameK m.ret y.ret):=rfl
 rw [HKE.out]at hke
 clear HKE
 generalize sameK m.ret y.ret=er at*
 generalize m.static=sx at*
 generalize y.static=sy at*
 go_enter Tryz.func255,Tryz.ntmps255
 go_wp2_with fail
 go_quiet (first | (go_at_call 234;exact Calls.quiet_of_same (HI.out _ _)))
 go_wp2_with fail
 generalize hW5:((w.alloc (.cells #[.string m.name,.bool sx,.slice ao m.args.length ca,.int .i64 m.ret.kind,.string m.ret.cls,.int .i64 m.stack,.int .i64 m.locals,.string m.code,.slice ho m.hands.length ch] 159)).drewN nq).alloc (.cells #[.int .i64 c,.int .i64 j] 233)=W5
 have hB5:Below w.heap.size w W5:=hW5 ▸ (HB0.out _ _).alloc (by show w.heap.size<=(w.alloc _).heap.size;simp) _
 have hX:W5.heap[w.heap.size]? =some (.cells #[.string m.name,.bool sx,.slice ao m.args.length ca,.int .i64 m.ret.kind,.string m.ret.cls,.int .i64 m.stack,.int .i64 m.locals,.string m.code,.slice ho m.hands.length ch] 159 (0,0)):=by rw [<-hW5];exact (Below.heap_alloc _ _ _ (by show w.heap.size<(w.alloc _).heap.size;simp)).trans (heap_alloc_new w _)
 have hY:W5.heap[w.heap.size+1]? =some (.cells #[.int .i64 c,.int .i64 j] 233 (0,0)):=by
  have:=heap_alloc_new ((w.alloc (.cells #[.string m.name,.bool sx,.slice ao m.args.length ca,.int .i64 m.ret.kind,.string m.ret.cls,.int .i64 m.stack,.int .i64 m.locals,.string m.code,.slice ho m.hands.length ch] 159)).drewN nq) (.cells #[.int .i64 c,.int .i64 j] 233)
  rw [hW5]at this
  have e:((w.alloc (.cells #[.string m.name,.bool sx,.slice ao m.args.length ca,.int .i64 m.ret.kind,.string m.ret.cls,.int .i64 m.stack,.int .i64 m.locals,.string m.code,.slice ho m.hands.length ch] 159)).drewN nq).heap.size=w.heap.size+1:=by show (w.alloc _).heap.size=_;simp
  rwa [e]at this
 clear hW5
 have x1:=cl0 hX 1 (x:=.bool sx) rfl
 have x2:=cl0 hX 2 (x:=.slice ao m.args.length ca) rfl
 have x3:=cl0 hX 3 (x:=.int .i64 m.ret.kind) rfl
 have x4:=cl0 hX 4 (x:=.string m.ret.cls) rfl
 have u0:=cl0 hY 0 (x:=.int .i64 c) rfl
 have u1:=cl0 hY 1 (x:=.int .i64 j) rfl
 have lX:=lt0 hX
 have lY:=lt0 hY
 have q0:=(hB5.cell (p:=⟨b,0,none⟩) hbl).trans c0
 have q3:=(hB5.cell (p:=⟨bc,oc+c*4+3,none⟩) hbc).trans d3
 have z0:=(hB5.cell (p:=⟨by_,oy+j*9,none⟩) hby).trans y0
 have z1:=(hB5.cell (p:=⟨by_,oy+j*9+1,none⟩) hby).trans y1
 have z2:=(hB5.cell (p:=⟨by_,oy+j*9+2,none⟩) hby).trans y2
 have z3:=(hB5.cell (p:=⟨by_,oy+j*9+3,none⟩) hby).trans y3
 have z4:=(hB5.cell (p:=⟨by_,oy+j*9+4,none⟩) hby).trans y4
 have z5:=(hB5.cell (p:=⟨by_,oy+j*9+5,none⟩) hby).trans y5
 have z6:=(hB5.cell (p:=⟨by_,oy+j*9+6,none⟩) hby).trans y6
 have z7:=(hB5.cell (p:=⟨by_,oy+j*9+7,none⟩) hby).trans y7
 have z8:=(hB5.cell (p:=⟨by_,oy+j*9+8,none⟩) hby).trans y8
 have lb:b<W5.heap.size:=Nat.lt_of_lt_of_le hbl hB5.size
 have lc:bc<W5.heap.size:=Nat.lt_of_lt_of_le hbc hB5.size
 have ly:by_<W5.heap.size:=Nat.lt_of_lt_of_le hby hB5.size
 have HB5:=mk0 hB5
 clear hX hY hB5 y0 y1 y2 y3 y4 y5 y6 y7 y8 d3 c0 c3 c4 e1 e2 t0 t1 hbl hbN hbT hbt hbc hby HI HB0 hB
 go_region_held3 (fun W'=>∀p:Addr,p.block<W5.heap.size->W'.cell? p=W5.cell? p) (exact fun p hp=>Below.cell (B:=W5.heap.size) (w:=W5) (by repeat (first | exact Below.refl _ _ | refine Below.drew ?_ | refine Below.alloc ?_ (by simp<;>omega) _ | refine Below.setCell ?_ (by simp) _)) hp) (fail)
 have HB6:Hid (∀o q,Below w.heap.size w ((W5.alloc o).drewN q)):=fun o q=>zdq (HB5.out.alloc HB5.out.size o) q
 have HE6:Hid (∀o,Calls Tryz.prog 302 #[.slice ao m.args.length ca,.slice aa2 y.args.length ca2] (W5.alloc o).drew fun r w'=>r=.returned (.bool ek)/\∃n,w'=(W5.alloc o).drewN n):=fun o=>(HEQ.out (W5.alloc o).drew (HB6.out o 1)).mono fun _ _ ⟨h,n,e⟩=>⟨h,1+n,by rw [e];simp [World.drewN,World.drew,Nat.add_assoc]⟩
 clear HEQ HB5
 rename_i hS1
 clear hS1
 cases sx with
 | true=>
   go_wp2_with fail
   go_ret
   exact ⟨by rw [HR.out];rfl,HB6.out _ 1⟩
 | false=>
   cases sy with
   | true=>
     go_wp2_with fail
     go_ret
     exact ⟨by rw [HR.out];rfl,HB6.out _ 1⟩
   | false=>
     cases er with
     | false=>
       go_wp2_with fail
       go_ret
       exact ⟨by rw [HR.out];rfl,HB6.out _ 1⟩
     | true=>
       go_wp2_with (go_at_call 302;refine (HE6.out _).mono ?_;rintro r w9 ⟨rfl,n9,rfl⟩)
       go_ret
       exact ⟨by rw [HR.out];simp,HB6.out _ n9⟩
theorem zjg (w:World) (B b P I:Nat) (l:List ClassD) (vC vS vF vN vT vL:Value) (Bm:Nat) (hw:Web B w b l vC vS vF vN vT vL Bm) (i n:Nat) (hi:i<l.length) (hs:supAt l i=n) (u:Value) (m:MethD) (hu:ElM B w u m)
 (hP:w.cell? ⟨P,0,none⟩=some (.pointer (some ⟨b,0,none⟩))) (hI:w.cell? ⟨I,0,none⟩=some (.int .i64 i)):
 Calls Tryz.prog 254 #[u,.pointer (some ⟨P,0,none⟩),.pointer (some ⟨I,0,none⟩)] w fun r w'=>r=.returned (.bool (standB l n m))/\Below w.heap.size w w':=by
 have hPl:=World.block_lt_of_cell? w _ hP
 have hIl:=World.block_lt_of_cell? w _ hI
 have hn:n<l.length:=by have:=(za2 l (clsAt l i).super).2;have e:supAt l i=num l (clsAt l i).super:=rfl;omega
 have hbl:=lt0 hw.blk
 have c1:=cl0 hw.blk 1 (x:=vS) rfl
 have hlS:((List.range l.length).map (supAt l)).length=l.length:=by simp
 have HM:Hid (∀W,Below w.heap.size w W->Calls Tryz.prog 255 #[.pointer (some ⟨b,0,none⟩),.int .i64 n,u] W fun r w'=>r=.returned (.bool (standB l n m))/\Below W.heap.size W w'):=fun W hW=>zjf W B b l vC vS vF vN vT vL Bm (hw.below (hW.mono hw.le)) n hn u m (hu.below (hW.mono hw.le))
 obtain ⟨aS,cS,hvS,-⟩:=hw.sS
 rw [hlS]at hvS
 subst hvS
 obtain ⟨bS,oS,rfl,hbS,e1⟩:=hw.sS.atI i (by omega)
 have g1:((List.range l.length).map (supAt l))[i]'(by omega)=supAt l i:=by simp
 rw [g1,hs]at e1
 obtain ⟨ao,ca,ho,ch,rfl,-⟩:=hu
 have h00:(0:Int)<=i:=by omega
 have h01:(i:Int)<l.length:=by omega
 clear hw hlS g1 hs hn
 generalize hV:standB l n m=rv at*
 clear hV
 go_enter Tryz.func254,Tryz.ntmps254
 go_wp2_with fail
 obtain ⟨W0,hW⟩:∃W0,W0=w.alloc (.cells #[.string m.name,.bool m.static,.slice ao m.args.length ca,.int .i64 m.ret.kind,.string m.ret.cls,.int .i64 m.stack,.int .i64 m.locals,.string m.code,.slice ho m.hands.length ch] 159):=⟨_,rfl⟩
 have hB1:Below w.heap.size w W0:=hW ▸ (Below.refl w.heap.size w).alloc (Nat.le_refl _) _
 have hX:W0.heap[w.heap.size]? =some (.cells #[.string m.name,.bool m.static,.slice ao m.args.length ca,.int .i64 m.ret.kind,.string m.ret.cls,.int .i64 m.stack,.int .i64 m.locals,.string m.code,.slice ho m.hands.length ch] 159 (0,0)):=hW ▸ heap_alloc_new w _
 rw [<-hW]
 clear hW
 have hne:Nonempty (Gr W0.heap.size W0):=⟨⟨W0,Below.refl _ _⟩⟩
 have HCX:Hid (∀g:Gr W0.heap.size W0,Calls Tryz.prog 255 #[.pointer (some ⟨b,0,none⟩),.int .i64 n,.agg #[.string m.name,.bool m.static,.slice ao m.args.length ca,.int .i64 m.ret.kind,.string m.ret.cls,.int .i64 m.stack,.int .i64 m.locals,.string m.code,.slice ho m.hands.length ch]] g.w fun e w''=>e=.returned (.bool rv)/\∃g':Gr W0.heap.size W0,w''=g'.w):=fun g=>Gr.calls g (Nat.le_refl _) (HM.out g.w (hB1.trans (g.ok.mono hB1.size)))
 have HBG:Hid (∀g:Gr W0.heap.size W0,Below w.heap.size w g.w):=fun g=>hB1.trans (g.ok.mono hB1.size)
 have k0:∀g:Gr W0.heap.size W0,g.w.cell? ⟨w.heap.size,0,none⟩=some (.string m.name):=fun g=>(g.ok.cell (p:=⟨w.heap.size,0,none⟩) (lt0 hX)).trans (cl0 hX 0 rfl)
 have k1:∀g:Gr W0.heap.size W0,g.w.cell? ⟨w.heap.size,1,none⟩=some (.bool m.static):=fun g=>(g.ok.cell (p:=⟨w.heap.size,1,none⟩) (lt0 hX)).trans (cl0 hX 1 rfl)
 have k2:∀g:Gr W0.heap.size W0,g.w.cell? ⟨w.heap.size,2,none⟩=some (.slice ao m.args.length ca):=fun g=>(g.ok.cell (p:=⟨w.heap.size,2,none⟩) (lt0 hX)).trans (cl0 hX 2 rfl)
 have k3:∀g:Gr W0.heap.size W0,g.w.cell? ⟨w.heap.size,3,none⟩=some (.int .i64 m.ret.kind):=fun g=>(g.ok.cell (p:=⟨w.heap.size,3,none⟩) (lt0 hX)).trans (cl0 hX 3 rfl)
 have k4:∀g:Gr W0.heap.size W0,g.w.cell? ⟨w.heap.size,4,none⟩=some (.string m.ret.cls):=fun g=>(g.ok.cell (p:=⟨w.heap.size,4,none⟩) (lt0 hX)).trans (cl0 hX 4 rfl)
 have k5:∀g:Gr W0.heap.size W0,g.w.cell? ⟨w.heap.size,5,none⟩=some (.int .i64 m.stack):=fun g=>(g.ok.cell (p:=⟨w.heap.size,5,none⟩) (lt0 hX)).trans (cl0 hX 5 rfl)
 have k6:∀g:Gr W0.heap.size W0,g.w.cell? ⟨w.heap.size,6,none⟩=some (.int .i64 m.locals):=fun g=>(g.ok.cell (p:=⟨w.heap.size,6,none⟩) (lt0 hX)).trans (cl0 hX 6 rfl)
 have k7:∀g:Gr W0.heap.size W0,g.w.cell? ⟨w.heap.size,7,none⟩=some (.string m.code):=fun g=>(g.ok.cell (p:=⟨w.heap.size,7,none⟩) (lt0 hX)).trans (cl0 hX 7 rfl)
 have k8:∀g:Gr W0.heap.size W0,g.w.cell? ⟨w.heap.size,8,none⟩=some (.slice ho m.hands.length ch):=fun g=>(g.ok.cell (p:=⟨w.heap.size,8,none⟩) (lt0 hX)).trans (cl0 hX 8 rfl)
 have kP:∀g:Gr W0.heap.size W0,g.w.cell? ⟨P,0,none⟩=some (.pointer (some ⟨b,0,none⟩)):=fun g=>((HBG.out g).cell (p:=⟨P,0,none⟩) hPl).trans hP
 have kI:∀g:Gr W0.heap.size W0,g.w.cell? ⟨I,0,none⟩=some (.int .i64 i):=fun g=>((HBG.out g).cell (p:=⟨I,0,none⟩) hIl).trans hI
 have kb:∀g:Gr W0.heap.size W0,g.w.cell? ⟨b,1,none⟩=some (.slice (some ⟨bS,oS,none⟩) l.length cS):=fun g=>((HBG.out g).cell (p:=⟨b,1,none⟩) hbl).trans c1
 have kS:∀g:Gr W0.heap.size W0,g.w.cell? ⟨bS,oS+i,none⟩=some (.int .i64 n):=fun g=>((HBG.out g).cell (p:=⟨bS,oS+i,none⟩) hbS).trans e1
 clear HM hX hB1 hP hI c1 e1
 refine zev W0.heap.size W0 (by kernel_rfl) (by kernel_rfl) (Below.refl _ _) ?_
 repeat (go_big_quiet_step (first | (exact HCX.out _)))
 refine wpQuiet_nil ?_
 intro _ hw'
 obtain ⟨g,rfl⟩:=hw'
 have HFIN:=mk0 (HBG.out g)
 generalize g.w=w2 at*
 clear k0 k1 k2 k3 k4 k5 k6 k7 k8 kP kI kb kS hne HCX HBG
 go_wp2_with fail
 go_ret
 exact ⟨rfl,HFIN.out⟩
theorem zjh (w:World) (B b:Nat) (l:List ClassD) (vC vS vF vN vT vL:Value) (Bm:Nat) (hw:Web B w b l vC vS vF vN vT vL Bm) (hsu:askSupers l=true):
 Calls Tryz.prog 211 #[.pointer (some ⟨b,0,none⟩)] w fun r w'=>r=.returned (.bool (askSame l))/\Below w.heap.size w w':=by
 have hmf:=mkf Tryz.prog
 have c0:=hw.cell0
 have hbl:=lt0 hw.blk
 have hle:=hw.le
 have HW:=mk0 hw
 have HV:=mk0 hw.sC
 have HSU:=mk0 hsu
 obtain ⟨ao,cl,rfl,-,hll,-⟩:=hw.sC
 unfold maxLen at hll
 have HB0:=mk0 (fun o=>(Below.refl w.heap.size w).alloc (Nat.le_refl _) o)
 clear hw hsu
 let step:Nat->Bool:=fun i=>decide ((clsAt l i).super=(⟨#[]⟩:ByteArray))||(clsAt l i).meths.all (standB l (supAt l i).toNat)
 have HST:Hid (askSame l=(List.range l.length).all step):=rfl
 go_enter Tryz.func211,Tryz.ntmps211
 go_wp2_with fail
 obtain ⟨W0,hW⟩:∃W0,W0=w.alloc (.cells #[.pointer (some ⟨b,0,none⟩)] 148):=⟨_,rfl⟩
 have HB1:Hid (Below w.heap.size w W0):=hW ▸ HB0.out _
 have hP0:W0.cell? ⟨w.heap.size,0,none⟩=some (.pointer (some ⟨b,0,none⟩)):=by rw [hW];simp [go_sem]
 have hPl:w.heap.size<W0.heap.size:=World.block_lt_of_cell? W0 _ hP0
 rw [<-hW]
 clear hW HB0
 go_loopw [11] (fun i wr=>∃k:Nat,k<=l.length/\i=.int .i64 k/\Hid ((∀j,j<k->step j=true)/\Below W0.heap.size W0 wr)) (fun i _=>l.length - (intOf i).toNat)
 case atStart=>exact ⟨0,Nat.zero_le _,rfl,(fun _ h=>by omega),Below.refl _ _⟩
 case round=>
  obtain ⟨k,hk,rfl,HQ⟩:=hrel
  have hsr:W0.heap.size<=wr.heap.size:=HQ.out.2.size
  have HBw:Hid (Below w.heap.size w wr):=HB1.out.trans (HQ.out.2.mono HB1.out.size)
  by_cases hlt:k<l.length
  ·
   obtain ⟨bc,oc,vf,vm,rfl,hbc,e0,e1,e2,e3,ef,em,es1,es2⟩:=(HV.out.keptC (Kp.below (HBw.out.mono hle))).atC k hlt
   have EM:=mk0 em
   obtain ⟨fo,cf,rfl,-⟩:=ef
   obtain ⟨mo,cm,rfl,-⟩:=em
   have HSP:Hid (step k=(decide (l[k].super=(⟨#[]⟩:ByteArray))||l[k].meths.all (standB l (supAt l k).toNat))):=by show step k=_;simp only [step,zay hlt]
   have h00:(0:Int)<=k:=by omega
   have h01:(k:Int)<l.length:=by omega
   have HUP:Hid (step k=true->∀w',Below wr.heap.size wr w'->(∀j,j<k+1->step j=true)/\Below W0.heap.size W0 w'):=fun h w' hb=>⟨fun j hj=>by
    by_cases hjk:j<k
    ·
     exact HQ.out.1 j hjk
    have:j=k:=by omega
    rw [this];exact h,HQ.out.2.trans (hb.mono hsr)⟩
   have HNO:Hid (step k=false->∀w',Below wr.heap.size wr w'->askSame l=false/\Below w.heap.size w w'):=fun h w' hb=>⟨by
    rw [HST.out,List.all_eq_false]
    exact ⟨k,List.mem_range.2 hlt,by simp [h]⟩,HBw.out.trans (hb.mono (Nat.le_trans HB1.out.size hsr))⟩
   have hBr:Hid (∀o o',Below wr.heap.size wr ((wr.alloc o).alloc o')):=fun o o'=>((Below.refl _ _).alloc (Nat.le_refl _) o).alloc (by simp) o'
   have hP0r:wr.cell? ⟨w.heap.size,0,none⟩=some (.pointer (some ⟨b,0,none⟩)):=(HQ.out.2.cell (p:=⟨w.heap.size,0,none⟩) hPl).trans hP0
   by_cases hse:l[k].super=⟨#[]⟩
   ·
    have hse':=zcb hse
    have HR:=mk0 (HUP.out (by rw [HSP.out];simp [hse]))
    clear hse HSP HUP HNO es1 es2
    go_wp2_with fail
    go_roundw
    case rel=>exact ⟨k+1,by omega,by go_num,HR.out _ (hBr.out _ _)⟩
    case measure=>simp [intOf];omega
   have hse':l[k].super.toList.isEmpty=false:=by
    cases hq:l[k].super.toList with
    | nil=>exact absurd (zca hq) hse
    | cons _ _=>rfl
   obtain ⟨n,hn⟩:∃n:Nat,supAt l k=n:=by
    have h1:=List.all_eq_true.1 HSU.out l[k] (List.getElem_mem hlt)
    have h2:hasC l l[k].super=true:=by simpa [hse]using h1
    have h3:0<=supAt l k:=by rw [supAt,zay hlt];simpa [hasC]using h2
    exact ⟨(supAt l k).toNat,by omega⟩
   have HSP':Hid (step k=l[k].meths.all (standB l n)):=by
    show step k=_
    rw [HSP.out,hn]
    simp [hse]
   have HEV:Hid (∀o o',Calls Tryz.prog 245 #[.slice mo l[k].meths.length cm,.func (.func 254) #[] #[.pointer (some ⟨w.heap.size,0,none⟩),.pointer (some ⟨wr.heap.size,0,none⟩)]] ((wr.alloc (.cells #[.int .i64 k] o)).alloc o') fun r w'=>r=.returned (.bool (l[k].meths.all (standB l n)))/\Below ((wr.alloc (.cells #[.int .i64 k] o)).alloc o').heap.size ((wr.alloc (.cells #[.int .i64 k] o)).alloc o') w'):=fun o o'=>by
    have hb2:=hBr.out (.cells #[.int .i64 k] o) o'
    have hbB:Below B w ((wr.alloc (.cells #[.int .i64 k] o)).alloc o'):=(HBw.out.mono hle).trans (hb2.mono (Nat.le_trans hle HBw.out.size))
    refine zc5 _ B _ l[k].meths (EM.out.keptM (Kp.below (hb2.mono (Nat.le_trans hle HBw.out.size)))) (Nat.le_trans hle hbB.size) 254 #[] _ (standB l n) (fun args w=>by kernel_rfl) ?_
    intro x _ u W hW hu
    have hIc:((wr.alloc (.cells #[.int .i64 k] o)).alloc o').cell? ⟨wr.heap.size,0,none⟩=some (.int .i64 k):=by
     refine (World.cell?_alloc_past _ _ _ (by simp)).trans ?_
     simp [go_sem]
    exact zjg W B b w.heap.size wr.heap.size l _ vS vF vN vT vL Bm (HW.out.below (hbB.trans (hW.mono (Nat.le_trans hle hbB.size)))) k n hlt hn u x hu
     ((hW.cell (p:=⟨w.heap.size,0,none⟩) (by simp;omega)).trans ((hb2.cell (p:=⟨w.heap.size,0,none⟩) (Nat.lt_of_lt_of_le hPl hsr)).trans hP0r)) ((hW.cell (p:=⟨wr.heap.size,0,none⟩) (by simp;omega)).trans hIc)
   clear hse HSP es1 es2 hn EM
   generalize l[k].meths.all (standB l n)=rv at*
   cases rv with
   | true=>
     have HR:=mk0 (HUP.out HSP'.out)
     go_wp2_with (go_at_call 245;refine (HEV.out _ _).mono ?_;rintro r w9 ⟨rfl,hb9⟩)
     have HR9:=mk0 (HR.out w9 ((hBr.out _ _).trans (hb9.mono (hBr.out _ _).size)))
     clear hb9
     go_wp2_with fail
     go_roundw
     case rel=>exact ⟨k+1,by omega,by go_num,HR9.out⟩
     case measure=>simp [intOf];omega
   | false=>
     have HR:=mk0 (HNO.out HSP'.out)
     go_wp2_with (go_at_call 245;refine (HEV.out _ _).mono ?_;rintro r w9 ⟨rfl,hb9⟩)
     have HR9:=mk0 (HR.out w9 ((hBr.out _ _).trans (hb9.mono (hBr.out _ _).size)))
     clear hb9
     go_wp2_with fail
     go_ret
     exact ⟨by rw [HR9.out.1];rfl,HR9.out.2⟩
  have HR:Hid (askSame l=true):=by
   show askSame l=true
   rw [HST.out,List.all_eq_true]
   exact fun j hj=>HQ.out.1 j (by have:=List.mem_range.1 hj;omega)
  go_wp2_with fail
  go_ret
  exact ⟨by rw [HR.out];rfl,HBw.out⟩
end Go.Proofs.YtjdnmblggdobgaaGreat
namespace Go.Proofs.YtjdnmblggdobgaaGreat
open Go.RowKit Go.Sort
theorem Tryz.infoL:(Tryz.prog.info? 22).map (fun i=>(i.zero,i.size,i.bytes))=some (some (.slice none 0 0),1,24):=by kernel_rfl
theorem Tryz.infoFs:(Tryz.prog.info? 126).map (fun i=>(i.zero,i.size,i.bytes))=some (some (.slice none 0 0),1,24):=by kernel_rfl
theorem Tryz.infoNs:(Tryz.prog.info? 225).map (fun i=>(i.zero,i.size,i.bytes))=some (some (.slice none 0 0),1,24):=by kernel_rfl
theorem Tryz.infoTs:(Tryz.prog.info? 226).map (fun i=>(i.zero,i.size,i.bytes))=some (some (.slice none 0 0),1,24):=by kernel_rfl
def isup (l:List ClassD) (k:Nat):List Value:=(List.range k).map fun n=>Value.int .i64 (supAt l n)
theorem zji (l:List ClassD) (k:Nat):isup l (k+1)=isup l k++ [.int .i64 (supAt l k)]:=by simp [isup,List.range_succ]
theorem zjj {α:Type} (f:Nat->α) (k:Nat):(List.range (k+1)).map f=(List.range k).map f++ [f k]:=by simp [List.range_succ]
theorem numberB (w:World) (b:Nat) (l:List ClassD) (s:ByteArray) (hN:Nums w b l) (hs:s.size<=maxLen):
 Calls Tryz.prog 199 #[.pointer (some ⟨b,0,none⟩),.string s] w fun r w'=>r=.returned (.int .i64 (num l s))/\Below w.heap.size w w':=
 (numberN w b l s hN hs).mono fun _ _ ⟨h1,h2⟩=>⟨h1,h2 ▸ Below.refl _ _⟩
theorem NumMap.drew {w:World} {b:Nat} {l:List ClassD} (h:NumMap w b l):NumMap w.drew b l:=by
 obtain ⟨D,h,hd⟩:=h
 exact ⟨D,h.drew,hd⟩
theorem zjk {w:World} {X:Nat} {v:Value} {l:List ClassD} (h:w.ownsRow (X+2) 3 1 v l.length (isup l l.length)) (hl:l.length<=1000):SL 1 RI (MT X [3] w) w v ((List.range l.length).map (supAt l)):=by
 have hz:((List.range l.length).map fun n=>([Value.int .i64 (supAt l n)],supAt l n)).length=l.length:=by simp
 have hf:((List.range l.length).map fun n=>([Value.int .i64 (supAt l n)],supAt l n)).flatMap (·.1)=isup l l.length:=by
  rw [List.flatMap_map,isup]
  generalize List.range l.length=r
  induction r with
  | nil=>rfl
  | cons x r ih=>rw [List.flatMap_cons,ih];rfl
 have:=ze4 (n:=1) (R:=RI) (T:=[3]) (zs:=(List.range l.length).map fun n=>([Value.int .i64 (supAt l n)],supAt l n)) (by rw [hz,hf];exact zbi h (B':=X) (by omega)) (fun z hz=>by
  obtain ⟨s,hs',rfl⟩:=List.mem_map.1 hz
  exact ⟨rfl,rfl⟩) (by simp) (by rw [hz];unfold maxLen;omega)
 rwa [List.map_map]at this
structure WebM (M:Nat->Prop) (w:World) (b:Nat) (l:List ClassD) (vC vS vF vN vT vL:Value) (Bm:Nat):Prop where
 bM:M b
 mM:M Bm
 le:∀k,M k->k<w.heap.size
 blk:w.heap[b]? =some (.cells #[vC,vS,vF,vN,vT,.map (some Bm),vL] 155 (0,0))
 sC:SL 4 RC (fun k=>M k/\k≠b) w vC l
 sS:SL 1 RI (fun k=>M k/\k≠b) w vS ((List.range l.length).map (supAt l))
 sF:SL 1 (RSl 3 RF) (fun k=>M k/\k≠b) w vF ((List.range l.length).map (fieldsOf l))
 sN:SL 1 (RSl 1 RS) (fun k=>M k/\k≠b) w vN ((List.range l.length).map (namesOf l))
 sT:SL 1 (RSl 2 RT) (fun k=>M k/\k≠b) w vT ((List.range l.length).map (targetsOf l))
 sL:SL 1 (RSl 1 RO) (fun k=>M k/\k≠b) w vL ((List.range l.length).map (lineOf l))
 nm:NumMap w Bm l
theorem WebM.kp {M:Nat->Prop} {w w':World} {b:Nat} (hk:Kp M w w'):Kp (fun k=>M k/\k≠b) w w':=⟨hk.size,fun k h hl=>hk.block k h.1 hl⟩
theorem WebM.kept {M:Nat->Prop} {w w':World} {b:Nat} {l:List ClassD} {vC vS vF vN vT vL:Value} {Bm:Nat} (h:WebM M w b l vC vS vF vN vT vL Bm) (hk:Kp M w w'):WebM M w' b l vC vS vF vN vT vL Bm:=
 have hk':=WebM.kp (b:=b) hk
 ⟨h.bM,h.mM,fun k hm=>Nat.lt_of_lt_of_le (h.le k hm) hk.size,(hk.block b h.bM (h.le b h.bM)).trans h.blk,h.sC.keptC hk',h.sS.keptI hk',h.sF.keptSl hk' fun _ _ h=>h,h.sN.keptSl hk' fun _ _ h=>h,h.sT.keptSl hk' fun _ _ h=>h,h.sL.keptSl hk' fun _ _ h=>h,by
  obtain ⟨D,⟨es,clock,e,h'⟩,hd⟩:=h.nm
  exact ⟨D,⟨es,clock,(hk.block Bm h.mM (h.le Bm h.mM)).trans e,h'⟩,hd⟩⟩
theorem WebM.mono {M M':Nat->Prop} {w:World} {b:Nat} {l:List ClassD} {vC vS vF vN vT vL:Value} {Bm:Nat} (h:WebM M w b l vC vS vF vN vT vL Bm) (hM:∀k,M k->M' k) (hl:∀k,M' k->k<w.heap.size):WebM M' w b l vC vS vF vN vT vL Bm:=
 have hM':∀k,(M k/\k≠b)->(M' k/\k≠b):=fun k h=>⟨hM k h.1,h.2⟩
 ⟨hM _ h.bM,hM _ h.mM,hl,h.blk,h.sC.monoC hM',h.sS.monoI hM',h.sF.monoSl hM' fun _ _ h=>h,h.sN.monoSl hM' fun _ _ h=>h,h.sT.monoSl hM' fun _ _ h=>h,h.sL.monoSl hM' fun _ _ h=>h,h.nm⟩
theorem WebM.web {M:Nat->Prop} {w:World} {b:Nat} {l:List ClassD} {vC vS vF vN vT vL:Value} {Bm:Nat} (h:WebM M w b l vC vS vF vN vT vL Bm):Web w.heap.size w b l vC vS vF vN vT vL Bm:=
 have hl:∀k,(M k/\k≠b)->k<w.heap.size:=fun k hk=>h.le k hk.1
 ⟨h.le _ h.bM,h.le _ h.mM,Nat.le_refl _,h.blk,h.sC.monoC hl,h.sS.monoI hl,h.sF.monoSl hl fun _ _ h=>h,h.sN.monoSl hl fun _ _ h=>h,h.sT.monoSl hl fun _ _ h=>h,h.sL.monoSl hl fun _ _ h=>h,h.nm⟩
theorem zjl (w:World) (B:Nat) (l:List ClassD) (v:Value) (hv:SL 4 RC (· <B) w v l) (hB:B<=w.heap.size) (hchk:checkL l=0):
 Calls Tryz.prog 160 #[v] w fun r w'=>r=.returned (.pointer (some ⟨w.heap.size+1,0,none⟩))/\Below w.heap.size w w'/\∃vS vF vN vT vL,WebM (fun k=>(k<B\/w.heap.size<=k)/\k<w'.heap.size) w' (w.heap.size+1) l v vS vF vN vT vL w.heap.size:=by
 obtain ⟨iI,hiI,hzI0,hzI1,hzI2⟩:=info_parts Tryz.infoInt
 obtain ⟨iL,hiL,hzL0,hzL1,hzL2⟩:=info_parts Tryz.infoL
 obtain ⟨iF,hiF,hzF0,hzF1,hzF2⟩:=info_parts Tryz.infoFs
 obtain ⟨iN,hiN,hzN0,hzN1,hzN2⟩:=info_parts Tryz.infoNs
 obtain ⟨iT,hiT,hzT0,hzT1,hzT2⟩:=info_parts Tryz.infoTs
 have hmm:=@run_makeMap Tryz.prog
 obtain ⟨hN,hfine⟩:=zgm hchk
 have HFI:=mk0 hfine
 have HV:=mk0 hv
 obtain ⟨ao,cl,rfl,-⟩:=hv
 clear hchk hfine
 have hB0:Below w.heap.size w ((w.alloc (.map #[] 0)).alloc (.cells #[.slice ao l.length cl,.slice none 0 0,.slice none 0 0,.slice none 0 0,.slice none 0 0,.map (some w.heap.size),.slice none 0 0] 155)):=((Below.refl _ _).alloc (Nat.le_refl _) _).alloc (by simp) _
 have hk0:((w.alloc (.map #[] 0)).alloc (.cells #[.slice ao l.length cl,.slice none 0 0,.slice none 0 0,.slice none 0 0,.slice none 0 0,.map (some w.heap.size),.slice none 0 0] 155)).heap[w.heap.size+1]? =some (.cells #[.slice ao l.length cl,.slice none 0 0,.slice none 0 0,.slice none 0 0,.slice none 0 0,.map (some w.heap.size),.slice none 0 0] 155 (0,0)):=by
  have:=heap_alloc_new (w.alloc (.map #[] 0)) (.cells #[.slice ao l.length cl,.slice none 0 0,.slice none 0 0,.slice none 0 0,.slice none 0 0,.map (some w.heap.size),.slice none 0 0] 155)
  simpa using this
 have hn0:NumMap ((w.alloc (.map #[] 0)).alloc (.cells #[.slice ao l.length cl,.slice none 0 0,.slice none 0 0,.slice none 0 0,.slice none 0 0,.map (some w.heap.size),.slice none 0 0] 155)) w.heap.size []:=⟨_,(World.ownsMap_made w _ _ _).alloc _,zcd⟩
 have HS0:=mk0 (And.intro hB0 (And.intro hk0 hn0))
 clear hB0 hk0 hn0
 generalize hXX:w.heap.size=X at*
 go_enter Tryz.func160,Tryz.ntmps160
 go_wp2_with fail
 go_loopw [21] (fun i wr=>∃k:Nat,k<=l.length/\i=.int .i64 k/\Hid (Below X w wr/\wr.heap[X+1]? =some (.cells #[.slice ao l.length cl,.slice none 0 0,.slice none 0 0,.slice none 0 0,.slice none 0 0,.map (some X),.slice none 0 0] 155 (0,0))/\NumMap wr X (l.take k))) (fun i _=>l.length - (intOf i).toNat)
 case atStart=>exact ⟨0,Nat.zero_le _,rfl,HS0.out⟩
 case round=>
  obtain ⟨k,hk,rfl,HST⟩:=hrel
  clear HS0
  obtain ⟨hBr,hblk,hnm⟩:=HST.out
  have hsr:X<=wr.heap.size:=by have:=hBr.size;omega
  have hXr:X+1<wr.heap.size:=lt0 hblk
  by_cases hlt:k<l.length
  ·
   obtain ⟨b,off,vf,vm,rfl,hb,e0,e1,e2,e3,ef,em,es1,es2⟩:=(HV.out.keptC (Kp.below (hBr.mono hB))).atC k hlt
   obtain ⟨fo,cf,rfl,-⟩:=ef
   obtain ⟨mo,cm,rfl,-⟩:=em
   have m5:=cl0 hblk 5 (x:=.map (some X)) rfl
   obtain ⟨D,hown,hD⟩:=hnm
   have hlk:(l.take k).length=k:=by simp;omega
   have hkey:keyOf Tryz.prog 9 (.string l[k].name)=some (key l[k].name):=Go.WideMaps.keyOf_string_mk Tryz.underlying9 es1
   obtain ⟨w2,hrun,hown2,hg2⟩:=World.ownsMap.update (w:=(wr.alloc (.cells #[.string l[k].name,.string l[k].super,.slice fo l[k].fields.length cf,.slice mo l[k].meths.length cm] 162)).drew) ((hown.alloc _).drew) law9 Tryz.underlying152 (by rw [hlk];unfold maxLen;omega) hkey (plainElem_int (H:=Unit) Tryz.underlying3 (a:=(k:Int)) (WalkArith.wf_i64 (by omega)))
   have hD2:=zce hD (hown.tidy law9) l[k]
   have HFN:Hid (Below X w w2/\w2.heap[X+1]? =some (.cells #[.slice (some ⟨b,off,none⟩) l.length cl,.slice none 0 0,.slice none 0 0,.slice none 0 0,.slice none 0 0,.map (some X),.slice none 0 0] 155 (0,0))/\NumMap w2 X (l.take (k+1))):=by
    refine ⟨((hBr.alloc hsr (.cells #[.string l[k].name,.string l[k].super,.slice fo l[k].fields.length cf,.slice mo l[k].meths.length cm] 162)).drew).grown hg2 (by show X<=(wr.alloc _).heap.size;simp;omega) (fun q e=>by cases e;exact Nat.le_refl _),?_,?_⟩
    ·
     rw [hg2.block (X+1) (by show X+1<(wr.alloc _).heap.size;simp;omega) (by simp)]
     exact (Below.heap_alloc _ _ _ hXr).trans hblk
    rw [List.take_succ_eq_append_getElem hlt]
    rw [hlk]at hD2 hown2
    refine ⟨_,?_,hD2⟩
    rw [List.length_append,hlk]
    exact hown2
   clear hown hown2 hg2 hD hD2 hkey hblk hlk es1 es2
   have h00:(0:Int)<=k:=by omega
   have h01:(k:Int)<l.length:=by omega
   go_wp2_with fail
   go_region
   all_goals
    go_wp2_with fail
    go_roundw
    case rel=>exact ⟨k+1,by omega,by go_num,HFN.out⟩
    case measure=>simp [intOf];omega
  have HN1:Hid (NumMap wr X l):=by
   have:=hnm
   rwa [List.take_of_length_le (by omega)]at this
  have HB1:=mk0 hBr
  have HK1:=mk0 hblk
  clear hBr hblk hnm HST
  go_wp2_with fail
  go_loopw [36] (fun i wr=>∃(k:Nat) (vS:Value),k<=l.length/\i=.int .i64 k/\Hid (Below X w wr/\wr.heap[X+1]? =some (.cells #[.slice ao l.length cl,vS,.slice none 0 0,.slice none 0 0,.slice none 0 0,.map (some X),.slice none 0 0] 155 (0,0))/\NumMap wr X l/\wr.ownsRow (X+2) 3 1 vS k (isup l k))) (fun i _=>l.length - (intOf i).toNat)
  case atStart=>exact ⟨0,_,Nat.zero_le _,rfl,HB1.out,HK1.out,HN1.out,World.ownsRow_nil _ _ _ _⟩
  case round=>
   clear HB1 HK1 HN1 hsr hXr
   rename World=>wr
   obtain ⟨k,vS,hk,rfl,HST⟩:=hrel
   obtain ⟨hBr,hblk,hnm,hown⟩:=HST.out
   have hsr:X<=wr.heap.size:=by have:=hBr.size;omega
   have hXr:X+1<wr.heap.size:=lt0 hblk
   by_cases hlt2:k<l.length
   ·
    obtain ⟨b,off,vf,vm,rfl,hb,e0,e1,e2,e3,ef,em,es1,es2⟩:=(HV.out.keptC (Kp.below (hBr.mono hB))).atC k hlt2
    obtain ⟨fo,cf,rfl,-⟩:=ef
    obtain ⟨mo,cm,rfl,-⟩:=em
    have m1:=cl0 hblk 1 (x:=vS) rfl
    have HSU:Hid (num l l[k].super=supAt l k):=by show _=_;rw [supAt,zay hlt2]
    have HNU:Hid (Nums (wr.alloc (.cells #[.string l[k].name,.string l[k].super,.slice fo l[k].fields.length cf,.slice mo l[k].meths.length cm] 162)).drew (X+1) l):=⟨X,(World.cell?_alloc_past (w:=wr) _ (X+1) 5 hXr).trans (cl0 hblk 5 rfl),(hnm.kept (row:=none) (World.grownBy_alloc wr _ _) (by simp)).drew⟩
    have HBk:=mk0 hblk
    have HOW:=mk0 hown
    have HNM:=mk0 hnm
    have HES:=mk0 es2
    have HBR:=mk0 hBr
    have h00:(0:Int)<=k:=by omega
    have h01:(k:Int)<l.length:=by omega
    clear hblk hown hnm es1 es2 hBr HST
    go_upto_region 11 with fail
    go_region_law (first
     | (refine step_append_lies _ (by rfl) (.tmp 45) (.tmp 50) 22 (by rfl) (X+2) 3 iI (.int .i64 0) 1 8 Tryz.underlying22 hiI hzI0 hzI1 hzI2 rfl (by decide) vS k (isup l k) (by rfl) (HO7.out.alloc _) ⟨w7.heap.size,0,none⟩ 1 1 [.int .i64 (num l l[k].super)] (by rfl) rfl (World.news_of_block (heap_alloc_new w7 _)) (by intro u hu;simp at hu;subst hu;rfl) (by decide) HB7.out.1 HB7.out.2.1 HB7.out.2.2 _ rfl ?_;intro gA cA w9 hown9 hgr9 _ hlt9;have hrb9:∀q,vS.ownBlock=some q->X+2<=q:=fun q e=>(HO7.out.lt q e).1;have eB9:=(hgr9.block (X+1) (by simp;omega) (fun e=>by have:=hrb9 _ e.symm;omega)).trans ((Below.heap_alloc _ _ _ ml7).trans HE7.out);have m9:=cl0 eB9 1 (x:=vS) rfl;have z9:=zcf eB9 1;have ml9:=lt0 eB9;have HFA:=mk0 (And.intro hown9 (And.intro hgr9 eB9));clear hown9 hgr9 eB9 hrb9)
     | (go_simp;go_wp2_with (go_at_call 199;refine (numberB _ (X+1) l l[k].super HNU.out HES.out).mono ?_;rintro r w7 ⟨rfl,hb7⟩;have HE7:=mk0 ((hb7.block (X+1) (by show X+1<(wr.alloc _).heap.size;simp;omega)).trans ((Below.heap_alloc wr _ _ hXr).trans HBk.out));have HO7:=mk0 (zhj ((HOW.out.alloc (.cells #[.string l[k].name,.string l[k].super,.slice fo l[k].fields.length cf,.slice mo l[k].meths.length cm] 162)).kept (w':=(wr.alloc (.cells #[.string l[k].name,.string l[k].super,.slice fo l[k].fields.length cf,.slice mo l[k].meths.length cm] 162)).drew) (row:=none) ⟨rfl,rfl,rfl,Nat.le_refl _,fun _ _ _=>rfl⟩ (by cases vS.ownBlock<;>simp)) hb7);have m7:=cl0 HE7.out 1 (x:=vS) rfl;have ml7:=lt0 HE7.out;have HN7:=mk0 (NumMap.below ((HNM.out.kept (row:=none) (World.grownBy_alloc wr (.cells #[.string l[k].name,.string l[k].super,.slice fo l[k].fields.length cf,.slice mo l[k].meths.length cm] 162) _) (by simp)).drew) hb7 (by show X<(wr.alloc _).heap.size;simp;omega));have HBL7:=mk0 (((HBR.out.alloc hsr (.cells #[.string l[k].name,.string l[k].super,.slice fo l[k].fields.length cf,.slice mo l[k].meths.length cm] 162)).drew).trans (hb7.mono (by show X<=(wr.alloc _).heap.size;simp;omega)));have HB7:Hid (k+1<=maxLen/\(k+1)*8<=140737488355328/\X+2<=(w7.alloc (.cells #[.int .i64 (num l l[k].super)] 3)).heap.size):=⟨by unfold maxLen;omega,by omega,by simp;omega⟩;clear hb7)))
    all_goals
     obtain ⟨hown9,hgr9,eB9⟩:=HFA.out
     have hrb9:∀q,vS.ownBlock=some q->X+2<=q:=fun q e=>(HO7.out.lt q e).1
     have hFIN:Below X w (w9.setCell ⟨X+1,1,none⟩ (.slice (some ⟨gA,0,none⟩) (k+1) cA))/\(w9.setCell ⟨X+1,1,none⟩ (.slice (some ⟨gA,0,none⟩) (k+1) cA)).heap[X+1]? =some (.cells #[.slice (some ⟨b,off,none⟩) l.length cl,.slice (some ⟨gA,0,none⟩) (k+1) cA,.slice none 0 0,.slice none 0 0,.slice none 0 0,.map (some X),.slice none 0 0] 155 (0,0))/\NumMap (w9.setCell ⟨X+1,1,none⟩ (.slice (some ⟨gA,0,none⟩) (k+1) cA)) X l/\(w9.setCell ⟨X+1,1,none⟩ (.slice (some ⟨gA,0,none⟩) (k+1) cA)).ownsRow (X+2) 3 1 (.slice (some ⟨gA,0,none⟩) (k+1) cA) (k+1) (isup l (k+1)):=by
      have hsz7:X<=w7.heap.size:=by have:=HBL7.out.size;omega
      refine ⟨((HBL7.out.alloc hsz7 _).grown hgr9 (by simp;omega) (fun q e=>by have:=hrb9 q e;omega)).setCell (by simp) _,zg6 eB9 _,?_,?_⟩
      ·
       exact (((HN7.out.kept (row:=none) (World.grownBy_alloc w7 _ _) (by simp)).kept hgr9 (fun e=>by have:=hrb9 _ e.symm;omega)).kept (row:=some (X+1)) (za8 (World.grownBy.refl _ _) _ _ (Or.inl rfl)) (by simp))
      rw [zji,<-HSU.out]
      exact ownsRow_setCell_below hown9 (by simp) _
     have HFIN:=mk0 hFIN
     clear hown9 hgr9 eB9 hrb9 hFIN HFA
     go_wp2_with fail
     go_roundw
     case rel=>exact ⟨k+1,_,by omega,by go_num,HFIN.out⟩
     case measure=>simp [intOf];omega
   have hkl:k=l.length:=by omega
   have sS:=zjk (hkl ▸ hown) (by omega)
   have HW0:Hid (Wv w wr l (.slice ao l.length cl) vS (.slice none 0 0) (.slice none 0 0) (.slice none 0 0) (.slice none 0 0) [] [] [] []):=by
    refine ⟨by rw [hXX];exact hBr,by rw [hXX];exact hblk,by rw [hXX];exact sS,by rw [hXX];exact hnm,World.ownsRow_nil _ _ _ _,(fun z hz=>by cases hz),World.ownsRow_nil _ _ _ _,(fun z hz=>by cases hz),World.ownsRow_nil _ _ _ _,(fun z hz=>by cases hz),World.ownsRow_nil _ _ _ _,(fun z hz=>by cases hz)⟩
   clear sS hBr hblk hnm hown HST hkl
   obtain ⟨aS,cS,hvS⟩:∃aS cS,vS=.slice aS l.length cS:=by
    have:=HW0.out.sS
    obtain ⟨aS,cS,e,-⟩:=this
    exact ⟨aS,cS,by simpa using e⟩
   subst hvS
   go_wp2_with fail
   have HM0:Hid (True):=trivial
   go_loopw [58] (fun i wr=>∃(k:Nat) (vF vN vT vL:Value) (zF:List (List Value×List FieldD)) (zN:List (List Value×List ByteArray)) (zT:List (List Value×List TargD)) (zL:List (List Value×List Nat)),k<=l.length/\i=.int .i64 k/\Hid (Wv w wr l (.slice ao l.length cl) (.slice aS l.length cS) vF vN vT vL zF zN zT zL)/\
    Hid (zF.map (·.2)=(List.range k).map (fieldsOf l)/\zN.map (·.2)=(List.range k).map (namesOf l)/\zT.map (·.2)=(List.range k).map (targetsOf l)/\zL.map (·.2)=(List.range k).map (lineOf l))) (fun i _=>l.length - (intOf i).toNat)
   case atStart=>exact ⟨0,_,_,_,_,[],[],[],[],Nat.zero_le _,rfl,HW0.out,rfl,rfl,rfl,rfl⟩
   case round=>
    clear HW0 hsr hXr hlt2 hk hlt HM0
    rename World=>wr
    obtain ⟨k,vF,vN,vT,vL,zF,zN,zT,zL,hk,rfl,HW,HZ⟩:=hrel
    have hXr:X+1<wr.heap.size:=by have:=HW.out.lt;omega
    have hsr:X<=wr.heap.size:=by omega
    have hlZ:zF.length=k/\zN.length=k/\zT.length=k/\zL.length=k:=by
     obtain ⟨h1,h2,h3,h4⟩:=HZ.out
     have g1:=congrArg List.length h1
     have g2:=congrArg List.length h2
     have g3:=congrArg List.length h3
     have g4:=congrArg List.length h4
     simp at g1 g2 g3 g4
     exact ⟨g1,g2,g3,g4⟩
    have HLZ:=mk0 hlZ
    clear hlZ
    by_cases hlt:k<l.length
    ·
     have h00:(0:Int)<=k:=by omega
     have h01:(k:Int)<l.length:=by omega
     have HWD:=mk0 (HW.out.grow ((Below.refl wr.heap.size wr).drew))
     have m6:wr.cell? ⟨X+1,6,none⟩=some vL:=by have:=HW.out.cell 6 (x:=vL) rfl;rwa [hXX]at this
     go_upto_region 16 with fail
     go_cut [] (fun W=>∃vL' zL',Wv w W l (.slice ao l.length cl) (.slice aS l.length cS) vF vN vT vL' zF zN zT zL'/\zL'.map (·.2)=(List.range (k+1)).map (lineOf l))
     case first=>
      go_region_law (first
       | (refine step_append_lies _ (by rfl) (.tmp 65) (.tmp 69) 153 (by rfl) (X+2) 22 iL (.slice none 0 0) 1 24 Tryz.underlying153 hiL hzL0 hzL1 hzL2 rfl (by decide) vL zL.length (zL.flatMap (·.1)) (by rfl) (HO7.out.alloc _) ⟨w7.heap.size,0,none⟩ 1 1 [.slice au (lineOf l k).length cu] (by rfl) rfl (World.news_of_block (heap_alloc_new w7 _)) (by intro u hu;simp at hu;subst hu;rfl) (by decide) HB7.out.1 HB7.out.2.1 HB7.out.2.2 _ rfl ?_;intro gA cA w9 hown9 hgr9 _ hlt9;have hrb9:∀q,vL.ownBlock=some q->X+2<=q:=fun q e=>(HO7.out.lt q e).1;have eB9:=(hgr9.block (X+1) (by simp;omega) (fun e=>by have:=hrb9 _ e.symm;omega)).trans ((Below.heap_alloc _ _ _ ml7).trans HE7.out);have m9:=cl0 eB9 6 (x:=vL) rfl;have z9:=zcf eB9 6;have ml9:=lt0 eB9;have HFA:=mk0 (And.intro hown9 hgr9);clear hown9 hgr9 eB9 hrb9)
       | (go_simp;go_wp2_with (go_at_call 200;refine (zf7 _ wr.heap.size (X+1) l k hlt ao cl (.slice aS l.length cS) (hXX ▸ HWD.out.cell 0 rfl) (hXX ▸ HWD.out.cell 1 rfl) (HWD.out.sS.monoI fun _ hk=>hk.lt) (Nat.le_refl _) hN).mono ?_;rintro r w7 ⟨hb7,u7,rfl,su7⟩;have HW7:=mk0 (HWD.out.grow hb7);have SU7:=mk0 (su7.monoO (M':=MT w.heap.size [3] w7) fun _ hk=>hk.more (by rw [hXX];exact hsr) (fun _ ht=>ht));obtain ⟨au,cu,rfl,-⟩:=su7;have HE7:Hid (w7.heap[X+1]? =_):=hXX ▸ HW7.out.blk;have HO7:Hid (w7.ownsRow (X+2) 22 1 vL zL.length (zL.flatMap (·.1))):=hXX ▸ HW7.out.oL;have m7:=cl0 HE7.out 6 (x:=vL) rfl;have ml7:=lt0 HE7.out;have HB7:Hid (zL.length+1<=maxLen/\(zL.length+1)*24<=140737488355328/\X+2<=(w7.alloc (.cells #[.slice au (lineOf l k).length cu] 22)).heap.size):=(by have hz:=HLZ.out.2.2.2;exact ⟨by unfold maxLen;omega,by omega,by simp;omega⟩);clear hb7)))
      all_goals
       have HFIN:=mk0 (HW7.out.addL SU7.out (hXX.symm ▸ HFA.out.1) HFA.out.2)
       go_wp2_with fail
       go_meet
       exact ⟨_,_,hXX ▸ HFIN.out,by rw [List.map_append,HZ.out.2.2.2,zjj];rfl⟩
     case rest=>
      clear m6 HW HWD hXr hsr
      rename World=>W
      obtain ⟨vL',zL',hW,hZ⟩:=hcut
      have HW1:=mk0 hW
      have HZL:=mk0 hZ
      clear hW hZ
      have hzl:zL'.length=k+1:=by
       have:=congrArg List.length HZL.out
       simpa using this
      have HZN:=mk0 hzl
      clear hzl
      have hXW:X+1<W.heap.size:=by have:=HW1.out.lt;omega
      have hsW:X<=W.heap.size:=by omega
      have HD1:=mk0 (HW1.out.grow ((Below.refl W.heap.size W).drew))
      have m2:W.cell? ⟨X+1,2,none⟩=some vF:=by have:=HW1.out.cell 2 (x:=vF) rfl;rwa [hXX]at this
      have HSC:Hid (SL 4 RC (· <X) W.drew (.slice ao l.length cl) l):=(HV.out.keptC (Kp.below (HD1.out.below.mono (hXX.symm ▸ hB)))).monoC fun _ (hk:_<B)=>(by omega)
      have HSL:Hid (SL 1 (RSl 1 RO) (MT X [3,22] W.drew) W.drew vL' (zL'.map (·.2))):=hXX ▸ HD1.out.rowsL (by have:=HZN.out;omega)
      have HLK:Hid (∃h:k<(zL'.map (·.2)).length,(zL'.map (·.2))[k]=lineOf l k):=⟨by have:=HZN.out;simp;omega,by simp only [HZL.out];simp⟩
      go_upto_region 17 with fail
      go_cut [] (fun W=>∃vF' zF',Wv w W l (.slice ao l.length cl) (.slice aS l.length cS) vF' vN vT vL' zF' zN zT zL'/\zF'.map (·.2)=(List.range (k+1)).map (fieldsOf l))
      case first=>
       go_region_law (first
        | (refine step_append_lies _ (by rfl) (.tmp 78) (.tmp 82) 32 (by rfl) (X+2) 126 iF (.slice none 0 0) 1 24 Tryz.underlying32 hiF hzF0 hzF1 hzF2 rfl (by decide) vF zF.length (zF.flatMap (·.1)) (by rfl) (HO7.out.alloc _) ⟨w7.heap.size,0,none⟩ 1 1 [.slice au (fieldsOf l k).length cu] (by rfl) rfl (World.news_of_block (heap_alloc_new w7 _)) (by intro u hu;simp at hu;subst hu;rfl) (by decide) HB7.out.1 HB7.out.2.1 HB7.out.2.2 _ rfl ?_;intro gA cA w9 hown9 hgr9 _ hlt9;have hrb9:∀q,vF.ownBlock=some q->X+2<=q:=fun q e=>(HO7.out.lt q e).1;have eB9:=(hgr9.block (X+1) (by simp;omega) (fun e=>by have:=hrb9 _ e.symm;omega)).trans ((Below.heap_alloc _ _ _ ml7).trans HE7.out);have m9:=cl0 eB9 2 (x:=vF) rfl;have z9:=zcf eB9 2;have ml9:=lt0 eB9;have HFA:=mk0 (And.intro hown9 hgr9);clear hown9 hgr9 eB9 hrb9)
        | (go_simp;go_wp2_with (go_at_call 201;refine (zg5 _ X (X+1) l k hlt ao cl (hXX ▸ HD1.out.cell 0 rfl) HSC.out vL' (zL'.map (·.2)) (hXX ▸ HD1.out.cell 6 rfl) HSL.out HLK.out.1 HLK.out.2 hsW hN (fun c hc=>(HFI.out c hc).2.2.1)).mono ?_;rintro r w7 ⟨hb7,u7,rfl,su7⟩;have HW7:=mk0 (HD1.out.grow hb7);have SU7:=mk0 (su7.monoF (M':=MT w.heap.size [125] w7) fun _ hk=>hk.more (by rw [hXX];exact hsW) (fun _ ht=>ht));obtain ⟨au,cu,rfl,-⟩:=su7;have HE7:Hid (w7.heap[X+1]? =_):=hXX ▸ HW7.out.blk;have HO7:Hid (w7.ownsRow (X+2) 126 1 vF zF.length (zF.flatMap (·.1))):=hXX ▸ HW7.out.oF;have m7:=cl0 HE7.out 2 (x:=vF) rfl;have ml7:=lt0 HE7.out;have HB7:Hid (zF.length+1<=maxLen/\(zF.length+1)*24<=140737488355328/\X+2<=(w7.alloc (.cells #[.slice au (fieldsOf l k).length cu] 126)).heap.size):=(by have hz:=HLZ.out.1;exact ⟨by unfold maxLen;omega,by omega,by simp;omega⟩);clear hb7)))
       all_goals
        have HFIN:=mk0 (HW7.out.addF SU7.out (hXX.symm ▸ HFA.out.1) HFA.out.2)
        go_wp2_with fail
        go_meet
        exact ⟨_,_,hXX ▸ HFIN.out,by rw [List.map_append,HZ.out.1,zjj];rfl⟩
      case rest=>
       clear m2 HW1 HD1 hXW hsW HSC HSL
       rename World=>W
       obtain ⟨vF',zF',hW,hZ⟩:=hcut
       have HW1:=mk0 hW
       have HZF:=mk0 hZ
       clear hW hZ
       have hXW:X+1<W.heap.size:=by have:=HW1.out.lt;omega
       have hsW:X<=W.heap.size:=by omega
       have HSC:Hid (SL 4 RC (· <X) W (.slice ao l.length cl) l):=(HV.out.keptC (Kp.below (HW1.out.below.mono (hXX.symm ▸ hB)))).monoC fun _ (hk:_<B)=>(by omega)
       have HSL:Hid (SL 1 (RSl 1 RO) (MT X [3,22] W) W vL' (zL'.map (·.2))):=hXX ▸ HW1.out.rowsL (by have:=HZN.out;omega)
       go_upto_region 19 with (go_at_call 202;refine (zhi _ X (X+1) l k hlt ao cl (hXX ▸ HW1.out.cell 0 rfl) HSC.out vL' (zL'.map (·.2)) (hXX ▸ HW1.out.cell 6 rfl) HSL.out HLK.out.1 HLK.out.2 hsW hN (fun c hc=>(HFI.out c hc).2.2.2.2.1)).mono ?_;rintro r w7 ⟨hb7,u7,t7,rfl,su7,st7⟩;have HW7:=mk0 (HW1.out.grow hb7);have SU7:=mk0 (su7.monoS (M':=MT w.heap.size [9] w7) fun _ hk=>hk.more (by rw [hXX];exact hsW) (fun _ ht=>ht));have ST7:=mk0 (st7.monoT (M':=MT w.heap.size [233] w7) fun _ hk=>hk.more (by rw [hXX];exact hsW) (fun _ ht=>ht));obtain ⟨au,cu,rfl,-⟩:=su7;obtain ⟨bu,du,rfl,-⟩:=st7;clear hb7)
       have HE7:Hid (w7.heap[X+1]? =_):=hXX ▸ HW7.out.blk
       have m7:=cl0 HE7.out 3 (x:=vN) rfl
       have ml7:=lt0 HE7.out
       have HO7:Hid (w7.ownsRow (X+2) 225 1 vN zN.length (zN.flatMap (·.1))):=hXX ▸ HW7.out.oN
       have HB7:Hid (zN.length+1<=maxLen/\(zN.length+1)*24<=140737488355328/\X+2<=(w7.alloc (.cells #[.slice au (namesOf l k).length cu] 225)).heap.size):=(by have hz:=HLZ.out.2.1;exact ⟨by unfold maxLen;omega,by omega,by simp;omega⟩)
       go_upto_region 20 with (at_builtin;refine wpList_append_lies _ rfl _ _ 33 rfl (X+2) 225 iN (.slice none 0 0) 1 24 Tryz.underlying33 hiN hzN0 hzN1 hzN2 rfl (by decide) vN zN.length (zN.flatMap (·.1)) rfl (HO7.out.alloc _) ⟨w7.heap.size,0,none⟩ 1 1 [.slice au (namesOf l k).length cu] rfl rfl (World.news_of_block (heap_alloc_new w7 _)) (by intro u hu;simp at hu;subst hu;rfl) (by decide) HB7.out.1 HB7.out.2.1 HB7.out.2.2 _ rfl ?_;intro gA cA w9 hown9 hgr9 _ hlt9;have hrb9:∀q,vN.ownBlock=some q->X+2<=q:=fun q e=>(HO7.out.lt q e).1;have eB9:=(hgr9.block (X+1) (by simp;omega) (fun e=>by have:=hrb9 _ e.symm;omega)).trans ((Below.heap_alloc _ _ _ ml7).trans HE7.out);have m9:=cl0 eB9 3 (x:=vN) rfl;have z9:=zcf eB9 3;have ml9:=lt0 eB9;have HW8:=mk0 (HW7.out.addN SU7.out (hXX.symm ▸ hown9) hgr9);have hst:Stp w.heap.size [233] w7 (w9.setCell ⟨X+1,3,none⟩ (.slice (some ⟨gA,0,none⟩) (zN.length+1) cA)):=(((Stp.refl _ _ _).alloc _).trans (Stp.row hgr9 (HO7.out.alloc _) (by decide))).trans (Stp.set eB9 (by decide) 3 _);have HS8:=mk0 ((ST7.out.keptT hst.kp).monoT fun _ hk=>hk.step hst);clear hown9 hgr9 eB9 hrb9 hst)
       rw [hXX]at HW8
       generalize hW9:w9.setCell ⟨X+1,3,none⟩ (.slice (some ⟨gA,0,none⟩) (zN.length+1) cA)=wz at*
       have HE9:Hid (wz.heap[X+1]? =_):=hXX ▸ HW8.out.blk
       have mz:=cl0 HE9.out 4 (x:=vT) rfl
       have mlz:=lt0 HE9.out
       have HOz:Hid (wz.ownsRow (X+2) 226 1 vT zT.length (zT.flatMap (·.1))):=hXX ▸ HW8.out.oT
       have HBz:Hid (zT.length+1<=maxLen/\(zT.length+1)*24<=140737488355328/\X+2<=(wz.alloc (.cells #[.slice bu (targetsOf l k).length du] 226)).heap.size):=(by have hz:=HLZ.out.2.2.1;exact ⟨by unfold maxLen;omega,by omega,by simp;omega⟩)
       clear hW9 m9 z9 ml9 hlt9 m7 ml7
       go_upto_region 21 with (at_builtin;refine wpList_append_lies _ rfl _ _ 34 rfl (X+2) 226 iT (.slice none 0 0) 1 24 Tryz.underlying34 hiT hzT0 hzT1 hzT2 rfl (by decide) vT zT.length (zT.flatMap (·.1)) rfl (HOz.out.alloc _) ⟨wz.heap.size,0,none⟩ 1 1 [.slice bu (targetsOf l k).length du] rfl rfl (World.news_of_block (heap_alloc_new wz _)) (by intro u hu;simp at hu;subst hu;rfl) (by decide) HBz.out.1 HBz.out.2.1 HBz.out.2.2 _ rfl ?_;intro gB cB wy hown9 hgr9 _ hlt9;have hrb9:∀q,vT.ownBlock=some q->X+2<=q:=fun q e=>(HOz.out.lt q e).1;have eB9:=(hgr9.block (X+1) (by simp;omega) (fun e=>by have:=hrb9 _ e.symm;omega)).trans ((Below.heap_alloc _ _ _ mlz).trans HE9.out);have m9:=cl0 eB9 4 (x:=vT) rfl;have z9:=zcf eB9 4;have ml9:=lt0 eB9;have HWY:=mk0 (HW8.out.addT HS8.out (hXX.symm ▸ hown9) hgr9);clear hown9 hgr9 eB9 hrb9)
       go_wp2_with fail
       go_roundw
       case rel=>exact ⟨k+1,_,_,_,_,_,_,_,_,by omega,by go_num,hXX ▸ HWY.out,HZF.out,by rw [List.map_append,HZ.out.2.1,zjj];rfl,by rw [List.map_append,HZ.out.2.2.1,zjj];rfl,HZL.out⟩
       case measure=>simp [intOf];omega
    have hkl:k=l.length:=by omega
    have HWEB:Hid (WebM (fun k=>(k<B\/X<=k)/\k<wr.heap.size) wr (X+1) l (.slice ao l.length cl) (.slice aS l.length cS) vF vN vT vL X):=by
     obtain ⟨h1,h2,h3,h4⟩:=HZ.out
     obtain ⟨g1,g2,g3,g4⟩:=HLZ.out
     rw [hkl]at h1 h2 h3 h4
     have sF:=HW.out.rowsF (by omega)
     have sN:=HW.out.rowsN (by omega)
     have sT:=HW.out.rowsT (by omega)
     have sL:=HW.out.rowsL (by omega)
     rw [h1]at sF
     rw [h2]at sN
     rw [h3]at sT
     rw [h4]at sL
     have hb1:=hXX ▸ HW.out.blk
     have hM:∀ {T:List Nat},155∉T->∀(k:Nat),MT w.heap.size T wr k->((k<B\/X<=k)/\k<wr.heap.size)/\k≠X+1:=fun hT k hk=>⟨⟨Or.inr (hXX ▸ hk.1),hk.lt⟩,fun e=>by
      obtain ⟨_,c,t,fr,h2,h3⟩:=hk
      rw [e,hb1]at h2
      cases h2
      exact hT h3⟩
     exact ⟨⟨Or.inr (by omega),hXr⟩,⟨Or.inr (Nat.le_refl _),by omega⟩,fun _ h=>h.2,hXX ▸ HW.out.blk,(HV.out.keptC (Kp.below (HW.out.below.mono (hXX.symm ▸ hB)))).monoC (fun _ (hk:_<B)=>⟨⟨Or.inl hk,by omega⟩,by omega⟩),HW.out.sS.monoI (hM (by decide)),sF.monoSl (hM (by decide)) (fun _ _ h=>h),sN.monoSl (hM (by decide)) (fun _ _ h=>h),sT.monoSl (hM (by decide)) (fun _ _ h=>h),sL.monoSl (hM (by decide)) (fun _ _ h=>h),hXX ▸ HW.out.nm⟩
    have HBE:Hid (Below X w wr):=hXX ▸ HW.out.below
    clear HW HZ
    go_wp2_with fail
    go_ret
    exact ⟨rfl,HBE.out,_,_,_,_,_,HWEB.out⟩
end Go.Proofs.YtjdnmblggdobgaaGreat
namespace Go.Proofs.YtjdnmblggdobgaaGreat
open Go.RowKit Go.Maps
structure Far (lo hi:Nat) (W W':World):Prop where
 size:W.heap.size<=W'.heap.size
 block:∀k,k<W.heap.size->(k<lo\/hi<=k)->W'.heap[k]? =W.heap[k]?
theorem Far.trans {lo hi:Nat} {a b c:World} (h:Far lo hi a b) (k:Far lo hi b c):Far lo hi a c:=⟨Nat.le_trans h.size k.size,fun i hi hl=>(k.block i (Nat.lt_of_lt_of_le hi h.size) hl).trans (h.block i hi hl)⟩
theorem Far.grown {lo hi b:Nat} {W W':World} (h:W.grownBy W' (some b)) (hl:lo<=b) (hh:b<hi):Far lo hi W W':=⟨h.size,fun k hk hf=>h.block k hk (by intro e;injection e;omega)⟩
theorem Far.below {lo hi:Nat} {W W':World} (h:Below W.heap.size W W'):Far lo hi W W':=⟨h.size,fun k hk _=>h.block k hk⟩
theorem zjm (w:World) (g:Nat) (cap:Array Value) (Ok:Value->World->Prop) (No:Int->Int->Prop) (Pf Q:Nat) (x:Value) (hcf:∀args w,(callFunc g args).run Tryz.prog w=.ok (.enter g args) w)
 (hpf:w.cell? ⟨Pf,0,none⟩=some (.func (.func g) #[] cap)) (hq:w.cell? ⟨Q,0,none⟩=some x) (hz:w.frozen? ⟨Q,0,none⟩=false)
 (hc:Calls Tryz.prog g cap w fun r W'=>Below w.heap.size w W'/\((∃v,r=.returned v/\(∃p,v=.pointer p)/\Ok v W')\/∃e p,r=.panicked [wrongV e p]/\No e p)):
 Calls Tryz.prog 198 #[.pointer (some ⟨Pf,0,none⟩),.pointer (some ⟨Q,0,none⟩)] w fun r w'=>
  (r=.returned (.tuple #[])/\∃v W',(∃p,v=.pointer p)/\Ok v W'/\w'.cell? ⟨Q,0,none⟩=some v/\w.grownBy w' (some Q)/\W'.grownBy w' (some Q)/\Below w.heap.size w W')\/
  (∃e p,r=.panicked [wrongV e p]/\No e p/\Below w.heap.size w w'):=by
 have hQ:Q<w.heap.size:=World.block_lt_of_cell? w _ hq
 have HC:=mk0 hc
 clear hc
 go_enter Tryz.func198,Tryz.ntmps198
 go_wp2_with fail
 refine HC.out.mono ?_
 rintro r w1 ⟨hb,⟨v,rfl,hT,hok⟩ | ⟨e,p,rfl,hno⟩⟩
 rotate_left
 ·
  exact ⟨rfl,Or.inr ⟨e,p,rfl,hno,hb⟩⟩
 have hq1:w1.cell? ⟨Q,0,none⟩=some x:=(hb.cell (p:=⟨Q,0,none⟩) hQ).trans hq
 have hz1:w1.frozen? ⟨Q,0,none⟩=false:=(hb.frozen (p:=⟨Q,0,none⟩) hQ).trans hz
 have HG0:Hid (w1.grownBy (w1.setCell ⟨Q,0,none⟩ v) (some Q)):=za8 (World.grownBy.refl _ _) _ _ (Or.inl rfl)
 have HG:Hid (w.grownBy (w1.setCell ⟨Q,0,none⟩ v) (some Q)):=za8 ⟨hb.os,hb.tape,hb.output,hb.size,fun k hk _=>hb.block k hk⟩ _ _ (by simp)
 have HC1:=mk0 (World.cell?_setCell_same w1 ⟨Q,0,none⟩ v hq1)
 have HOK:=mk0 hok
 have HB:=mk0 hb
 have HT:=mk0 hT
 obtain ⟨vv,rfl⟩:=hT
 clear hok hb hq hz HC
 go_wp2
 go_end0
 exact Or.inl ⟨rfl,_,w1,HT.out,HOK.out,HC1.out,HG.out,HG0.out,HB.out⟩
theorem callMadeW (args:Array Value) (w:World):(callFunc 198 args).run Tryz.prog w=.ok (.enter 198 args) w:=by kernel_rfl
theorem afterMadeW (w w1:World) (x:Value) (h:((((w.alloc (.cells #[x] 213)).alloc (.cells #[.int .i64 0,.int .i64 0] 84)).alloc (.cells #[.pointer none] 148)).alloc (.cells #[.int .i64 0,.int .i64 0] 84)).grownBy w1 (some (w.heap.size+2))):
 w1.heap[w.heap.size+3]? =some (.cells #[.int .i64 0,.int .i64 0] 84 (0,0))/\Below w.heap.size w w1/\w1.cell? ⟨w.heap.size+1,0,none⟩=some (.int .i64 0)/\w1.cell? ⟨w.heap.size+1,1,none⟩=some (.int .i64 0)/\
  (∀j,w1.frozen? ⟨w.heap.size+1,j,none⟩=false)/\w.heap.size+4<=w1.heap.size:=by
 have hB0:Below w.heap.size w ((((w.alloc (.cells #[x] 213)).alloc (.cells #[.int .i64 0,.int .i64 0] 84)).alloc (.cells #[.pointer none] 148)).alloc (.cells #[.int .i64 0,.int .i64 0] 84)):=((((Below.refl _ _).alloc (Nat.le_refl _) _).alloc (by simp) _).alloc (by simp;omega) _).alloc (by simp;omega) _
 have hz:((((w.alloc (.cells #[x] 213)).alloc (.cells #[.int .i64 0,.int .i64 0] 84)).alloc (.cells #[.pointer none] 148)).alloc (.cells #[.int .i64 0,.int .i64 0] 84)).heap.size=w.heap.size+4:=by simp
 refine ⟨?_,bg0 hB0 h (by omega),?_,?_,?_,by rw [<-hz];exact h.size⟩
 ·
  rw [h.block (w.heap.size+3) (by omega) (by simp)]
  show ((((w.heap.push _).push _).push _).push _)[w.heap.size+3]? =_
  rw [Array.getElem?_push,if_pos (by simp)]
 ·
  exact h.cell (a:=⟨w.heap.size+1,0,none⟩) (by simp [go_sem]) (by simp)
 ·
  exact h.cell (a:=⟨w.heap.size+1,1,none⟩) (by simp [go_sem]) (by simp)
 intro j
 rw [World.frozen?_of_block (a:=⟨w.heap.size+1,j,none⟩) (h.block (w.heap.size+1) (by omega) (by simp))]
 simp [go_sem]
theorem zjn (w:World) (g:Nat) (cap:Array Value) (Ok:Value->World->Prop) (No:Int->Int->Prop) (hcf:∀args w,(callFunc g args).run Tryz.prog w=.ok (.enter g args) w)
 (hc:∀W,Below w.heap.size w W->W.heap.size=w.heap.size+4->Calls Tryz.prog g cap W fun r W'=>Below W.heap.size W W'/\((∃v,r=.returned v/\(∃p,v=.pointer p)/\Ok v W')\/∃e p,r=.panicked [wrongV e p]/\No e p))
 (hst:∀v W W',w.heap.size+4<=W.heap.size->Far w.heap.size (w.heap.size+4) W W'->Ok v W->Ok v W'):
 Calls Tryz.prog 158 #[.func (.func g) #[] cap] w fun r w'=>Below w.heap.size w w'/\w.heap.size+4<=w'.heap.size/\
  ((∃v,r=.returned (.tuple #[v,.agg #[.int .i64 0,.int .i64 0]])/\(∃p,v=.pointer p)/\Ok v w')\/
   (∃e p,r=.returned (.tuple #[.pointer none,.agg #[.int .i64 e,.int .i64 p]])/\No e p)):=by
 have hmf:=mkf Tryz.prog
 have hB0:Below w.heap.size w (((w.alloc (.cells #[.func (.func g) #[] cap] 213)).alloc (.cells #[.int .i64 0,.int .i64 0] 84)).alloc (.cells #[.pointer none] 148)):=(((Below.refl _ _).alloc (Nat.le_refl _) _).alloc (by simp) _).alloc (by simp;omega) _
 have hB1:=hB0.alloc hB0.size (.cells #[.int .i64 0,.int .i64 0] 84)
 have HC:=mk0 hc
 have HST:=mk0 hst
 have HCF:=mk0 hcf
 clear hc hst hcf
 go_enter Tryz.func158,Tryz.ntmps158
 go_wp2_with fail
 refine (zb6 198 _ _ (fun w1=>∃v,(∃p,v=.pointer p)/\w1.cell? ⟨w.heap.size+2,0,none⟩=some v/\Ok v w1/\Below w.heap.size w w1/\
  (∃x y,w1.cell? ⟨w.heap.size+1,0,none⟩=some x/\w1.cell? ⟨w.heap.size+1,1,none⟩=some y)/\(∀j,w1.frozen? ⟨w.heap.size+1,j,none⟩=false)/\w.heap.size+4<=w1.heap.size)
  (fun e p w1=>No e p/\w1.cell? ⟨w.heap.size+2,0,none⟩=some (.pointer none)/\Below w.heap.size w w1/\
  (∃x y,w1.cell? ⟨w.heap.size+1,0,none⟩=some x/\w1.cell? ⟨w.heap.size+1,1,none⟩=some y)/\(∀j,w1.frozen? ⟨w.heap.size+1,j,none⟩=false)/\w.heap.size+4<=w1.heap.size) (callMadeW _) ?hc).mono ?_
 case hc=>
  refine (zjm _ g cap Ok No w.heap.size (w.heap.size+2) (.pointer none) HCF.out (by simp [go_sem]) (by simp [go_sem]) (by simp [go_sem]) (HC.out _ hB1 (by simp))).mono ?_
  rintro r w1 (⟨rfl,v,W',hT,hok,hc,hg,hg0,hbw⟩ | ⟨e,p,rfl,hd,hb⟩)
  ·
   obtain ⟨a1,a2,a3,a4,a5,a6⟩:=afterMadeW w w1 _ hg
   refine ⟨by simpa using a1,Or.inl ⟨rfl,v,hT,hc,?_,a2,⟨.int .i64 0,.int .i64 0,a3,a4⟩,a5,a6⟩⟩
   exact HST.out v W' w1 (by have:=hbw.size;simp at this;omega) (Far.grown hg0 (by omega) (by omega)) hok
  have hg2:World.grownBy _ w1 (some (w.heap.size+2)):=⟨hb.os,hb.tape,hb.output,hb.size,fun k hk _=>hb.block k hk⟩
  obtain ⟨a1,a2,a3,a4,a5,a6⟩:=afterMadeW w w1 _ hg2
  refine ⟨by simpa using a1,Or.inr ⟨e,p,rfl,hd,?_,a2,⟨.int .i64 0,.int .i64 0,a3,a4⟩,a5,a6⟩⟩
  exact (hb.cell (p:=⟨w.heap.size+2,0,none⟩) (by simp)).trans (by simp [go_sem])
 rintro r w2 ⟨w1,hg,hr⟩
 have hz:(((w.alloc (.cells #[.func (.func g) #[] cap] 213)).alloc (.cells #[.int .i64 0,.int .i64 0] 84)).alloc (.cells #[.pointer none] 148)).heap.size=w.heap.size+3:=by simp
 rw [hz]at hg
 clear hB0 hB1 hz HC HCF
 rcases hr with ⟨rfl,v,hT,hc,hok,hB,⟨x,y,hx,hy⟩,hfz,hsz⟩ | ⟨e,p,rfl,hd,hc,hB,⟨x,y,hx,hy⟩,hfz,hsz⟩
 ·
  have c4:w2.cell? ⟨w.heap.size+1+1,0,none⟩=some v:=hg.cell hc (by simp)
  have c30:w2.cell? ⟨w.heap.size+1,0,none⟩=some x:=hg.cell hx (by simp)
  have c31:w2.cell? ⟨w.heap.size+1,1,none⟩=some y:=hg.cell hy (by simp)
  have z3:∀j,w2.frozen? ⟨w.heap.size+1,j,none⟩=false:=fun j=>(World.frozen?_of_block (a:=⟨w.heap.size+1,j,none⟩) (hg.block (w.heap.size+1) (by omega) (by simp))).trans (hfz j)
  have hsz2:w.heap.size+4<=w2.heap.size:=Nat.le_trans hsz hg.size
  have hlt1:w.heap.size+1<w2.heap.size:=by omega
  have hlt2:w.heap.size+1+1<w2.heap.size:=by omega
  have HT:=mk0 hT
  have hB2:Below w.heap.size w w2:=bg0 hB hg (by omega)
  have HO2:=mk0 (HST.out v w1 w2 hsz (Far.grown hg (by omega) (by omega)) hok)
  obtain ⟨vv,rfl⟩:=hT
  clear hok hc hx hy hfz hg hB
  go_wp2_with fail
  go_region
  all_goals
   go_wp2
   obtain ⟨hg,q0,q1⟩:=zb5 w2 (w.heap.size+1) 0 0 (.cells #[.int .i64 0,.int .i64 0] 84) c30 c31
   have hB3:=bg0 hB2 hg (by omega)
   have HO3:=mk0 (HST.out _ w2 _ hsz2 (Far.grown hg (by omega) (by omega)) HO2.out)
   have hz3:=Nat.le_trans hsz2 hg.size
   generalize ((w2.setCell ⟨w.heap.size+1,0,none⟩ (.int .i64 0)).setCell ⟨w.heap.size+1,1,none⟩ (.int .i64 0)).alloc (.cells #[.int .i64 0,.int .i64 0] 84)=W9 at*
   exact bodyPost_ret (v:=.tuple #[_,.agg #[.int .i64 0,.int .i64 0]]) (by simp [results,Tryz.results158,go_sem,q0,q1]) rfl ⟨hB3.drew,hz3,Or.inl ⟨_,rfl,HT.out,HST.out _ W9 _ hz3 ⟨Nat.le_refl _,fun _ _ _=>rfl⟩ HO3.out⟩⟩
 have c4:w2.cell? ⟨w.heap.size+1+1,0,none⟩=some (.pointer none):=hg.cell hc (by simp)
 have c30:w2.cell? ⟨w.heap.size+1,0,none⟩=some x:=hg.cell hx (by simp)
 have c31:w2.cell? ⟨w.heap.size+1,1,none⟩=some y:=hg.cell hy (by simp)
 have z3:∀j,w2.frozen? ⟨w.heap.size+1,j,none⟩=false:=fun j=>(World.frozen?_of_block (a:=⟨w.heap.size+1,j,none⟩) (hg.block (w.heap.size+1) (by omega) (by simp))).trans (hfz j)
 have hsz2:w.heap.size+4<=w2.heap.size:=Nat.le_trans hsz hg.size
 have hlt1:w.heap.size+1<w2.heap.size:=by omega
 have hlt2:w.heap.size+1+1<w2.heap.size:=by omega
 have HD:=mk0 hd
 have hB2:Below w.heap.size w w2:=bg0 hB hg (by omega)
 clear hd hc hx hy hfz hg hB HST
 go_wp2_with fail
 go_region
 all_goals
  go_wp2
  obtain ⟨hg,q0,q1⟩:=zb5 w2 (w.heap.size+1) e p (.cells #[.int .i64 e,.int .i64 p] 84) c30 c31
  have hB3:=bg0 hB2 hg (by omega)
  have hz3:=Nat.le_trans hsz2 hg.size
  generalize ((w2.setCell ⟨w.heap.size+1,0,none⟩ (.int .i64 e)).setCell ⟨w.heap.size+1,1,none⟩ (.int .i64 p)).alloc (.cells #[.int .i64 e,.int .i64 p] 84)=W9 at*
  exact bodyPost_ret (v:=.tuple #[.pointer none,.agg #[.int .i64 e,.int .i64 p]]) (by simp [results,Tryz.results158,go_sem,q0,q1]) rfl ⟨hB3.drew,hz3,Or.inr ⟨_,_,rfl,HD.out⟩⟩
def qsOf (l:List ClassD):List QD:=[⟨203,6,askNames l⟩,⟨204,5,askTop l⟩,⟨205,4,askUpper l⟩,⟨206,5,askSupers l⟩,⟨207,4,askNone l⟩,⟨208,4,askError l⟩,⟨209,5,askTold l⟩,⟨210,6,askParts l⟩,⟨211,4,askSame l⟩,⟨212,2,askFew l⟩]
def tieRes (l:List ClassD):Int:=if checkL l=0 then askRes (qsOf l) else checkL l
theorem qs_SL (w:World) (b t:Nat) (l:List ClassD):SL 2 (RQ #[.pointer (some ⟨b,0,none⟩)]) (· <w.heap.size+1) (w.alloc (.cells #[.func (.func 203) #[.pointer (some ⟨b,0,none⟩)] #[],.int .i64 6,.func (.func 204) #[.pointer (some ⟨b,0,none⟩)] #[],.int .i64 5,.func (.func 205) #[.pointer (some ⟨b,0,none⟩)] #[],.int .i64 4,.func (.func 206) #[.pointer (some ⟨b,0,none⟩)] #[],.int .i64 5,.func (.func 207) #[.pointer (some ⟨b,0,none⟩)] #[],.int .i64 4,.func (.func 208) #[.pointer (some ⟨b,0,none⟩)] #[],.int .i64 4,.func (.func 209) #[.pointer (some ⟨b,0,none⟩)] #[],.int .i64 5,.func (.func 210) #[.pointer (some ⟨b,0,none⟩)] #[],.int .i64 6,.func (.func 211) #[.pointer (some ⟨b,0,none⟩)] #[],.int .i64 4,.func (.func 212) #[.pointer (some ⟨b,0,none⟩)] #[],.int .i64 2] t)) (.slice (some ⟨w.heap.size,0,none⟩) 10 10) (qsOf l):=by
 refine ⟨some ⟨w.heap.size,0,none⟩,10,rfl,by simp [qsOf],by unfold maxLen;simp [qsOf],fun k hk=>?_⟩
 have hk':k<10:=by simpa [qsOf]using hk
 refine ⟨w.heap.size,0,[.func (.func (qsOf l)[k].g) #[.pointer (some ⟨b,0,none⟩)] #[],.int .i64 (qsOf l)[k].e],rfl,by simp,by simp,rfl,?_,rfl⟩
 have hc:∀j v,(#[.func (.func 203) #[.pointer (some ⟨b,0,none⟩)] #[],.int .i64 6,.func (.func 204) #[.pointer (some ⟨b,0,none⟩)] #[],.int .i64 5,.func (.func 205) #[.pointer (some ⟨b,0,none⟩)] #[],.int .i64 4,.func (.func 206) #[.pointer (some ⟨b,0,none⟩)] #[],.int .i64 5,.func (.func 207) #[.pointer (some ⟨b,0,none⟩)] #[],.int .i64 4,.func (.func 208) #[.pointer (some ⟨b,0,none⟩)] #[],.int .i64 4,.func (.func 209) #[.pointer (some ⟨b,0,none⟩)] #[],.int .i64 5,.func (.func 210) #[.pointer (some ⟨b,0,none⟩)] #[],.int .i64 6,.func (.func 211) #[.pointer (some ⟨b,0,none⟩)] #[],.int .i64 4,.func (.func 212) #[.pointer (some ⟨b,0,none⟩)] #[],.int .i64 2]:Array Value)[j]? =some v->(w.alloc (.cells #[.func (.func 203) #[.pointer (some ⟨b,0,none⟩)] #[],.int .i64 6,.func (.func 204) #[.pointer (some ⟨b,0,none⟩)] #[],.int .i64 5,.func (.func 205) #[.pointer (some ⟨b,0,none⟩)] #[],.int .i64 4,.func (.func 206) #[.pointer (some ⟨b,0,none⟩)] #[],.int .i64 5,.func (.func 207) #[.pointer (some ⟨b,0,none⟩)] #[],.int .i64 4,.func (.func 208) #[.pointer (some ⟨b,0,none⟩)] #[],.int .i64 4,.func (.func 209) #[.pointer (some ⟨b,0,none⟩)] #[],.int .i64 5,.func (.func 210) #[.pointer (some ⟨b,0,none⟩)] #[],.int .i64 6,.func (.func 211) #[.pointer (some ⟨b,0,none⟩)] #[],.int .i64 4,.func (.func 212) #[.pointer (some ⟨b,0,none⟩)] #[],.int .i64 2] t)).cell? ⟨w.heap.size,j,none⟩=some v:=fun j v h=>cl0 (heap_alloc_new w _) j h
 match k,hk' with
 | 0,_=>
   intro j hj
   rcases (by omega:j=0\/j=1)with rfl | rfl
   ·
    exact hc 0 _ rfl
   exact hc 1 _ rfl
 | 1,_=>
   intro j hj
   rcases (by omega:j=0\/j=1)with rfl | rfl
   ·
    exact hc 2 _ rfl
   exact hc 3 _ rfl
 | 2,_=>
   intro j hj
   rcases (by omega:j=0\/j=1)with rfl | rfl
   ·
    exact hc 4 _ rfl
   exact hc 5 _ rfl
 | 3,_=>
   intro j hj
   rcases (by omega:j=0\/j=1)with rfl | rfl
   ·
    exact hc 6 _ rfl
   exact hc 7 _ rfl
 | 4,_=>
   intro j hj
   rcases (by omega:j=0\/j=1)with rfl | rfl
   ·
    exact hc 8 _ rfl
   exact hc 9 _ rfl
 | 5,_=>
   intro j hj
   rcases (by omega:j=0\/j=1)with rfl | rfl
   ·
    exact hc 10 _ rfl
   exact hc 11 _ rfl
 | 6,_=>
   intro j hj
   rcases (by omega:j=0\/j=1)with rfl | rfl
   ·
    exact hc 12 _ rfl
   exact hc 13 _ rfl
 | 7,_=>
   intro j hj
   rcases (by omega:j=0\/j=1)with rfl | rfl
   ·
    exact hc 14 _ rfl
   exact hc 15 _ rfl
 | 8,_=>
   intro j hj
   rcases (by omega:j=0\/j=1)with rfl | rfl
   ·
    exact hc 16 _ rfl
   exact hc 17 _ rfl
 | 9,_=>
   intro j hj
   rcases (by omega:j=0\/j=1)with rfl | rfl
   ·
    exact hc 18 _ rfl
   exact hc 19 _ rfl
 | k+10,h=>exact absurd h (by omega)
theorem zjq (l:List ClassD):∀q∈qsOf l,∀args w,(callFunc q.g args).run Tryz.prog w=.ok (.enter q.g args) w:=by
 intro q hq
 simp only [qsOf,List.mem_cons,List.not_mem_nil,or_false]at hq
 rcases hq with rfl | rfl | rfl | rfl | rfl | rfl | rfl | rfl | rfl | rfl<;>intro args w<;>kernel_rfl
theorem zjr (l:List ClassD):∀q∈qsOf l,q.e≠0:=by
 intro q hq
 simp only [qsOf,List.mem_cons,List.not_mem_nil,or_false]at hq
 rcases hq with rfl | rfl | rfl | rfl | rfl | rfl | rfl | rfl | rfl | rfl<;>simp
theorem zjs (w:World) (B b:Nat) (l:List ClassD) (vC vS vF vN vT vL:Value) (Bm:Nat) (hw1:Web B w b l vC vS vF vN vT vL Bm) (k:Nat) (hk:k<(qsOf l).length) (hall:∀(j:Nat) (hj:j<(qsOf l).length),j<k->(qsOf l)[j].ans=true):
 Calls Tryz.prog (qsOf l)[k].g #[.pointer (some ⟨b,0,none⟩)] w fun r w'=>r=.returned (.bool (qsOf l)[k].ans)/\Below w.heap.size w w':=by
 match k,hk,hall with
 | 0,hk,hall=>exact zdr _ B b l _ _ _ _ _ _ _ hw1
 | 1,hk,hall=>exact zds _ B b l _ _ _ _ _ _ _ hw1
 | 2,hk,hall=>exact zdv _ B b l _ _ _ _ _ _ _ hw1
 | 3,hk,hall=>exact zdx _ B b l _ _ _ _ _ _ _ hw1
 | 4,hk,hall=>exact zdz _ B b l _ _ _ _ _ _ _ hw1
 | 5,hk,hall=>exact zd8 _ B b l _ _ _ _ _ _ _ hw1 (by have h:=hall 1 (by simp [qsOf]) (by omega);have h2:askTop l=true:=h;rw [askTop,Bool.and_eq_true]at h2;simpa [hasC]using h2.2)
 | 6,hk,hall=>exact zd4 _ B b l _ _ _ _ _ _ _ hw1
 | 7,hk,hall=>exact zfv _ B b l _ _ _ _ _ _ _ hw1
 | 8,hk,hall=>exact zjh _ B b l _ _ _ _ _ _ _ hw1 (hall 3 (by simp [qsOf]) (by omega))
 | 9,hk,hall=>exact zd7 _ B b l _ _ _ _ _ _ _ hw1
 | k+10,hk,_=>exact absurd hk (by simp [qsOf])
theorem zjt (w:World) (B b:Nat) (l:List ClassD) (vC vS vF vN vT vL:Value) (Bm:Nat) (hw:Web B w b l vC vS vF vN vT vL Bm):
 Calls Tryz.prog 161 #[.pointer (some ⟨b,0,none⟩)] w fun r w'=>ChkOut (askRes (qsOf l)) r/\Below w.heap.size w w':=by
 have hmf:=mkf Tryz.prog
 have HW:=mk0 hw
 have HB0:=mk0 (fun o=>(Below.refl w.heap.size w).alloc (Nat.le_refl _) o)
 have HQ:=mk0 (fun t=>qs_SL w b t l)
 clear hw
 go_enter Tryz.func161,Tryz.ntmps161
 go_wp2_with fail
 refine (zje _ (w.heap.size+1) #[.pointer (some ⟨b,0,none⟩)] _ (qsOf l) (HQ.out _) (by simp) (zjq l) (zjr l) ?_).mono ?_
 ·
  intro k hk hall w' hb
  exact zjs w' B b l _ _ _ _ _ _ _ (HW.out.below (((HB0.out _).mono HW.out.le).trans (hb.mono (Nat.le_trans HW.out.le (HB0.out _).size)))) k hk hall
 rintro r w1 ⟨⟨hc,rfl⟩ | ⟨hc,rfl⟩,hb⟩
 ·
  exact ⟨rfl,Or.inl ⟨hc,rfl⟩,(HB0.out _).trans (hb.mono (HB0.out _).size)⟩
 have HC:=mk0 hc
 have HB:=mk0 ((HB0.out _).trans (hb.mono (HB0.out _).size))
 clear hc hb
 go_wp2_with fail
 go_end0
 exact ⟨Or.inr ⟨HC.out,rfl⟩,HB.out⟩
def TiedW (B:Nat) (w:World) (l:List ClassD) (v:Value) (p:Value) (w':World):Prop:=∃b vS vF vN vT vL Bm,p=.pointer (some ⟨b,0,none⟩)/\w.heap.size<=b/\WebM (fun k=>(k<B\/w.heap.size<=k)/\k<w'.heap.size) w' b l v vS vF vN vT vL Bm
theorem zju (w:World) (B P:Nat) (l:List ClassD) (v:Value) (hv:SL 4 RC (· <B) w v l) (hB:B<=w.heap.size) (hchk:checkL l=0) (hP:w.cell? ⟨P,0,none⟩=some v):
 Calls Tryz.prog 159 #[.pointer (some ⟨P,0,none⟩)] w fun r w'=>Below w.heap.size w w'/\
  ((∃p,r=.returned p/\(∃q,p=.pointer q)/\askRes (qsOf l)=0/\TiedW B w l v p w')\/∃e p,r=.panicked [wrongV e p]/\askRes (qsOf l)=e/\e≠0):=by
 have HV:=mk0 hv
 obtain ⟨ao,cl,rfl,-⟩:=hv
 go_enter Tryz.func159,Tryz.ntmps159
 go_wp2_with fail
 refine (zjl w B l _ HV.out hB hchk).mono ?_
 rintro r w1 ⟨rfl,hb1,vS,vF,vN,vT,vL,hweb⟩
 have HW:=mk0 hweb
 have HB1:=mk0 hb1
 clear hweb hb1
 go_wp2_with fail
 refine (zjt w1 w1.heap.size (w.heap.size+1) l _ _ _ _ _ _ _ HW.out.web).mono ?_
 rintro r w2 ⟨⟨hc,rfl⟩ | ⟨hc,rfl⟩,hb⟩
 ·
  exact ⟨rfl,HB1.out.trans (hb.mono HB1.out.size),Or.inr ⟨_,_,rfl,rfl,hc⟩⟩
 have HC:=mk0 hc
 have HB:=mk0 (HB1.out.trans (hb.mono HB1.out.size))
 have HW2:Hid (TiedW B w l (.slice ao l.length cl) (.pointer (some ⟨w.heap.size+1,0,none⟩)) w2):=⟨_,_,_,_,_,_,_,rfl,by omega,((HW.out.kept ⟨hb.size,fun k hk _=>hb.block k hk.2⟩).mono (fun k hk=>⟨hk.1,Nat.lt_of_lt_of_le hk.2 hb.size⟩) (fun k hk=>hk.2))⟩
 clear hc hb HW
 go_wp2_with fail
 go_ret
 exact ⟨HB.out,Or.inl ⟨_,rfl,⟨_,rfl⟩,HC.out,HW2.out⟩⟩
theorem callTie1 (args:Array Value) (w:World):(callFunc 159 args).run Tryz.prog w=.ok (.enter 159 args) w:=by kernel_rfl
theorem zjv (w:World) (B:Nat) (l:List ClassD) (v:Value) (hv:SL 4 RC (· <B) w v l) (hB:B<=w.heap.size):
 Calls Tryz.prog 101 #[v] w fun r w'=>Below w.heap.size w w'/\
  ((tieRes l=0/\∃p,r=.returned (.tuple #[p,.int .i64 0])/\TiedW B w l v p w')\/(tieRes l≠0/\r=.returned (.tuple #[.pointer none,.int .i64 (tieRes l)]))):=by
 have hmf:=mkf Tryz.prog
 have HV:=mk0 hv
 obtain ⟨ao,cl,rfl,-⟩:=hv
 have HB0:=mk0 (fun o=>(Below.refl w.heap.size w).alloc (Nat.le_refl _) o)
 go_enter Tryz.func101,Tryz.ntmps101
 go_wp2_with fail
 refine (zb8 _ B l _ (HV.out.keptC (Kp.below ((HB0.out _).mono hB))) (Nat.le_trans hB (HB0.out _).size)).mono ?_
 rintro r w1 ⟨rfl,hb1⟩
 have hB1:=(HB0.out (.cells #[.slice ao l.length cl] 31)).trans (hb1.mono (HB0.out _).size)
 have hP1:w1.cell? ⟨w.heap.size,0,none⟩=some (.slice ao l.length cl):=(hb1.cell (p:=⟨w.heap.size,0,none⟩) (by simp)).trans (by simp [go_sem])
 have hz1:w.heap.size+1<=w1.heap.size:=by have:=hb1.size;simpa using this
 have HB1:=mk0 hB1
 clear hb1 hB1
 by_cases hchk:checkL l=0
 ·
  have HT:Hid (tieRes l=askRes (qsOf l)):=by show tieRes l=_;rw [tieRes,if_pos hchk]
  have HCK:=mk0 hchk
  rw [hchk]
  clear hchk
  go_wp2_with fail
  refine (zjn w1 159 _ (fun p w'=>askRes (qsOf l)=0/\∃b vS vF vN vT vL Bm,p=.pointer (some ⟨b,0,none⟩)/\w.heap.size<=b/\WebM (fun k=>(k<B\/w1.heap.size+4<=k)/\k<w'.heap.size) w' b l (.slice ao l.length cl) vS vF vN vT vL Bm) (fun e p=>askRes (qsOf l)=e/\e≠0) callTie1 ?hc ?hst).mono ?_
  case hc=>
   intro W hW hWs
   refine (zju W B w.heap.size l _ (HV.out.keptC (Kp.below ((HB1.out.trans (hW.mono HB1.out.size)).mono hB))) (Nat.le_trans hB (HB1.out.trans (hW.mono HB1.out.size)).size) HCK.out ((hW.cell (p:=⟨w.heap.size,0,none⟩) (by simp;omega)).trans hP1)).mono ?_
   rintro r w2 ⟨hb2,⟨p,rfl,hp,h0,b,vS,vF,vN,vT,vL,Bm,e,hle,hwb⟩ | ⟨e,p,rfl,h1,h2⟩⟩
   ·
    refine ⟨hb2,Or.inl ⟨p,rfl,hp,h0,b,vS,vF,vN,vT,vL,Bm,e,by omega,?_⟩⟩
    rw [hWs]at hwb
    exact hwb
   exact ⟨hb2,Or.inr ⟨e,p,rfl,h1,h2⟩⟩
  case hst=>
   rintro p W W' hz hf ⟨h0,b,vS,vF,vN,vT,vL,Bm,e,hle,hwb⟩
   refine ⟨h0,b,vS,vF,vN,vT,vL,Bm,e,hle,(hwb.kept ⟨hf.size,fun k hk _=>hf.block k hk.2 (by rcases hk.1 with h | h;(have:=HB1.out.size;omega);omega)⟩).mono (fun k hk=>⟨hk.1,Nat.lt_of_lt_of_le hk.2 hf.size⟩) (fun k hk=>hk.2)⟩
  rintro r w2 ⟨hb2,hz2,⟨p,rfl,-,h0,b,vS,vF,vN,vT,vL,Bm,rfl,hle,hwb⟩ | ⟨e,p,rfl,h1,h2⟩⟩
  ·
   have HBF:=mk0 (fun o=>(HB1.out.trans (hb2.mono HB1.out.size)).alloc (Nat.le_trans HB1.out.size hb2.size) o)
   have HR:Hid (∀o n,tieRes l=0/\TiedW B w l (.slice ao l.length cl) (.pointer (some ⟨b,0,none⟩)) ((w2.alloc o).drewN n)):=fun o n=>⟨HT.out.trans h0,b,vS,vF,vN,vT,vL,Bm,rfl,hle,(hwb.kept (w':=(w2.alloc o).drewN n) ⟨by show _<=(w2.alloc o).heap.size;simp,fun k hk _=>Below.heap_alloc _ _ _ hk.2⟩).mono (fun k hk=>⟨hk.1.imp id (fun h=>by omega),by show _<(w2.alloc o).heap.size;have:=hk.2;simp;omega⟩) (fun k hk=>hk.2)⟩
   clear hwb h0 hb2
   go_wp2_with fail
   go_quiet (fail)
   go_wp2_with fail
   exact bodyPost_ret (v:=.tuple #[_,_]) (by simp [results,Tryz.results101,go_sem]) rfl ⟨zdq (HBF.out _) _,Or.inl ⟨(HR.out (.map #[] 0) 0).1,_,rfl,(HR.out _ _).2⟩⟩
  have HBF:=mk0 (fun o=>(HB1.out.trans (hb2.mono HB1.out.size)).alloc (Nat.le_trans HB1.out.size hb2.size) o)
  have HR:Hid (tieRes l=e/\e≠0):=⟨HT.out.trans h1,h2⟩
  clear hb2 h1 h2
  go_wp2_with fail
  go_quiet (fail)
  go_wp2_with fail
  exact bodyPost_ret (v:=.tuple #[_,_]) (by simp [results,Tryz.results101,go_sem];exact ⟨rfl,rfl⟩) rfl ⟨zdq (HBF.out _) _,Or.inr ⟨by rw [HR.out.1];exact HR.out.2,by rw [HR.out.1]⟩⟩
 have HT:Hid (tieRes l=checkL l):=by show tieRes l=_;rw [tieRes,if_neg hchk]
 have hne:(checkL l==0)=false:=beq_eq_false_iff_ne.2 hchk
 have HN:=mk0 hchk
 clear hchk
 generalize checkL l=ce at*
 go_wp2_with fail
 exact bodyPost_ret (v:=.tuple #[_,_]) (by simp [results,Tryz.results101,go_sem];exact ⟨rfl,rfl⟩) rfl ⟨HB1.out,Or.inr ⟨by rw [HT.out];exact HN.out,by rw [HT.out]⟩⟩
end Go.Proofs.YtjdnmblggdobgaaGreat
