import Derived.Test.YtjdnmblggdobgaaGreatHzI
import Derived.Test.YtjdnmblggdobgaaGreatHmS
import Derived.Test.YtjdnmblggdobgaaGreatJTk2Dies
set_option maxHeartbeats 4000000
set_option maxRecDepth 100000
namespace Go.Proofs.YtjdnmblggdobgaaGreat
open Go.RowKit Go.Maps
theorem zx2 (w:World) (b B T:Nat) (nW nO nR kC kS kF kN kT:Value) (h:HeapD) (rs:List Int) (d:LinkD) (o:Tsk b B w T nW nO nR kC kS kF kN kT h rs d) (hz:Sized d h) (hnl:h.noted.length<=1000000) (tag len:Int) (hn:0<=len/\len<=1000000) (hrm:roomB h false len=true):
 Calls Tryz.prog 100 #[.pointer (some ⟨T,0,none⟩),.int .i64 tag,.int .i64 len] w fun r w'=>r=.returned (.tuple #[.int .i64 h.ytop,.bool true])/\Tsk b B w' T nW nO nR kC kS kF kN kT (makeD h tag len false) rs d/\Below b w w':=by
 have z1:=hz.young
 have z2:=hz.old
 have z3:=hz.len
 have z4:=hz.ytop
 have hrm2:h.ytop+3+len<=h.young+1:=of_decide_eq_true hrm
 have HHR:=mk0 (zmj w _ T _ _ _ _ _ _ _ h d (o.gd (by omega) hnl) false len ⟨by omega,by omega⟩ ⟨by show 0<=h.ytop;omega,by show h.ytop<=1000000;omega⟩ hn)
 rw [hrm]at HHR
 have HMK:=mk0 (fun V (hV:Below w.heap.size w V)=>zxz V b B T _ _ _ _ _ _ _ _ h rs d (o.below hV) tag len ⟨by omega,by omega⟩ (by omega) hnl (by omega) hn.1 (by omega))
 have hbw:b<=w.heap.size:=by have:=o.bT;have:=lt0 o.blk;omega
 clear o hz z1 z2 z3 z4 hrm hrm2 hn
 go_enter Tryz.func100,Tryz.ntmps100
 go_wp2_with fail
 refine HHR.out.mono ?_
 rintro r w1 ⟨rfl,hb1⟩
 have HM1:=mk0 (HMK.out w1 hb1)
 have HB1:=mk0 hb1
 clear hb1 HHR HMK
 go_wp2_with fail
 refine HM1.out.mono ?_
 rintro r w2 ⟨rfl,o2,hb2⟩
 have HF:=mk0 (And.intro o2 ((HB1.out.mono hbw).trans hb2))
 clear o2 hb2 HM1
 go_wp2_with fail
 exact bodyPost_ret (v:=.tuple #[.int .i64 h.ytop,.bool true]) (by simp [results,Tryz.results100,go_sem]) rfl ⟨rfl,HF.out.1,HF.out.2⟩
def SpV (b:Nat) (kC kS kF kN kT:Value) (h1:HeapD) (rs:List Int) (at1:Int) (v:Value) (w:World):Prop:=
 ∃nW dW nO dO nR dR,v=.agg #[.slice nW h1.words.length dW,.int .i64 h1.young,.int .i64 h1.old,.int .i64 h1.ytop,.int .i64 h1.otop,.slice nO h1.noted.length dO,.int .i64 h1.next,kC,kS,kF,kN,kT,.slice nR rs.length dR,.int .i64 at1,.bool true]/\OwnV b w (.slice nW h1.words.length dW) (.slice nO h1.noted.length dO) h1/\w.ownsRow b 3 1 (.slice nR rs.length dR) rs.length (intV rs)
theorem SpV.far {lo hi b:Nat} {w w':World} {kC kS kF kN kT v:Value} {h1:HeapD} {rs:List Int} {at1:Int} (o:SpV b kC kS kF kN kT h1 rs at1 v w) (hf:Far lo hi w w') (hb:hi<=b):SpV b kC kS kF kN kT h1 rs at1 v w':=by
 obtain ⟨nW,dW,nO,dO,nR,dR,e,h1,h2⟩:=o
 exact ⟨nW,dW,nO,dO,nR,dR,e,h1.far hf hb,zm3 h2 hf hb⟩
theorem zx3 (w:World) (B P0 P1 P2 P3 P4:Nat) (vW vO kC kS kF kN kT:Value) (h:HeapD) (d:LinkD) (g:Hd B w vW vO kC kS kF kN kT h d) (vR:Value) (rs:List Int) (hs:SL 1 RI (· <B) w vR rs) (hwr:∀x∈rs,(Lit.int .i64 x).wf=true) (tag len:Int) (h0:openErr d h rs=0) (htg:isTagB d.classes.length tag=true) (hmh:mayHaveB d.fields tag len=true) (hrm:roomB h false len=true) (k0:w.heap[P0]? =some (.cells #[vW,.int .i64 h.young,.int .i64 h.old,.int .i64 h.ytop,.int .i64 h.otop,vO,.int .i64 h.next] 24 (0,0))) (k1:w.heap[P1]? =some (.cells #[kC,kS,kF,kN,kT] 36 (0,0))) (k2:w.heap[P2]? =some (.cells #[vR] 22 (0,0))) (k3:w.heap[P3]? =some (.cells #[.int .i64 tag] 3 (0,0))) (k4:w.heap[P4]? =some (.cells #[.int .i64 len] 3 (0,0))):
 Calls Tryz.prog 97 #[.pointer (some ⟨P0,0,none⟩),.pointer (some ⟨P1,0,none⟩),.pointer (some ⟨P2,0,none⟩),.pointer (some ⟨P3,0,none⟩),.pointer (some ⟨P4,0,none⟩)] w fun r w'=>Below w.heap.size w w'/\((∃v,r=.returned v/\IsSp v/\SpV w.heap.size kC kS kF kN kT (makeD h tag len false) rs h.ytop v w')\/∃e p,r=.panicked [wrongV e p]/\(e≠e\/p≠p)):=by
 have HG:=mk0 g
 obtain ⟨aW,cW,aO,cO,aC,cC,aS,cS,aF,cF,aN,cN,aT,cT,rfl,rfl,rfl,rfl,rfl,rfl,rfl⟩:=g.agg
 have HSR:=mk0 hs
 obtain ⟨aR,cR,rfl,-⟩:=hs
 clear g
 obtain ⟨W0,hW0,hB0,hs0,z0⟩:=boxes1 w #[.slice none 0 0,.int .i64 0,.int .i64 0,.int .i64 0,.int .i64 0,.slice none 0 0,.int .i64 0,.slice none 0 0,.slice none 0 0,.slice none 0 0,.slice none 0 0,.slice none 0 0,.slice none 0 0,.int .i64 0,.bool false] 142
 have l0:=lt0 k0
 have l1:=lt0 k1
 have l2:=lt0 k2
 have l3:=lt0 k3
 have l4:=lt0 k4
 have lz:=lt0 z0
 have k0':=(hB0.block _ l0).trans k0
 have k1':=(hB0.block _ l1).trans k1
 have k2':=(hB0.block _ l2).trans k2
 have k3':=(hB0.block _ l3).trans k3
 have k4':=(hB0.block _ l4).trans k4
 have HK34:=mk0 (And.intro k3' k4')
 rw [hW0]at k0' k1' k2'
 have e2:=cl0 k2' 0 (x:=.slice aR rs.length cR) rfl
 obtain ⟨a0,a1,a2,a3,a4,a5,a6,az,al⟩:=cells7 k0'
 obtain ⟨b0,b1,b2,b3,b4,bl⟩:=cells5 k1'
 have HGV:Hid (∀V,Below W0.heap.size W0 V->Hd B V (.slice aW h.words.length cW) (.slice aO h.noted.length cO) (.slice aC d.classes.length cC) (.slice aS d.supers.length cS) (.slice aF d.fields.length cF) (.slice aN d.names.length cN) (.slice aT d.targets.length cT) h d):=fun V hV=>HG.out.below ((hB0.trans (hV.mono hB0.size)).mono HG.out.le)
 have HCK:=mk0 (zv0 W0 B _ _ _ _ _ _ _ h d (HGV.out W0 (Below.refl _ _)) (.slice aR rs.length cR) rs (HSR.out.keptI (Kp.below (hB0.mono HG.out.le))) hwr)
 have HB0:=mk0 hB0
 have HE0:=mk0 hW0
 have HS0:=mk0 hs0
 have HZ:=mk0 z0
 have HOE:=mk0 h0
 have HTM:=mk0 (And.intro htg (And.intro hmh hrm))
 have hl3:P3<W0.heap.size:=lt0 k3'
 have hl4:P4<W0.heap.size:=lt0 k4'
 clear hB0 hW0 hs0 z0 k0 k1 k2 k3 k4 k0' k1' k2' k3' k4' hwr h0 htg hmh hrm
 go_enter Tryz.func97,Tryz.ntmps97
 go_wp2_with fail
 rw [<-HE0.out]
 refine HCK.out.mono ?_
 rintro r w1 ⟨hb1,⟨h0,nW,dW,nO,dO,nR,dR,rfl,hov,hor,hap⟩ | ⟨h0,rfl⟩⟩
 rotate_left
 ·
  exact absurd HOE.out h0
 obtain ⟨ts,rt,hrl,hrd⟩:=zxu h0
 have hz:=rt.sized
 have hgl:=HG.out.le
 have hs0:=HS0.out
 have hs1:=hb1.size
 have hnl:h.noted.length<=1000000:=(zm4 rt.err rt.both HG.out.ww).2.2
 have hcn:=hz.cn
 have hlen0:0<=len:=zeo HTM.out.2.1
 have hlen1:len<=1000000:=by
  have z1:=hz.young
  have z4:=hz.ytop
  have:h.ytop+3+len<=h.young+1:=of_decide_eq_true HTM.out.2.2
  omega
 have htf:tag<3+d.fields.length:=by
  have:=HTM.out.1
  unfold isTagB at this
  simp only [Bool.and_eq_true,decide_eq_true_eq]at this
  rw [hz.fl]
  omega
 have hfl:h.words.length<=1000000:=by
  have z1:=hz.young
  have z2:=hz.old
  have z3:=hz.len
  omega
 obtain ⟨W2,hW2,hB2,hs2,m0⟩:=boxes1 w1 #[.slice nW h.words.length dW,.int .i64 h.young,.int .i64 h.old,.int .i64 h.ytop,.int .i64 h.otop,.slice nO h.noted.length dO,.int .i64 h.next,.slice aC d.classes.length cC,.slice aS d.supers.length cS,.slice aF d.fields.length cF,.slice aN d.names.length cN,.slice aT d.targets.length cT,.slice nR rs.length dR] 131
 have hb2:Below W0.heap.size W0 W2:=hb1.trans (hB2.mono hs1)
 have hTK:Tsk W0.heap.size B W2 w1.heap.size (.slice nW h.words.length dW) (.slice nO h.noted.length dO) (.slice nR rs.length dR) (.slice aC d.classes.length cC) (.slice aS d.supers.length cS) (.slice aF d.fields.length cF) (.slice aN d.names.length cN) (.slice aT d.targets.length cT) h rs d:=by
  refine ⟨m0,zhj hov.rW hB2,zhj hov.rO hB2,zhj hor hB2,(HGV.out W2 hb2).lk,by omega,hs1,?_⟩
  unfold sepB
  simp only [List.pairwise_cons,List.mem_cons,List.not_mem_nil,or_false,forall_eq_or_imp,forall_eq,List.Pairwise.nil,and_true,false_implies,implies_true]
  exact ⟨⟨fun k e e2=>by have:=Option.some.inj e;have:=(hov.rW.lt k e2).2;omega,fun k e e2=>by have:=Option.some.inj e;have:=(hov.rO.lt k e2).2;omega,fun k e e2=>by have:=Option.some.inj e;have:=(hor.lt k e2).2;omega⟩,⟨fun k e=>hov.ne k e,fun k e e2=>(hap k e2).1 e⟩,fun k e e2=>(hap k e2).2 e⟩
 have HIT:=mk0 (zex W2 _ w1.heap.size _ _ _ _ _ _ _ h d (hTK.gd hfl hnl) tag hcn)
 rw [HTM.out.1]at HIT
 have HMH:=mk0 (zey W2 _ w1.heap.size _ _ _ _ _ _ _ h d (hTK.gd hfl hnl) tag len htf)
 rw [HTM.out.2.1]at HMH
 have HSP:=mk0 (zx2 W2 W0.heap.size B w1.heap.size _ _ _ _ _ _ _ _ h rs d hTK hz hnl tag len ⟨hlen0,hlen1⟩ HTM.out.2.2)
 have j3:=cl0 ((hb2.block _ hl3).trans HK34.out.1) 0 (x:=.int .i64 tag) rfl
 have j4:=cl0 ((hb2.block _ hl4).trans HK34.out.2) 0 (x:=.int .i64 len) rfl
 have lj3:P3<W2.heap.size:=by have:=hb2.size;omega
 have lj4:P4<W2.heap.size:=by have:=hb2.size;omega
 have HB2:=mk0 hb2
 have HW2:=mk0 hW2
 clear hb1 hov hor hap hW2 hB2 hb2 hTK m0 h0 rt hrl hrd hz HCK hgl e2 hcn htf hlen0 hlen1 hnl hfl
 clear a0 a1 a2 a3 a4 a5 a6 al az
 clear b0 b1 b2 b3 b4 bl
 rw [HW2.out]at HIT j3 j4 lj3 lj4
 go_wp2_with fail
 refine HIT.out.mono ?_
 rw [<-HW2.out]
 rintro r w3 ⟨rfl,rfl⟩
 rw [<-HW2.out]at j3 j4 lj3 lj4
 go_wp2_with fail
 refine (dm0 _ _ _).mono ?_
 rintro r w4 ⟨rfl,⟨hb,rfl⟩ | ⟨hb,rfl⟩⟩
 ·
  exact absurd hb (by simp)
 clear hb
 go_wp2_with fail
 refine HMH.out.mono ?_
 rintro r w5 ⟨rfl,rfl⟩
 go_wp2_with fail
 refine (dm0 _ _ _).mono ?_
 rintro r w6 ⟨rfl,⟨hb,rfl⟩ | ⟨hb,rfl⟩⟩
 ·
  exact absurd hb (by simp)
 clear hb
 go_wp2_with fail
 refine HSP.out.mono ?_
 rintro r w7 ⟨rfl,o5,hb5⟩
 obtain ⟨hm,hhm⟩:∃hm,makeD h tag len false=hm:=⟨_,rfl⟩
 rw [hhm]at o5
 have HHM:=mk0 hhm
 obtain ⟨aW3,cW3,hnW⟩:=zfz o5.rW
 obtain ⟨aO3,cO3,hnO⟩:=zfz o5.rO
 obtain ⟨aR3,cR3,hnR⟩:=zfz o5.rR
 have hb05:Below W0.heap.size W0 w7:=HB2.out.trans hb5
 have k8:=(hb05.block _ lz).trans HZ.out
 have hB8:Below w.heap.size w w7:=HB0.out.trans (hb05.mono HB0.out.size)
 have hs8:=hb05.size
 rw [hnW,hnO,hnR]at o5
 have v0:=cl0 o5.blk 0 (x:=.slice aW3 hm.words.length cW3) rfl
 have v1:=cl0 o5.blk 1 (x:=.int .i64 hm.young) rfl
 have v2:=cl0 o5.blk 2 (x:=.int .i64 hm.old) rfl
 have v3:=cl0 o5.blk 3 (x:=.int .i64 hm.ytop) rfl
 have v4:=cl0 o5.blk 4 (x:=.int .i64 hm.otop) rfl
 have v5:=cl0 o5.blk 5 (x:=.slice aO3 hm.noted.length cO3) rfl
 have v6:=cl0 o5.blk 6 (x:=.int .i64 hm.next) rfl
 have v7:=cl0 o5.blk 7 (x:=.slice aC d.classes.length cC) rfl
 have v8:=cl0 o5.blk 8 (x:=.slice aS d.supers.length cS) rfl
 have v9:=cl0 o5.blk 9 (x:=.slice aF d.fields.length cF) rfl
 have v10:=cl0 o5.blk 10 (x:=.slice aN d.names.length cN) rfl
 have v11:=cl0 o5.blk 11 (x:=.slice aT d.targets.length cT) rfl
 have v12:=cl0 o5.blk 12 (x:=.slice aR3 rs.length cR3) rfl
 have lv:=lt0 o5.blk
 have lTw:w.heap.size<w1.heap.size:=by omega
 obtain ⟨W9,h9,hgS,hq,hr,rz,rl⟩:=setN (zs:=[.slice none 0 0,.int .i64 0,.int .i64 0,.int .i64 0,.int .i64 0,.slice none 0 0,.int .i64 0,.slice none 0 0,.slice none 0 0,.slice none 0 0,.slice none 0 0,.slice none 0 0,.slice none 0 0,.int .i64 0,.bool false]) k8 [.slice aW3 hm.words.length cW3,.int .i64 hm.young,.int .i64 hm.old,.int .i64 hm.ytop,.int .i64 hm.otop,.slice aO3 hm.noted.length cO3,.int .i64 hm.next,.slice aC d.classes.length cC,.slice aS d.supers.length cS,.slice aF d.fields.length cF,.slice aN d.names.length cN,.slice aT d.targets.length cT,.slice aR3 rs.length cR3,.int .i64 h.ytop,.bool true] rfl
 have r0:=hr 0 _ rfl
 have r1:=hr 1 _ rfl
 have r2:=hr 2 _ rfl
 have r3:=hr 3 _ rfl
 have r4:=hr 4 _ rfl
 have r5:=hr 5 _ rfl
 have r6:=hr 6 _ rfl
 have r7:=hr 7 _ rfl
 have r8:=hr 8 _ rfl
 have r9:=hr 9 _ rfl
 have r10:=hr 10 _ rfl
 have r11:=hr 11 _ rfl
 have r12:=hr 12 _ rfl
 have r13:=hr 13 _ rfl
 have r14:=hr 14 _ rfl
 have q0:=hq 0 _ rfl
 have q1:=hq 1 _ rfl
 have q2:=hq 2 _ rfl
 have q3:=hq 3 _ rfl
 have q4:=hq 4 _ rfl
 have q5:=hq 5 _ rfl
 have q6:=hq 6 _ rfl
 have q7:=hq 7 _ rfl
 have q8:=hq 8 _ rfl
 have q9:=hq 9 _ rfl
 have q10:=hq 10 _ rfl
 have q11:=hq 11 _ rfl
 have q12:=hq 12 _ rfl
 have q13:=hq 13 _ rfl
 have q14:=hq 14 _ rfl
 have hw9:=hgS.size
 have HB9:=mk0 (bg0 (hB8) hgS (by omega))
 have HG9:=mk0 hgS
 simp only [setL,Nat.reduceAdd]at h9
 have H9:=mk0 h9
 clear hgS hq hr h9
 have HOF:Hid (OwnV w.heap.size W9 (.slice aW3 hm.words.length cW3) (.slice aO3 hm.noted.length cO3) hm):=⟨zhp (o5.rW.kept HG9.out (Or.inr fun e=>by have:=(o5.rW.lt _ e).1;omega)) (by omega),zhp (o5.rO.kept HG9.out (Or.inr fun e=>by have:=(o5.rO.lt _ e).1;omega)) (by omega),fun k e1 e2=>zu6 o5.sep (i:=1) (j:=2) (by decide) (congrArg some e1) (congrArg some e2)⟩
 have HRF:Hid (W9.ownsRow w.heap.size 3 1 (.slice aR3 rs.length cR3) rs.length (intV rs)):=zhp (o5.rR.kept HG9.out (Or.inr fun e=>by have:=(o5.rR.lt _ e).1;omega)) (by omega)
 clear o5 hb5 hb05 k8 hB8 HSP hhm hnW hnO hnR j3 j4
 go_wp2_with fail
 rw [H9.out]
 refine bodyPost_ret (v:=.agg #[.slice aW3 hm.words.length cW3,.int .i64 hm.young,.int .i64 hm.old,.int .i64 hm.ytop,.int .i64 hm.otop,.slice aO3 hm.noted.length cO3,.int .i64 hm.next,.slice aC d.classes.length cC,.slice aS d.supers.length cS,.slice aF d.fields.length cF,.slice aN d.names.length cN,.slice aT d.targets.length cT,.slice aR3 rs.length cR3,.int .i64 h.ytop,.bool true]) (by simp [results,Tryz.results97,go_sem,q0,q1,q2,q3,q4,q5,q6,q7,q8,q9,q10,q11,q12,q13,q14]) rfl ⟨HB9.out,Or.inl ⟨_,rfl,?_,?_⟩⟩
 ·
  exact ⟨_,_,_,_,_,_,_,_,_,_,_,_,_,_,_,_,_,_,_,_,_,_,_,_,_,_,_,_,_,_,_,rfl⟩
 rw [HHM.out]
 exact ⟨aW3,cW3,aO3,cO3,aR3,cR3,rfl,HOF.out,HRF.out⟩
theorem callSpace1 (args:Array Value) (w:World):(callFunc 97 args).run Tryz.prog w=.ok (.enter 97 args) w:=by kernel_rfl
theorem zx4 (w:World) (B:Nat) (vW vO kC kS kF kN kT:Value) (h:HeapD) (d:LinkD) (g:Hd B w vW vO kC kS kF kN kT h d) (vR:Value) (rs:List Int) (hs:SL 1 RI (· <B) w vR rs) (hwr:∀x∈rs,(Lit.int .i64 x).wf=true) (tag len:Int) (h0:openErr d h rs=0) (htg:isTagB d.classes.length tag=true) (hmh:mayHaveB d.fields tag len=true) (hrm:roomB h false len=true):
 Calls Tryz.prog 46 #[.agg #[vW,.int .i64 h.young,.int .i64 h.old,.int .i64 h.ytop,.int .i64 h.otop,vO,.int .i64 h.next],.agg #[kC,kS,kF,kN,kT],vR,.int .i64 tag,.int .i64 len] w fun r w'=>Below w.heap.size w w'/\∃nW dW nO dO nR dR,r=.returned (.tuple #[.agg #[.slice nW (makeD h tag len false).words.length dW,.int .i64 (makeD h tag len false).young,.int .i64 (makeD h tag len false).old,.int .i64 (makeD h tag len false).ytop,.int .i64 (makeD h tag len false).otop,.slice nO (makeD h tag len false).noted.length dO,.int .i64 (makeD h tag len false).next],.slice nR rs.length dR,.int .i64 h.ytop,.bool true,.int .i64 0])/\OwnV w.heap.size w' (.slice nW (makeD h tag len false).words.length dW) (.slice nO (makeD h tag len false).noted.length dO) (makeD h tag len false)/\w'.ownsRow w.heap.size 3 1 (.slice nR rs.length dR) rs.length (intV rs):=by
 have hmf:=mkf Tryz.prog
 have HG:=mk0 g
 have HSR:=mk0 hs
 obtain ⟨aW,cW,aO,cO,aC,cC,aS,cS,aF,cF,aN,cN,aT,cT,rfl,rfl,rfl,rfl,rfl,rfl,rfl⟩:=g.agg
 obtain ⟨aR,cR,rfl,-⟩:=hs
 clear g
 obtain ⟨W0,hW0,hB0,hs0,k0,k1,k2,k3,k4,k5⟩:=boxes6 w #[.slice aW h.words.length cW,.int .i64 h.young,.int .i64 h.old,.int .i64 h.ytop,.int .i64 h.otop,.slice aO h.noted.length cO,.int .i64 h.next] #[.slice aC d.classes.length cC,.slice aS d.supers.length cS,.slice aF d.fields.length cF,.slice aN d.names.length cN,.slice aT d.targets.length cT] #[.slice aR rs.length cR] #[.int .i64 tag] #[.int .i64 len] #[.slice none 0 0,.int .i64 0,.int .i64 0,.int .i64 0,.int .i64 0,.slice none 0 0,.int .i64 0] 24 36 22 3 3 24
 have HMD:Hid (Calls Tryz.prog 96 #[.func (.func 97) #[] #[.pointer (some ⟨w.heap.size,0,none⟩),.pointer (some ⟨w.heap.size+1,0,none⟩),.pointer (some ⟨w.heap.size+1+1,0,none⟩),.pointer (some ⟨w.heap.size+1+1+1,0,none⟩),.pointer (some ⟨w.heap.size+1+1+1+1,0,none⟩)]] W0 fun r w'=>Below W0.heap.size W0 w'/\W0.heap.size+5<=w'.heap.size/\
  ((∃v,r=.returned (.tuple #[v,.agg #[.int .i64 0,.int .i64 0]])/\IsSp v/\SpV (W0.heap.size+5) (.slice aC d.classes.length cC) (.slice aS d.supers.length cS) (.slice aF d.fields.length cF) (.slice aN d.names.length cN) (.slice aT d.targets.length cT) (makeD h tag len false) rs h.ytop v w')\/
   (∃e p,r=.returned (.tuple #[.agg #[.slice none 0 0,.int .i64 0,.int .i64 0,.int .i64 0,.int .i64 0,.slice none 0 0,.int .i64 0,.slice none 0 0,.slice none 0 0,.slice none 0 0,.slice none 0 0,.slice none 0 0,.slice none 0 0,.int .i64 0,.bool false],.agg #[.int .i64 e,.int .i64 p]])/\(e≠e\/p≠p)))):=by
  refine zx1 W0 97 _ (SpV (W0.heap.size+5) (.slice aC d.classes.length cC) (.slice aS d.supers.length cS) (.slice aF d.fields.length cF) (.slice aN d.names.length cN) (.slice aT d.targets.length cT) (makeD h tag len false) rs h.ytop) (fun e p=>e≠e\/p≠p) callSpace1 ?_ ?_
  ·
   intro W hW hs
   have hk:∀(b:Nat) (ob:Obj),W0.heap[b]? =some ob->W.heap[b]? =some ob:=fun b ob e=>(hW.block b (lt0 e)).trans e
   have hbb:=(hB0.trans (hW.mono hB0.size)).mono HG.out.le
   have:=zx3 W B _ _ _ _ _ _ _ _ _ _ _ _ h d (HG.out.below hbb) _ rs (HSR.out.keptI (Kp.below hbb)) hwr tag len h0 htg hmh hrm (hk _ _ k0) (hk _ _ k1) (hk _ _ k2) (hk _ _ k3) (hk _ _ k4)
   rw [<-hs]
   exact this
  intro v W W' _ hf o
  exact o.far hf (Nat.le_refl _)
 have HB0:=mk0 hB0
 have HE0:=mk0 hW0
 have HS0:=mk0 hs0
 have HK5:=mk0 k5
 rw [HE0.out]at HMD
 clear k0 k1 k2 k3 k4 k5 hB0 hW0 hs0 hwr h0 htg hmh hrm
 go_enter Tryz.func46,Tryz.ntmps46
 go_wp2_with fail
 refine HMD.out.mono ?_
 rw [<-HE0.out]
 rintro r w1 ⟨hb1,hs1,⟨v,rfl,-,nW,dW,nO,dO,nR,dR,rfl,hov,hor⟩ | ⟨e,p,rfl,hno⟩⟩
 rotate_left
 ·
  rcases hno with q | q
  ·
   exact absurd rfl q
  exact absurd rfl q
 obtain ⟨hm,hhm⟩:∃hm,makeD h tag len false=hm:=⟨_,rfl⟩
 rw [hhm]at hov ⊢
 have hs0:=HS0.out
 have HHM:=mk0 hhm
 clear hhm HMD
 obtain ⟨W2,hW2,hA2,hs2,m0,m1⟩:=boxes2 w1 #[.slice nW hm.words.length dW,.int .i64 hm.young,.int .i64 hm.old,.int .i64 hm.ytop,.int .i64 hm.otop,.slice nO hm.noted.length dO,.int .i64 hm.next,.slice aC d.classes.length cC,.slice aS d.supers.length cS,.slice aF d.fields.length cF,.slice aN d.names.length cN,.slice aT d.targets.length cT,.slice nR rs.length dR,.int .i64 h.ytop,.bool true] #[.int .i64 0,.int .i64 0] 142 84
 have hs2':=hA2.size
 have k2:W2.heap[w.heap.size+1+1+1+1+1]? =some (.cells #[.slice none 0 0,.int .i64 0,.int .i64 0,.int .i64 0,.int .i64 0,.slice none 0 0,.int .i64 0] 24 (0,0)):=(hA2.block _ (by omega)).trans ((hb1.block _ (lt0 HK5.out)).trans HK5.out)
 have hB2:Below w.heap.size w W2:=(HB0.out.trans (hb1.mono HB0.out.size)).trans (hA2.mono (by omega))
 obtain ⟨W9,h9,hgS,hq,hr,rz,rl⟩:=setN (zs:=[.slice none 0 0,.int .i64 0,.int .i64 0,.int .i64 0,.int .i64 0,.slice none 0 0,.int .i64 0]) k2 [.slice nW hm.words.length dW,.int .i64 hm.young,.int .i64 hm.old,.int .i64 hm.ytop,.int .i64 hm.otop,.slice nO hm.noted.length dO,.int .i64 hm.next] rfl
 have r0:=hr 0 _ rfl
 have r1:=hr 1 _ rfl
 have r2:=hr 2 _ rfl
 have r3:=hr 3 _ rfl
 have r4:=hr 4 _ rfl
 have r5:=hr 5 _ rfl
 have r6:=hr 6 _ rfl
 have q0:=hq 0 _ rfl
 have q1:=hq 1 _ rfl
 have q2:=hq 2 _ rfl
 have q3:=hq 3 _ rfl
 have q4:=hq 4 _ rfl
 have q5:=hq 5 _ rfl
 have q6:=hq 6 _ rfl
 have hw9:=hgS.size
 have HB9:=mk0 (bg0 (hB2) hgS (by omega))
 have HG9:=mk0 hgS
 simp only [setL,Nat.reduceAdd]at h9
 have H9:=mk0 h9
 clear hgS hq hr h9
 have v0:=cl0 m0 0 (x:=.slice nW hm.words.length dW) rfl
 have v1:=cl0 m0 1 (x:=.int .i64 hm.young) rfl
 have v2:=cl0 m0 2 (x:=.int .i64 hm.old) rfl
 have v3:=cl0 m0 3 (x:=.int .i64 hm.ytop) rfl
 have v4:=cl0 m0 4 (x:=.int .i64 hm.otop) rfl
 have v5:=cl0 m0 5 (x:=.slice nO hm.noted.length dO) rfl
 have v6:=cl0 m0 6 (x:=.int .i64 hm.next) rfl
 have v7:=cl0 m0 7 (x:=.slice aC d.classes.length cC) rfl
 have v8:=cl0 m0 8 (x:=.slice aS d.supers.length cS) rfl
 have v9:=cl0 m0 9 (x:=.slice aF d.fields.length cF) rfl
 have v10:=cl0 m0 10 (x:=.slice aN d.names.length cN) rfl
 have v11:=cl0 m0 11 (x:=.slice aT d.targets.length cT) rfl
 have v12:=cl0 m0 12 (x:=.slice nR rs.length dR) rfl
 have v13:=cl0 m0 13 (x:=.int .i64 h.ytop) rfl
 have v14:=cl0 m0 14 (x:=.bool true) rfl
 have u0:=cl0 m1 0 (x:=.int .i64 0) rfl
 have lm0:=lt0 m0
 have lm1:=lt0 m1
 have ne0:¬w1.heap.size=w.heap.size+1+1+1+1+1:=by omega
 have ne1:¬w1.heap.size+1=w.heap.size+1+1+1+1+1:=by omega
 have ne2:¬w1.heap.size=w.heap.size+1+1+1+1:=by omega
 have ne3:¬w1.heap.size=w.heap.size+4:=by omega
 have HCL:Hid (∀p:Addr,p.block<W2.heap.size->p.block≠w.heap.size+1+1+1+1+1->W9.cell? p=W2.cell? p):=fun p hp hne=>World.cell?_of_block (a:=p) (HG9.out.block p.block hp (fun e=>hne (Option.some.inj e)))
 have HOF:Hid (OwnV w.heap.size W9 (.slice nW hm.words.length dW) (.slice nO hm.noted.length dO) hm):=((hov.below hA2).mono (by omega)).grown HG9.out (fun e=>by have:=(hov.rW.lt _ e).1;omega) (fun e=>by have:=(hov.rO.lt _ e).1;omega)
 have HRF:Hid (W9.ownsRow w.heap.size 3 1 (.slice nR rs.length dR) rs.length (intV rs)):=zhp ((zhj hor hA2).kept HG9.out (Or.inr fun e=>by have:=(hor.lt _ e).1;omega)) (by omega)
 clear hov hor hs0
 have HW2:=mk0 hW2
 clear hA2 m0 m1 k2 hB2 hb1 hW2 hs2'
 go_wp2_with fail
 rw [<-HW2.out]
 refine wp_region_held_drew (S:=fun W'=>∀p:Addr,p.block<W2.heap.size->p.block≠w.heap.size+1+1+1+1+1->W'.cell? p=W2.cell? p) (by kernel_rfl) (fun p hp _=>rfl) fun hH=>?_
 refine ta 0 (.pointer (some ⟨w1.heap.size,0,none⟩)) rfl hH ?_
 refine ta 1 (.pointer (some ⟨w1.heap.size,0,none⟩)) rfl hH ?_
 refine ta 2 (.pointer (some ⟨w1.heap.size,0,none⟩)) rfl hH ?_
 refine ta 3 (.agg #[.slice nW hm.words.length dW,.int .i64 hm.young,.int .i64 hm.old,.int .i64 hm.ytop,.int .i64 hm.otop,.slice nO hm.noted.length dO,.int .i64 hm.next]) rfl hH ?_
 refine ta 4 (.pointer (some ⟨w1.heap.size,0,none⟩)) rfl hH ?_
 refine ta 5 (.pointer (some ⟨w1.heap.size,12,none⟩)) rfl hH ?_
 refine ta 6 (.slice nR rs.length dR) rfl hH ?_
 refine ta 7 (.pointer (some ⟨w1.heap.size,13,none⟩)) rfl hH ?_
 refine ta 8 (.int .i64 h.ytop) rfl hH ?_
 refine ta 9 (.pointer (some ⟨w1.heap.size,14,none⟩)) rfl hH ?_
 refine ta 10 (.bool true) rfl hH ?_
 refine ta 11 (.pointer (some ⟨w1.heap.size+1,0,none⟩)) rfl hH ?_
 refine ta 12 (.int .i64 0) rfl hH ?_
 refine wpAnyH_ready (rs:=[13]) (by kernel_rfl) (by simp) ?_
 refine AllReadyH.cons rfl (fun K13 hK13=>?_) AllReadyH.nil
 go_simp
 rw [H9.out]
 refine hK13.out _ _ HCL.out fun hH=>?_
 refine ta 14 (.slice nR rs.length dR) rfl hH ?_
 refine ta 15 (.int .i64 h.ytop) rfl hH ?_
 refine ta 16 (.bool true) rfl hH ?_
 refine ta 17 (.int .i64 0) rfl hH ?_
 refine wpAnyH_done (by kernel_rfl) ?_ _
 clear hH
 try simp only [Act.put,List.setIfInBounds_toArray,List.set_cons_zero,List.set_cons_succ,List.getElem_toArray,List.getElem_cons_zero,List.getElem_cons_succ]
 go_wp2_with fail
 exact bodyPost_ret (v:=.tuple #[.agg #[.slice nW hm.words.length dW,.int .i64 hm.young,.int .i64 hm.old,.int .i64 hm.ytop,.int .i64 hm.otop,.slice nO hm.noted.length dO,.int .i64 hm.next],.slice nR rs.length dR,.int .i64 h.ytop,.bool true,.int .i64 0]) (by simp [results,Tryz.results46,go_sem,q0,q1,q2,q3,q4,q5,q6]) rfl ⟨HB9.out.drew,nW,dW,nO,dO,nR,dR,by rw [HHM.out],by rw [HHM.out];exact HOF.out.below (Below.refl _ _).drew,zhj HRF.out (Below.refl _ _).drew⟩
end Go.Proofs.YtjdnmblggdobgaaGreat
