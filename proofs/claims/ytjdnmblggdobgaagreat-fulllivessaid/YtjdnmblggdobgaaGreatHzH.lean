import Derived.Test.YtjdnmblggdobgaaGreatHwI
import Derived.Test.YtjdnmblggdobgaaGreatJTk2Dies
import Derived.Test.YtjdnmblggdobgaaGreatHzG
import Derived.Test.YtjdnmblggdobgaaGreatJHyBHyC
set_option maxHeartbeats 4000000
set_option maxRecDepth 100000
namespace Go.Proofs.YtjdnmblggdobgaaGreat
open Go.RowKit Go.Maps
theorem zxu {d:LinkD} {h:HeapD} {rs:List Int} (h0:openErr d h rs=0):∃ts,Right d h ts/\rs.length<=1000/\∀v∈rs,leadB ts v=true:=by
 unfold openErr at h0
 by_cases hE:heapErr d h=0
 ·
  rw [if_pos hE]at h0
  obtain ⟨ts,rt⟩:=zs6 hE
  have e:tsOf d h=ts:=by unfold tsOf;rw [rt.both];rfl
  rw [e]at h0
  unfold rootErr at h0
  by_cases h1:(rs.length:Int)<=1000
  ·
   rw [if_pos (decide_eq_true h1)]at h0
   cases h2:rs.any fun x=>!leadB ts x with
   | true=>rw [h2]at h0;simp at h0
   | false=>
     refine ⟨ts,rt,by omega,fun v hv=>?_⟩
     have:=List.any_eq_false.1 h2 v hv
     cases hc:leadB ts v with
     | true=>rfl
     | false=>rw [hc]at this;exact absurd rfl this
  rw [if_neg (by simpa using h1)]at h0
  cases h0
 rw [if_neg hE]at h0
 exact absurd h0 hE
theorem zxv (w:World) (b B T:Nat) (nW nO nR kC kS kF kN kT:Value) (h:HeapD) (rs:List Int) (d:LinkD) (o:Tsk b B w T nW nO nR kC kS kF kN kT h rs d) (ts:List ThD) (rt:Right d h ts) (hr:∀v∈rs,leadB ts v=true) (hw:∀x∈h.words,(Lit.int .i64 x).wf=true) (hrl:rs.length<=1000):
 Calls Tryz.prog 92 #[.pointer (some ⟨T,0,none⟩)] w fun r w'=>r=.returned (.int .i64 (liveN d h rs))/\Below w.heap.size w w':=by
 have HRC:=mk0 (zxt w b B T _ _ _ _ _ _ _ _ h rs d o ts rt hr hw hrl)
 have HRT:=mk0 (And.intro rt hr)
 clear o rt hr hw
 go_enter Tryz.func92,Tryz.ntmps92
 go_wp2_with fail
 refine HRC.out.mono ?_
 rintro r w1 ⟨hb1,X,all,rfl,hpl,hdi⟩
 obtain ⟨rt,hr⟩:=HRT.out
 have z:=rt.sized
 have z1:=z.young
 have z2:=z.old
 have z3:=z.len
 have htl:=zxa rt
 rw [List.length_map]at htl
 have hfw:=hdi.few
 have hbd:∀t∈all,0<=t.loc/\t.loc<=100000/\0<=t.len/\t.len<=5000:=fun t ht=>by
  have hap:=zlq rt.sized rt.both t (hdi.inT t ht)
  have hff:t.fin=t.loc+3+t.len:=rfl
  omega
 have hsm:(all.map fun t:ThD=>3+t.len).sum=liveN d h rs:=by
  rw [<-zxc rt hr hdi.nd hdi.all,List.map_map]
  refine congrArg List.sum (List.map_congr_left fun t ht=>?_)
  exact congrArg (3+ ·) (congrArg ThD.len (th_at rt (hdi.inT t ht)))
 have HWD:=mk0 (zxp w1 X all hpl hdi.nd hbd (by omega))
 rw [hsm]at HWD
 have HB1:=mk0 hb1
 clear hb1 hpl hdi rt hr z z1 z2 z3 htl hfw hbd hsm HRC
 go_wp2_with fail
 refine HWD.out.mono ?_
 rintro r w2 ⟨rfl,hb2⟩
 have HB2:Hid (Below w.heap.size w w2):=HB1.out.trans (hb2.mono HB1.out.size)
 clear hb2
 go_wp2_with fail
 go_ret
 exact ⟨rfl,HB2.out⟩
theorem zxw (w:World) (B P0 P1 P2:Nat) (vW vO kC kS kF kN kT:Value) (h:HeapD) (d:LinkD) (g:Hd B w vW vO kC kS kF kN kT h d) (vR:Value) (rs:List Int) (hs:SL 1 RI (· <B) w vR rs) (hwr:∀x∈rs,(Lit.int .i64 x).wf=true) (k0:w.heap[P0]? =some (.cells #[vW,.int .i64 h.young,.int .i64 h.old,.int .i64 h.ytop,.int .i64 h.otop,vO,.int .i64 h.next] 24 (0,0))) (k1:w.heap[P1]? =some (.cells #[kC,kS,kF,kN,kT] 36 (0,0))) (k2:w.heap[P2]? =some (.cells #[vR] 22 (0,0))):
 Calls Tryz.prog 91 #[.pointer (some ⟨P0,0,none⟩),.pointer (some ⟨P1,0,none⟩),.pointer (some ⟨P2,0,none⟩)] w fun r w'=>Below w.heap.size w w'/\((∃v,r=.returned v/\(∃n,v=.int .i64 n)/\openErr d h rs=0/\v=.int .i64 (liveN d h rs))\/∃e p,r=.panicked [wrongV e p]/\e=openErr d h rs/\p=0/\openErr d h rs≠0):=by
 have HG:=mk0 g
 obtain ⟨aW,cW,aO,cO,aC,cC,aS,cS,aF,cF,aN,cN,aT,cT,rfl,rfl,rfl,rfl,rfl,rfl,rfl⟩:=g.agg
 have HSR:=mk0 hs
 obtain ⟨aR,cR,rfl,-⟩:=hs
 clear g
 have l0:=lt0 k0
 have l1:=lt0 k1
 have l2:=lt0 k2
 have e2:=cl0 k2 0 (x:=.slice aR rs.length cR) rfl
 obtain ⟨a0,a1,a2,a3,a4,a5,a6,az,al⟩:=cells7 k0
 obtain ⟨b0,b1,b2,b3,b4,bl⟩:=cells5 k1
 have HCK:=mk0 (zv0 w B _ _ _ _ _ _ _ h d HG.out (.slice aR rs.length cR) rs HSR.out hwr)
 have HWR:=mk0 hwr
 clear k0 k1 k2 hwr
 go_enter Tryz.func91,Tryz.ntmps91
 go_wp2_with fail
 refine HCK.out.mono ?_
 rintro r w1 ⟨hb1,⟨h0,nW,dW,nO,dO,nR,dR,rfl,hov,hor,hap⟩ | ⟨h0,rfl⟩⟩
 rotate_left
 ·
  exact ⟨rfl,hb1,Or.inr ⟨_,_,rfl,rfl,rfl,h0⟩⟩
 obtain ⟨ts,rt,hrl,hrd⟩:=zxu h0
 have hgl:=HG.out.le
 have hs1:=hb1.size
 obtain ⟨W2,hW2,hB2,hs2,m0⟩:=boxes1 w1 #[.slice nW h.words.length dW,.int .i64 h.young,.int .i64 h.old,.int .i64 h.ytop,.int .i64 h.otop,.slice nO h.noted.length dO,.int .i64 h.next,.slice aC d.classes.length cC,.slice aS d.supers.length cS,.slice aF d.fields.length cF,.slice aN d.names.length cN,.slice aT d.targets.length cT,.slice nR rs.length dR] 131
 have hb2:Below w.heap.size w W2:=hb1.trans (hB2.mono hs1)
 have hTK:Tsk w.heap.size B W2 w1.heap.size (.slice nW h.words.length dW) (.slice nO h.noted.length dO) (.slice nR rs.length dR) (.slice aC d.classes.length cC) (.slice aS d.supers.length cS) (.slice aF d.fields.length cF) (.slice aN d.names.length cN) (.slice aT d.targets.length cT) h rs d:=by
  refine ⟨m0,zhj hov.rW hB2,zhj hov.rO hB2,zhj hor hB2,(HG.out.below (hb2.mono HG.out.le)).lk,by omega,hs1,?_⟩
  unfold sepB
  simp only [List.pairwise_cons,List.mem_cons,List.not_mem_nil,or_false,forall_eq_or_imp,forall_eq,List.Pairwise.nil,and_true,false_implies,implies_true]
  exact ⟨⟨fun k e e2=>by have:=Option.some.inj e;have:=(hov.rW.lt k e2).2;omega,fun k e e2=>by have:=Option.some.inj e;have:=(hov.rO.lt k e2).2;omega,fun k e e2=>by have:=Option.some.inj e;have:=(hor.lt k e2).2;omega⟩,⟨fun k e=>hov.ne k e,fun k e e2=>(hap k e2).1 e⟩,fun k e e2=>(hap k e2).2 e⟩
 have HLV:=mk0 (zxv W2 w.heap.size B w1.heap.size _ _ _ _ _ _ _ _ h rs d hTK ts rt hrd HG.out.ww hrl)
 have HB2:=mk0 hb2
 have HW2:=mk0 hW2
 have HO0:=mk0 h0
 clear hb1 hov hor hap hW2 hB2 hb2 hTK m0 h0 rt hrl hrd HCK hgl e2
 clear a0 a1 a2 a3 a4 a5 a6 al az
 clear b0 b1 b2 b3 b4 bl
 go_wp2_with fail
 rw [<-HW2.out]
 refine HLV.out.mono ?_
 rintro r w3 ⟨rfl,hb3⟩
 have HB3:Hid (Below w.heap.size w w3):=HB2.out.trans (hb3.mono HB2.out.size)
 clear hb3
 go_wp2_with fail
 go_ret
 exact ⟨HB3.out,Or.inl ⟨_,rfl,⟨_,rfl⟩,HO0.out,rfl⟩⟩
theorem callLive1 (args:Array Value) (w:World):(callFunc 91 args).run Tryz.prog w=.ok (.enter 91 args) w:=by kernel_rfl
theorem zxx (w:World) (B:Nat) (vW vO kC kS kF kN kT:Value) (h:HeapD) (d:LinkD) (g:Hd B w vW vO kC kS kF kN kT h d) (vR:Value) (rs:List Int) (hs:SL 1 RI (· <B) w vR rs) (hwr:∀x∈rs,(Lit.int .i64 x).wf=true):
 Calls Tryz.prog 40 #[.agg #[vW,.int .i64 h.young,.int .i64 h.old,.int .i64 h.ytop,.int .i64 h.otop,vO,.int .i64 h.next],.agg #[kC,kS,kF,kN,kT],vR] w fun r w'=>Below w.heap.size w w'/\((openErr d h rs=0/\r=.returned (.tuple #[.int .i64 (liveN d h rs),.int .i64 0]))\/(openErr d h rs≠0/\r=.returned (.tuple #[.int .i64 0,.int .i64 (openErr d h rs)]))):=by
 have hmf:=mkf Tryz.prog
 have HG:=mk0 g
 have HSR:=mk0 hs
 obtain ⟨aW,cW,aO,cO,aC,cC,aS,cS,aF,cF,aN,cN,aT,cT,rfl,rfl,rfl,rfl,rfl,rfl,rfl⟩:=g.agg
 obtain ⟨aR,cR,rfl,-⟩:=hs
 clear g
 obtain ⟨W0,hW0,hB0,hs0,k0,k1,k2⟩:=boxes3 w #[.slice aW h.words.length cW,.int .i64 h.young,.int .i64 h.old,.int .i64 h.ytop,.int .i64 h.otop,.slice aO h.noted.length cO,.int .i64 h.next] #[.slice aC d.classes.length cC,.slice aS d.supers.length cS,.slice aF d.fields.length cF,.slice aN d.names.length cN,.slice aT d.targets.length cT] #[.slice aR rs.length cR] 24 36 22
 have HMD:Hid (Calls Tryz.prog 65 #[.func (.func 91) #[] #[.pointer (some ⟨w.heap.size,0,none⟩),.pointer (some ⟨w.heap.size+1,0,none⟩),.pointer (some ⟨w.heap.size+1+1,0,none⟩)]] W0 fun r w'=>Below W0.heap.size W0 w'/\W0.heap.size+4<=w'.heap.size/\
  ((∃v,r=.returned (.tuple #[v,.agg #[.int .i64 0,.int .i64 0]])/\(∃n,v=.int .i64 n)/\openErr d h rs=0/\v=.int .i64 (liveN d h rs))\/
   (∃e p,r=.returned (.tuple #[.int .i64 0,.agg #[.int .i64 e,.int .i64 p]])/\(e=openErr d h rs/\p=0/\openErr d h rs≠0)))):=by
  refine zjp W0 91 _ (fun v _=>openErr d h rs=0/\v=.int .i64 (liveN d h rs)) (fun e p=>e=openErr d h rs/\p=0/\openErr d h rs≠0) callLive1 ?_ ?_
  ·
   intro W hW hs
   have hk:∀(b:Nat) (ob:Obj),W0.heap[b]? =some ob->W.heap[b]? =some ob:=fun b ob e=>(hW.block b (lt0 e)).trans e
   have hbb:=(hB0.trans (hW.mono hB0.size)).mono HG.out.le
   exact zxw W B _ _ _ _ _ _ _ _ _ _ h d (HG.out.below hbb) _ rs (HSR.out.keptI (Kp.below hbb)) hwr (hk _ _ k0) (hk _ _ k1) (hk _ _ k2)
  intro v W W' _ _ o
  exact o
 have HB0:=mk0 hB0
 have HE0:=mk0 hW0
 rw [HE0.out]at HMD
 clear k0 k1 k2 hB0 hW0 hs0 hwr
 go_enter Tryz.func40,Tryz.ntmps40
 go_wp2_with fail
 refine HMD.out.mono ?_
 rw [<-HE0.out]
 rintro r w1 ⟨hb1,hs1,⟨v,rfl,-,h0,rfl⟩ | ⟨e,p,rfl,rfl,rfl,h0⟩⟩
 ·
  obtain ⟨W2,hW2,hA2,hs2,m1⟩:=boxes1 w1 #[.int .i64 0,.int .i64 0] 84
  have u0:=cl0 m1 0 (x:=.int .i64 0) rfl
  have lm:=lt0 m1
  have HF:Hid (Below w.heap.size w W2):=HB0.out.trans ((hb1.trans (hA2.mono hb1.size)).mono HB0.out.size)
  have HW2:=mk0 hW2
  have H00:=mk0 h0
  clear hb1 hW2 hA2 m1 HMD
  go_wp2_with fail
  rw [<-HW2.out]
  go_quiet (fail)
  go_wp2_with fail
  exact bodyPost_ret (v:=.tuple #[.int .i64 (liveN d h rs),.int .i64 0]) (by simp [results,Tryz.results40,go_sem]) rfl ⟨zdq HF.out _,Or.inl ⟨H00.out,rfl⟩⟩
 obtain ⟨W2,hW2,hA2,hs2,m1⟩:=boxes1 w1 #[.int .i64 (openErr d h rs),.int .i64 0] 84
 have u0:=cl0 m1 0 (x:=.int .i64 (openErr d h rs)) rfl
 have lm:=lt0 m1
 have HF:Hid (Below w.heap.size w W2):=HB0.out.trans ((hb1.trans (hA2.mono hb1.size)).mono HB0.out.size)
 have HW2:=mk0 hW2
 have H00:=mk0 h0
 clear hb1 hW2 hA2 m1 HMD h0
 go_wp2_with fail
 rw [<-HW2.out]
 go_quiet (fail)
 go_wp2_with fail
 exact bodyPost_ret (v:=.tuple #[.int .i64 0,.int .i64 (openErr d h rs)]) (by simp [results,Tryz.results40,go_sem]) rfl ⟨zdq HF.out _,Or.inr ⟨H00.out,rfl⟩⟩
end Go.Proofs.YtjdnmblggdobgaaGreat
