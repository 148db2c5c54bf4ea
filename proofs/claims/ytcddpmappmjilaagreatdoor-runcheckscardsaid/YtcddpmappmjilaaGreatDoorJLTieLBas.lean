import Derived.Test.YtcddpmappmjilaaGreatDoorJLSaDRvE
import Derived.Test.YtcddpmappmjilaaGreatDoorJLDifLFld
import Derived.Test.YtcddpmappmjilaaGreatDoorJLWvLLv
import Derived.Test.YtcddpmappmjilaaGreatDoorJLClVmM
import Derived.Test.YtcddpmappmjilaaGreatDoorLNam
import Derived.Test.YtcddpmappmjilaaGreatDoorJLMkArgL
import Derived.KernelRfl
namespace Go.Proofs.YtcddpmappmjilaaGreatDoor
open Go.RowKit Go.Maps
def qsOf (l:List ClassD):List QD:=[⟨89,6,askNames l⟩,⟨90,5,askTop l⟩,⟨91,4,askUpper l⟩,⟨92,5,askSupers l⟩,⟨93,4,askNone l⟩,⟨94,4,askError l⟩,⟨95,5,askTold l⟩,⟨96,6,askParts l⟩,⟨97,4,askSame l⟩,⟨98,2,askFew l⟩]
def tieRes (l:List ClassD):Int:=if checkL l=0 then askRes (qsOf l) else checkL l
theorem qs_SL (w:World) (b t:Nat) (l:List ClassD):SL 2 (RQ #[.pointer (some ⟨b,0,none⟩)]) (· <w.heap.size+1) (w.alloc (.cells #[.func (.func 89) #[.pointer (some ⟨b,0,none⟩)] #[],.int .i64 6,.func (.func 90) #[.pointer (some ⟨b,0,none⟩)] #[],.int .i64 5,.func (.func 91) #[.pointer (some ⟨b,0,none⟩)] #[],.int .i64 4,.func (.func 92) #[.pointer (some ⟨b,0,none⟩)] #[],.int .i64 5,.func (.func 93) #[.pointer (some ⟨b,0,none⟩)] #[],.int .i64 4,.func (.func 94) #[.pointer (some ⟨b,0,none⟩)] #[],.int .i64 4,.func (.func 95) #[.pointer (some ⟨b,0,none⟩)] #[],.int .i64 5,.func (.func 96) #[.pointer (some ⟨b,0,none⟩)] #[],.int .i64 6,.func (.func 97) #[.pointer (some ⟨b,0,none⟩)] #[],.int .i64 4,.func (.func 98) #[.pointer (some ⟨b,0,none⟩)] #[],.int .i64 2] t)) (.slice (some ⟨w.heap.size,0,none⟩) 10 10) (qsOf l):=by
 refine ⟨some ⟨w.heap.size,0,none⟩,10,rfl,by simp [qsOf],by unfold maxLen;simp [qsOf],fun k hk=>?_⟩
 have hk':k<10:=by simpa [qsOf]using hk
 refine ⟨w.heap.size,0,[.func (.func (qsOf l)[k].g) #[.pointer (some ⟨b,0,none⟩)] #[],.int .i64 (qsOf l)[k].e],rfl,by simp,by simp,rfl,?_,rfl⟩
 have hc:∀j v,(#[.func (.func 89) #[.pointer (some ⟨b,0,none⟩)] #[],.int .i64 6,.func (.func 90) #[.pointer (some ⟨b,0,none⟩)] #[],.int .i64 5,.func (.func 91) #[.pointer (some ⟨b,0,none⟩)] #[],.int .i64 4,.func (.func 92) #[.pointer (some ⟨b,0,none⟩)] #[],.int .i64 5,.func (.func 93) #[.pointer (some ⟨b,0,none⟩)] #[],.int .i64 4,.func (.func 94) #[.pointer (some ⟨b,0,none⟩)] #[],.int .i64 4,.func (.func 95) #[.pointer (some ⟨b,0,none⟩)] #[],.int .i64 5,.func (.func 96) #[.pointer (some ⟨b,0,none⟩)] #[],.int .i64 6,.func (.func 97) #[.pointer (some ⟨b,0,none⟩)] #[],.int .i64 4,.func (.func 98) #[.pointer (some ⟨b,0,none⟩)] #[],.int .i64 2]:Array Value)[j]? =some v->(w.alloc (.cells #[.func (.func 89) #[.pointer (some ⟨b,0,none⟩)] #[],.int .i64 6,.func (.func 90) #[.pointer (some ⟨b,0,none⟩)] #[],.int .i64 5,.func (.func 91) #[.pointer (some ⟨b,0,none⟩)] #[],.int .i64 4,.func (.func 92) #[.pointer (some ⟨b,0,none⟩)] #[],.int .i64 5,.func (.func 93) #[.pointer (some ⟨b,0,none⟩)] #[],.int .i64 4,.func (.func 94) #[.pointer (some ⟨b,0,none⟩)] #[],.int .i64 4,.func (.func 95) #[.pointer (some ⟨b,0,none⟩)] #[],.int .i64 5,.func (.func 96) #[.pointer (some ⟨b,0,none⟩)] #[],.int .i64 6,.func (.func 97) #[.pointer (some ⟨b,0,none⟩)] #[],.int .i64 4,.func (.func 98) #[.pointer (some ⟨b,0,none⟩)] #[],.int .i64 2] t)).cell? ⟨w.heap.size,j,none⟩=some v:=fun j v h=>cell_of (heap_alloc_new w _) j h
 match k,hk' with
 | 0,_=>
   intro j hj
   rcases (by omega:j=0\/j=1)with rfl | rfl
   ·
    exact hc 0 _ rfl
   exact hc 1 _ rfl
 | 1,_=>
   intro j hj
   rcases (by omega:j=0\/j=1)with rfl | rfl
   ·
    exact hc 2 _ rfl
   exact hc 3 _ rfl
 | 2,_=>
   intro j hj
   rcases (by omega:j=0\/j=1)with rfl | rfl
   ·
    exact hc 4 _ rfl
   exact hc 5 _ rfl
 | 3,_=>
   intro j hj
   rcases (by omega:j=0\/j=1)with rfl | rfl
   ·
    exact hc 6 _ rfl
   exact hc 7 _ rfl
 | 4,_=>
   intro j hj
   rcases (by omega:j=0\/j=1)with rfl | rfl
   ·
    exact hc 8 _ rfl
   exact hc 9 _ rfl
 | 5,_=>
   intro j hj
   rcases (by omega:j=0\/j=1)with rfl | rfl
   ·
    exact hc 10 _ rfl
   exact hc 11 _ rfl
 | 6,_=>
   intro j hj
   rcases (by omega:j=0\/j=1)with rfl | rfl
   ·
    exact hc 12 _ rfl
   exact hc 13 _ rfl
 | 7,_=>
   intro j hj
   rcases (by omega:j=0\/j=1)with rfl | rfl
   ·
    exact hc 14 _ rfl
   exact hc 15 _ rfl
 | 8,_=>
   intro j hj
   rcases (by omega:j=0\/j=1)with rfl | rfl
   ·
    exact hc 16 _ rfl
   exact hc 17 _ rfl
 | 9,_=>
   intro j hj
   rcases (by omega:j=0\/j=1)with rfl | rfl
   ·
    exact hc 18 _ rfl
   exact hc 19 _ rfl
 | k+10,h=>exact absurd h (by omega)
theorem qs_call (l:List ClassD):∀q∈qsOf l,∀args w,(callFunc q.g args).run Tryz.prog w=.ok (.enter q.g args) w:=by
 intro q hq
 simp only [qsOf,List.mem_cons,List.not_mem_nil,or_false]at hq
 rcases hq with rfl | rfl | rfl | rfl | rfl | rfl | rfl | rfl | rfl | rfl<;>intro args w<;>kernel_rfl
theorem qs_err (l:List ClassD):∀q∈qsOf l,q.e≠0:=by
 intro q hq
 simp only [qsOf,List.mem_cons,List.not_mem_nil,or_false]at hq
 rcases hq with rfl | rfl | rfl | rfl | rfl | rfl | rfl | rfl | rfl | rfl<;>simp
theorem qs_ans (w:World) (B b:Nat) (l:List ClassD) (vC vS vF vN vT vL:Value) (Bm:Nat) (hw1:Web B w b l vC vS vF vN vT vL Bm) (k:Nat) (hk:k<(qsOf l).length) (hall:∀(j:Nat) (hj:j<(qsOf l).length),j<k->(qsOf l)[j].ans=true):
 Calls Tryz.prog (qsOf l)[k].g #[.pointer (some ⟨b,0,none⟩)] w fun r w'=>r=.returned (.bool (qsOf l)[k].ans)/\Below w.heap.size w w':=by
 match k,hk,hall with
 | 0,hk,hall=>exact namesDiffer_any _ B b l _ _ _ _ _ _ _ hw1
 | 1,hk,hall=>exact hasTopAndError_any _ B b l _ _ _ _ _ _ _ hw1
 | 2,hk,hall=>exact topAlone_any _ B b l _ _ _ _ _ _ _ hw1
 | 3,hk,hall=>exact supersAreKnown_any _ B b l _ _ _ _ _ _ _ hw1
 | 4,hk,hall=>exact noneIsAboveItself_any _ B b l _ _ _ _ _ _ _ hw1
 | 5,hk,hall=>exact errorIsRight_any _ B b l _ _ _ _ _ _ _ hw1 (by have h:=hall 1 (by simp [qsOf]) (by omega);have h2:askTop l=true:=h;rw [askTop,Bool.and_eq_true]at h2;simpa [hasC]using h2.2)
 | 6,hk,hall=>exact allToldIsKnown_any _ B b l _ _ _ _ _ _ _ hw1
 | 7,hk,hall=>exact partsDiffer_any _ B b l _ _ _ _ _ _ _ hw1
 | 8,hk,hall=>exact namesStand_any _ B b l _ _ _ _ _ _ _ hw1 (hall 3 (by simp [qsOf]) (by omega))
 | 9,hk,hall=>exact areFew_any _ B b l _ _ _ _ _ _ _ hw1
 | k+10,hk,_=>exact absurd hk (by simp [qsOf])
set_option maxRecDepth 100000 in
set_option maxHeartbeats 2000000 in
theorem askAll_any (w:World) (B b:Nat) (l:List ClassD) (vC vS vF vN vT vL:Value) (Bm:Nat) (hw:Web B w b l vC vS vF vN vT vL Bm):
 Calls Tryz.prog 62 #[.pointer (some ⟨b,0,none⟩)] w fun r w'=>ChkOut (askRes (qsOf l)) r/\Below w.heap.size w w':=by
 have hmf:∀(fn:Fn) (first cap:Array Value) (w:World),(Instr.makeFunc fn first cap).run Tryz.prog w=.ok (.func fn first cap) w:=fun _ _ _ _=>rfl
 have HW:=mkHid hw
 have HB0:=mkHid (fun o=>(Below.refl w.heap.size w).alloc (Nat.le_refl _) o)
 have HQ:=mkHid (fun t=>qs_SL w b t l)
 clear hw
 go_enter Tryz.func62,Tryz.ntmps62
 go_wp2_with fail
 refine (Ask_any _ (w.heap.size+1) #[.pointer (some ⟨b,0,none⟩)] _ (qsOf l) (HQ.out _) (by simp) (qs_call l) (qs_err l) ?_).mono ?_
 ·
  intro k hk hall w' hb
  exact qs_ans w' B b l _ _ _ _ _ _ _ (HW.out.below (((HB0.out _).mono HW.out.le).trans (hb.mono (Nat.le_trans HW.out.le (HB0.out _).size)))) k hk hall
 rintro r w1 ⟨⟨hc,rfl⟩ | ⟨hc,rfl⟩,hb⟩
 ·
  exact ⟨rfl,Or.inl ⟨hc,rfl⟩,(HB0.out _).trans (hb.mono (HB0.out _).size)⟩
 have HC:=mkHid hc
 have HB:=mkHid ((HB0.out _).trans (hb.mono (HB0.out _).size))
 clear hc hb
 go_wp2_with fail
 go_end0
 exact ⟨Or.inr ⟨HC.out,rfl⟩,HB.out⟩
def TiedW (B:Nat) (w:World) (l:List ClassD) (v:Value) (p:Value) (w':World):Prop:=∃b vS vF vN vT vL Bm,p=.pointer (some ⟨b,0,none⟩)/\w.heap.size<=b/\WebM (fun k=>(k<B\/w.heap.size<=k)/\k<w'.heap.size) w' b l v vS vF vN vT vL Bm
set_option maxHeartbeats 2000000 in
theorem tie1_any (w:World) (B P:Nat) (l:List ClassD) (v:Value) (hv:SL 4 RC (· <B) w v l) (hB:B<=w.heap.size) (hchk:checkL l=0) (hP:w.cell? ⟨P,0,none⟩=some v):
 Calls Tryz.prog 60 #[.pointer (some ⟨P,0,none⟩)] w fun r w'=>Below w.heap.size w w'/\
  ((∃p,r=.returned p/\(∃q,p=.pointer q)/\askRes (qsOf l)=0/\TiedW B w l v p w')\/∃e p,r=.panicked [wrongV e p]/\askRes (qsOf l)=e/\e≠0):=by
 have HV:=mkHid hv
 obtain ⟨ao,cl,rfl,-⟩:=hv
 go_enter Tryz.func60,Tryz.ntmps60
 go_wp2_with fail
 refine (weave_any w B l _ HV.out hB hchk).mono ?_
 rintro r w1 ⟨rfl,hb1,vS,vF,vN,vT,vL,hweb⟩
 have HW:=mkHid hweb
 have HB1:=mkHid hb1
 clear hweb hb1
 go_wp2_with fail
 refine (askAll_any w1 w1.heap.size (w.heap.size+1) l _ _ _ _ _ _ _ HW.out.web).mono ?_
 rintro r w2 ⟨⟨hc,rfl⟩ | ⟨hc,rfl⟩,hb⟩
 ·
  exact ⟨rfl,HB1.out.trans (hb.mono HB1.out.size),Or.inr ⟨_,_,rfl,rfl,hc⟩⟩
 have HC:=mkHid hc
 have HB:=mkHid (HB1.out.trans (hb.mono HB1.out.size))
 have HW2:Hid (TiedW B w l (.slice ao l.length cl) (.pointer (some ⟨w.heap.size+1,0,none⟩)) w2):=⟨_,_,_,_,_,_,_,rfl,by omega,((HW.out.kept ⟨hb.size,fun k hk _=>hb.block k hk.2⟩).mono (fun k hk=>⟨hk.1,Nat.lt_of_lt_of_le hk.2 hb.size⟩) (fun k hk=>hk.2))⟩
 clear hc hb HW
 go_wp2_with fail
 go_ret
 exact ⟨HB.out,Or.inl ⟨_,rfl,⟨_,rfl⟩,HC.out,HW2.out⟩⟩
theorem callTie1 (args:Array Value) (w:World):(callFunc 60 args).run Tryz.prog w=.ok (.enter 60 args) w:=by kernel_rfl
set_option maxHeartbeats 2000000 in
theorem tie_any (w:World) (B:Nat) (l:List ClassD) (v:Value) (hv:SL 4 RC (· <B) w v l) (hB:B<=w.heap.size):
 Calls Tryz.prog 40 #[v] w fun r w'=>Below w.heap.size w w'/\
  ((tieRes l=0/\∃p,r=.returned (.tuple #[p,.int .i64 0])/\TiedW B w l v p w')\/(tieRes l≠0/\r=.returned (.tuple #[.pointer none,.int .i64 (tieRes l)]))):=by
 have hmf:∀(fn:Fn) (first cap:Array Value) (w:World),(Instr.makeFunc fn first cap).run Tryz.prog w=.ok (.func fn first cap) w:=fun _ _ _ _=>rfl
 have HV:=mkHid hv
 obtain ⟨ao,cl,rfl,-⟩:=hv
 have HB0:=mkHid (fun o=>(Below.refl w.heap.size w).alloc (Nat.le_refl _) o)
 go_enter Tryz.func40,Tryz.ntmps40
 go_wp2_with fail
 refine (Check_any _ B l _ (HV.out.keptC (Kp.below ((HB0.out _).mono hB))) (Nat.le_trans hB (HB0.out _).size)).mono ?_
 rintro r w1 ⟨rfl,hb1⟩
 have hB1:=(HB0.out (.cells #[.slice ao l.length cl] 22)).trans (hb1.mono (HB0.out _).size)
 have hP1:w1.cell? ⟨w.heap.size,0,none⟩=some (.slice ao l.length cl):=(hb1.cell (p:=⟨w.heap.size,0,none⟩) (by simp)).trans (by simp [go_sem])
 have hz1:w.heap.size+1<=w1.heap.size:=by have:=hb1.size;simpa using this
 have HB1:=mkHid hB1
 clear hb1 hB1
 by_cases hchk:checkL l=0
 ·
  have HT:Hid (tieRes l=askRes (qsOf l)):=by show tieRes l=_;rw [tieRes,if_pos hchk]
  have HCK:=mkHid hchk
  rw [hchk]
  clear hchk
  go_wp2_with fail
  refine (madeW_any w1 60 _ (fun p w'=>askRes (qsOf l)=0/\∃b vS vF vN vT vL Bm,p=.pointer (some ⟨b,0,none⟩)/\w.heap.size<=b/\WebM (fun k=>(k<B\/w1.heap.size+4<=k)/\k<w'.heap.size) w' b l (.slice ao l.length cl) vS vF vN vT vL Bm) (fun e p=>askRes (qsOf l)=e/\e≠0) callTie1 ?hc ?hst).mono ?_
  case hc=>
   intro W hW hWs
   refine (tie1_any W B w.heap.size l _ (HV.out.keptC (Kp.below ((HB1.out.trans (hW.mono HB1.out.size)).mono hB))) (Nat.le_trans hB (HB1.out.trans (hW.mono HB1.out.size)).size) HCK.out ((hW.cell (p:=⟨w.heap.size,0,none⟩) (by simp;omega)).trans hP1)).mono ?_
   rintro r w2 ⟨hb2,⟨p,rfl,hp,h0,b,vS,vF,vN,vT,vL,Bm,e,hle,hwb⟩ | ⟨e,p,rfl,h1,h2⟩⟩
   ·
    refine ⟨hb2,Or.inl ⟨p,rfl,hp,h0,b,vS,vF,vN,vT,vL,Bm,e,by omega,?_⟩⟩
    rw [hWs]at hwb
    exact hwb
   exact ⟨hb2,Or.inr ⟨e,p,rfl,h1,h2⟩⟩
  case hst=>
   rintro p W W' hz hf ⟨h0,b,vS,vF,vN,vT,vL,Bm,e,hle,hwb⟩
   refine ⟨h0,b,vS,vF,vN,vT,vL,Bm,e,hle,(hwb.kept ⟨hf.size,fun k hk _=>hf.block k hk.2 (by rcases hk.1 with h | h;(have:=HB1.out.size;omega);omega)⟩).mono (fun k hk=>⟨hk.1,Nat.lt_of_lt_of_le hk.2 hf.size⟩) (fun k hk=>hk.2)⟩
  rintro r w2 ⟨hb2,hz2,⟨p,rfl,-,h0,b,vS,vF,vN,vT,vL,Bm,rfl,hle,hwb⟩ | ⟨e,p,rfl,h1,h2⟩⟩
  ·
   have HBF:=mkHid (fun o=>(HB1.out.trans (hb2.mono HB1.out.size)).alloc (Nat.le_trans HB1.out.size hb2.size) o)
   have HR:Hid (∀o n,tieRes l=0/\TiedW B w l (.slice ao l.length cl) (.pointer (some ⟨b,0,none⟩)) ((w2.alloc o).drewN n)):=fun o n=>⟨HT.out.trans h0,b,vS,vF,vN,vT,vL,Bm,rfl,hle,(hwb.kept (w':=(w2.alloc o).drewN n) ⟨by show _<=(w2.alloc o).heap.size;simp,fun k hk _=>Below.heap_alloc _ _ _ hk.2⟩).mono (fun k hk=>⟨hk.1.imp id (fun h=>by omega),by show _<(w2.alloc o).heap.size;have:=hk.2;simp;omega⟩) (fun k hk=>hk.2)⟩
   clear hwb h0 hb2
   go_wp2_with fail
   go_quiet (fail)
   go_wp2_with fail
   exact bodyPost_ret (v:=.tuple #[_,_]) (by simp [results,Tryz.results40,go_sem]) rfl ⟨below_dn (HBF.out _) _,Or.inl ⟨(HR.out (.map #[] 0) 0).1,_,rfl,(HR.out _ _).2⟩⟩
  have HBF:=mkHid (fun o=>(HB1.out.trans (hb2.mono HB1.out.size)).alloc (Nat.le_trans HB1.out.size hb2.size) o)
  have HR:Hid (tieRes l=e/\e≠0):=⟨HT.out.trans h1,h2⟩
  clear hb2 h1 h2
  go_wp2_with fail
  go_quiet (fail)
  go_wp2_with fail
  exact bodyPost_ret (v:=.tuple #[_,_]) (by simp [results,Tryz.results40,go_sem];exact ⟨rfl,rfl⟩) rfl ⟨below_dn (HBF.out _) _,Or.inr ⟨by rw [HR.out.1];exact HR.out.2,by rw [HR.out.1]⟩⟩
 have HT:Hid (tieRes l=checkL l):=by show tieRes l=_;rw [tieRes,if_neg hchk]
 have hne:(checkL l==0)=false:=beq_eq_false_iff_ne.2 hchk
 have HN:=mkHid hchk
 clear hchk
 generalize checkL l=ce at*
 go_wp2_with fail
 exact bodyPost_ret (v:=.tuple #[_,_]) (by simp [results,Tryz.results40,go_sem];exact ⟨rfl,rfl⟩) rfl ⟨HB1.out,Or.inr ⟨by rw [HT.out];exact HN.out,by rw [HT.out]⟩⟩
end Go.Proofs.YtcddpmappmjilaaGreatDoor
namespace Go.Proofs.YtcddpmappmjilaaGreatDoor
open Go.RowKit
theorem flat_set {α:Type} {n:Nat} :∀(zs:List (List Value×α)) (k j:Nat) (v:Value),(∀z∈zs,z.1.length=n)->(hk:k<zs.length)->j<n->(zs.flatMap (·.1)).set (k*n+j) v=(zs.set k (zs[k].1.set j v,zs[k].2)).flatMap (·.1)
 | [],k,j,v,_,hk,_=>by simp at hk
 | x::zs,0,j,v,h,_,hj=>by
   have hx:=h x (List.mem_cons_self ..)
   simp [hx,hj]
 | x::zs,k+1,j,v,h,hk,hj=>by
   have hx:=h x (List.mem_cons_self ..)
   have hk':k<zs.length:=by simpa using hk
   have ih:=flat_set zs k j v (fun z hz=>h z (List.mem_cons_of_mem _ hz)) hk' hj
   have hlt:¬(k+1)*n+j<x.1.length:=by rw [hx,Nat.add_mul];omega
   have he:(k+1)*n+j - x.1.length=k*n+j:=by rw [hx,Nat.add_mul];omega
   simp only [List.flatMap_cons,List.set_append,hlt,if_false,he,ih,List.set_cons_succ,List.getElem_cons_succ]
theorem cloneKs_any (w:World) (M:Nat->Prop) (v:Value) (l:List KindD) (hv:SL 2 RK M w v l) (hl:l.length<=100000):
 Calls Tryz.prog 100 #[v] w fun r w'=>Below w.heap.size w w'/\∃v',r=.returned v'/\SL 2 RK (MT w.heap.size [80] w') w' v' l:=
 (cloneK_any w M v l hv hl).mono fun _ w' ⟨hb,v',zs,hr,hm,hz,ho⟩=>⟨hb,v',hr,by
  rw [<-hm]
  exact own_SL (T:=[80]) ho hz (by simp) (by have hz:zs.length=l.length:=(by rw [<-hm,List.length_map]);unfold maxLen;omega)⟩
theorem cloneHs_any (w:World) (M:Nat->Prop) (v:Value) (l:List HandD) (hv:SL 4 RH M w v l) (hl:l.length<=100000):
 Calls Tryz.prog 101 #[v] w fun r w'=>Below w.heap.size w w'/\∃v',r=.returned v'/\SL 4 RH (MT w.heap.size [98] w') w' v' l:=
 (cloneH_any w M v l hv hl).mono fun _ w' ⟨hb,v',zs,hr,hm,hz,ho⟩=>⟨hb,v',hr,by
  rw [<-hm]
  exact own_SL (T:=[98]) ho hz (by simp) (by have hz:zs.length=l.length:=(by rw [<-hm,List.length_map]);unfold maxLen;omega)⟩
theorem cloneFs_any (w:World) (M:Nat->Prop) (v:Value) (l:List FieldD) (hv:SL 3 RF M w v l) (hl:l.length<=100000):
 Calls Tryz.prog 64 #[v] w fun r w'=>Below w.heap.size w w'/\∃v',r=.returned v'/\SL 3 RF (MT w.heap.size [85] w') w' v' l:=
 (cloneF_any w M v l hv hl).mono fun _ w' ⟨hb,v',zs,hr,hm,hz,ho⟩=>⟨hb,v',hr,by
  rw [<-hm]
  exact own_SL (T:=[85]) ho hz (by simp) (by have hz:zs.length=l.length:=(by rw [<-hm,List.length_map]);unfold maxLen;omega)⟩
set_option maxRecDepth 100000 in
set_option maxHeartbeats 4000000 in
theorem copyMethods_any (w:World) (B:Nat) (v:Value) (l:List MethD) (hv:SL 9 RM (· <B) w v l) (hB:B<=w.heap.size) (hl:l.length<=100000) (hf:∀x∈l,x.args.length<=100000/\x.hands.length<=100000):
 Calls Tryz.prog 65 #[v] w fun r w'=>Below w.heap.size w w'/\∃v',r=.returned v'/\SL 9 RM (MT w.heap.size [83,80,98] w') w' v' l:=by
 have HV:=mkHid hv
 have HCL:=mkHid (cloneM_any w (· <B) v l hv hl)
 have HLim:=mkHid hl
 have HF:=mkHid hf
 obtain ⟨ao,ca,rfl,-⟩:=hv
 clear hl hf
 go_enter Tryz.func65,Tryz.ntmps65
 go_wp2_with (go_at_call 99;refine HCL.out.mono ?_;rintro r w1 ⟨hb1,v',zs0,rfl,hzm,hzR,hown⟩;have HB1:=mkHid hb1;have HZM:=mkHid hzm;have HZR:=mkHid hzR;have hzl0:zs0.length=l.length:=(by rw [<-hzm,List.length_map]);rw [hzl0]at hown;have HOW:=mkHid hown;obtain ⟨a0,c0,e0⟩:∃a0 c0,v'=.slice a0 l.length c0:=(by rcases hown.2 with ⟨e,h0⟩ | ⟨g,cap,cur,e,-⟩;(exact ⟨none,0,by rw [e,h0]⟩);(exact ⟨_,_,e⟩));subst e0;clear hb1 hzm hzR hown)
 clear HCL
 go_loopw [9] (fun i wr=>∃(k:Nat) (zs:List (List Value×MethD)),k<=l.length/\i=.int .i64 k/\Hid (zs.map (·.2)=l/\(∀z∈zs,z.1.length=9)/\(∀(j:Nat) (h:j<zs.length),j<k->RM (MT w.heap.size [80,98] wr) wr zs[j].1 zs[j].2)/\(∀(j:Nat) (h:j<zs.length),k<=j->RM (· <B) w zs[j].1 zs[j].2)/\wr.ownsRow w.heap.size 83 9 (.slice a0 l.length c0) l.length (zs.flatMap (·.1))/\Below w.heap.size w wr)) (fun i _=>l.length - (intOf i).toNat)
 case atStart=>exact ⟨0,zs0,Nat.zero_le _,rfl,HZM.out,(fun z hz=>(HZR.out z hz).1),(fun j h hj=>by omega),(fun j h _=>(HZR.out _ (List.getElem_mem h)).2),HOW.out,HB1.out⟩
 case round=>
  clear HZM HZR HOW HB1
  obtain ⟨k,zs,hk,rfl,HI⟩:=hrel
  obtain ⟨hzm,hz9,hdone,htodo,hown,hBr⟩:=HI.out
  have hzl:zs.length=l.length:=by rw [<-hzm,List.length_map]
  have hsr:w.heap.size<=wr.heap.size:=hBr.size
  by_cases hlt:k<l.length
  ·
   have hkz:k<zs.length:=by omega
   obtain ⟨g,cap,cur,eg,hgX,hgb,hgc,hgm,hgs,hgt⟩:∃g cap cur,Value.slice a0 l.length c0=.slice (some ⟨g,0,none⟩) l.length cap/\w.heap.size<=g/\wr.heap[g]? =some (.cells cur 83 (0,0))/\l.length<=cap/\cap<=maxLen/\cur.size=cap*9/\cur.toList.take (l.length*9)=zs.flatMap (·.1):=by
    rcases hown.2 with ⟨e,h0⟩ | h
    ·
     omega
    exact h
   obtain ⟨rfl,rfl⟩:a0=some ⟨g,0,none⟩/\c0=cap:=by injection eg with h1 h2 h3;exact ⟨h1,h3⟩
   have hlk:zs[k].2=l[k]:=by
    have:=List.getElem_map (f:=fun z:List Value×MethD=>z.2) (l:=zs) (i:=k) (h:=by simpa using hkz)
    rw [<-this]
    congr 1
   have htk:=htodo k hkz (Nat.le_refl _)
   rw [hlk]at htk
   obtain ⟨va,vh,hcs,s1,s2,hsz⟩:=htk
   have hcell:∀j u,zs[k].1[j]? =some u->wr.cell? ⟨g,k*9+j,none⟩=some u:=fun j u hu=>by
    have hj:j<9:=by have:=(List.getElem?_eq_some_iff.1 hu).1;rw [hz9 _ (List.getElem_mem hkz)]at this;exact this
    have:=hown.cells (g:=g) rfl (k*9+j) u (by rw [flat_get (n:=9) (fun z:List Value×MethD=>z.1) zs k j hz9 hkz hj];exact hu)
    rwa [addr_add,Nat.zero_add]at this
   rw [hcs]at hcell
   have q0:wr.cell? ⟨g,k*9,none⟩=some (.string l[k].name):=hcell 0 _ rfl
   have q1:wr.cell? ⟨g,k*9+1,none⟩=some (.bool l[k].static):=hcell 1 _ rfl
   have q2:wr.cell? ⟨g,k*9+2,none⟩=some (va):=hcell 2 _ rfl
   have q3:wr.cell? ⟨g,k*9+3,none⟩=some (.int .i64 l[k].ret.kind):=hcell 3 _ rfl
   have q4:wr.cell? ⟨g,k*9+4,none⟩=some (.string l[k].ret.cls):=hcell 4 _ rfl
   have q5:wr.cell? ⟨g,k*9+5,none⟩=some (.int .i64 l[k].stack):=hcell 5 _ rfl
   have q6:wr.cell? ⟨g,k*9+6,none⟩=some (.int .i64 l[k].locals):=hcell 6 _ rfl
   have q7:wr.cell? ⟨g,k*9+7,none⟩=some (.string l[k].code):=hcell 7 _ rfl
   have q8:wr.cell? ⟨g,k*9+8,none⟩=some (vh):=hcell 8 _ rfl
   have hgl:g<wr.heap.size:=lt_of hgb
   have HS1:=mkHid s1
   have HS2:=mkHid s2
   obtain ⟨o1,d1,rfl,-⟩:=s1
   obtain ⟨o2,d2,rfl,-⟩:=s2
   have hfk:=HF.out l[k] (List.getElem_mem hlt)
   have HFK:=mkHid hfk
   have HHC:=mkHid hcs
   have HOW:=mkHid hown
   have HGB:=mkHid hgb
   have HHL:=mkHid hlk
   have HSZ:=mkHid hsz
   have h00:(0:Int)<=k:=by omega
   have h01:(k:Int)<l.length:=by omega
   clear hfk hcell hcs hown hgb hgc hgm hgs hgt hdone htodo hz9 hzm hlk eg hsz
   have hYg:wr.heap.size≠g:=by omega
   have hB1:Below w.heap.size w (wr.alloc (.cells #[.string l[k].name,.bool l[k].static,.slice o1 l[k].args.length d1,.int .i64 l[k].ret.kind,.string l[k].ret.cls,.int .i64 l[k].stack,.int .i64 l[k].locals,.string l[k].code,.slice o2 l[k].hands.length d2] 83)):=hBr.alloc hsr _
   have HB1:=mkHid hB1
   have HC1:=mkHid (cloneKs_any (wr.alloc (.cells #[.string l[k].name,.bool l[k].static,.slice o1 l[k].args.length d1,.int .i64 l[k].ret.kind,.string l[k].ret.cls,.int .i64 l[k].stack,.int .i64 l[k].locals,.string l[k].code,.slice o2 l[k].hands.length d2] 83)) (· <B) _ _ (HS1.out.keptK (Kp.below (hB1.mono hB))) HFK.out.1)
   clear hB1
   go_wp2_with fail
   refine HC1.out.mono ?_
   rintro r w2 ⟨hb2,v1,rfl,sv1⟩
   have HB2:=mkHid hb2
   have HV1:=mkHid sv1
   obtain ⟨p1,e1,rfl,-⟩:=sv1
   have hg2:w2.heap[g]? =some (.cells cur 83 (0,0)):=((hb2.block g (by simp;omega)).trans ((Below.heap_alloc _ _ _ hgl).trans HGB.out))
   have m2:w2.cell? ⟨g,k*9+2,none⟩=some (.slice o1 l[k].args.length d1):=((hb2.cell (p:=⟨g,k*9+2,none⟩) (by simp;omega)).trans ((World.cell?_alloc_past _ _ _ hgl).trans q2))
   have z2:w2.frozen? ⟨g,k*9+2,none⟩=false:=frz_of hg2 _
   have y2:w2.cell? ⟨wr.heap.size,8,none⟩=some (.slice o2 l[k].hands.length d2):=((hb2.cell (p:=⟨wr.heap.size,8,none⟩) (by simp)).trans (by simp [go_sem]))
   have lg2:g<w2.heap.size:=lt_of hg2
   have lY2:wr.heap.size<w2.heap.size:=(by have:=hb2.size;simp at this;omega)
   have x2:w2.cell? ⟨g,k*9+8,none⟩=some (.slice o2 l[k].hands.length d2):=((hb2.cell (p:=⟨g,k*9+8,none⟩) (by simp;omega)).trans ((World.cell?_alloc_past _ _ _ hgl).trans q8))
   have HG2:=mkHid hg2
   clear hb2 hg2
   go_wp2_with fail
   have hB3:Below w.heap.size w (w2.setCell ⟨g,k*9+2,none⟩ (.slice p1 l[k].args.length e1)):=(HB1.out.trans (HB2.out.mono HB1.out.size)).setCell hgX _
   have HB3:=mkHid hB3
   have hg3:=heap_set (j:=k*9+2) HG2.out (.slice p1 l[k].args.length e1)
   have x3:(w2.setCell ⟨g,k*9+2,none⟩ (.slice p1 l[k].args.length e1)).cell? ⟨g,k*9+8,none⟩=some (.slice o2 l[k].hands.length d2):=(World.cell?_setCell_other _ _ _ _ (by simp)).trans x2
   have HW3:Hid (Stp w.heap.size [80,98] w2 (w2.setCell ⟨g,k*9+2,none⟩ (.slice p1 l[k].args.length e1))):=Stp.set HG2.out (by decide) _ _
   have HO3:=mkHid (own_set (own_below (HOW.out.alloc _) HB2.out) (k*9+2) (.slice p1 l[k].args.length e1))
   clear m2 z2 y2 lY2 x2 lg2 HG2
   clear q0 q1 q2 q3 q4 q5 q6 q7 q8
   generalize hw3:w2.setCell ⟨g,k*9+2,none⟩ (.slice p1 l[k].args.length e1)=w3 at*
   clear hw3
   refine (cloneHs_any w3 (· <B) _ _ (HS2.out.keptH (Kp.below (hB3.mono hB))) HFK.out.2).mono ?_
   rintro r w4 ⟨hb4,v2,rfl,sv2⟩
   have HV2:=mkHid sv2
   obtain ⟨p2,e2,rfl,-⟩:=sv2
   have hg4:=(hb4.block g (lt_of hg3)).trans hg3
   have m4:w4.cell? ⟨g,k*9+8,none⟩=some (.slice o2 l[k].hands.length d2):=(hb4.cell (p:=⟨g,k*9+8,none⟩) (lt_of hg3)).trans x3
   have z4:w4.frozen? ⟨g,k*9+8,none⟩=false:=frz_of hg4 _
   have lg4:g<w4.heap.size:=lt_of hg4
   have HFIN:Hid (∃zs':List (List Value×MethD),zs'.map (·.2)=l/\(∀z∈zs',z.1.length=9)/\(∀(j:Nat) (h:j<zs'.length),j<k+1->RM (MT w.heap.size [80,98] (w4.setCell ⟨g,k*9+8,none⟩ (.slice p2 l[k].hands.length e2))) (w4.setCell ⟨g,k*9+8,none⟩ (.slice p2 l[k].hands.length e2)) zs'[j].1 zs'[j].2)/\(∀(j:Nat) (h:j<zs'.length),k+1<=j->RM (· <B) w zs'[j].1 zs'[j].2)/\(w4.setCell ⟨g,k*9+8,none⟩ (.slice p2 l[k].hands.length e2)).ownsRow w.heap.size 83 9 (.slice (some ⟨g,0,none⟩) l.length c0) l.length (zs'.flatMap (·.1))/\Below w.heap.size w (w4.setCell ⟨g,k*9+8,none⟩ (.slice p2 l[k].hands.length e2))):=by
    obtain ⟨hzm,hz9,hdone,htodo,-,-⟩:=HI.out
    have s45:Stp w.heap.size [80,98] w4 (w4.setCell ⟨g,k*9+8,none⟩ (.slice p2 l[k].hands.length e2)):=Stp.set hg4 (by decide) _ _
    have s34:Stp w.heap.size [80,98] w3 w4:=Stp.below hb4
    have s12:Stp w.heap.size [80,98] wr w2:=(Stp.alloc (Stp.refl _ _ _) _).trans (Stp.below HB2.out)
    have s25:=(HW3.out.trans s34).trans s45
    have ho5:=own_set (own_below HO3.out hb4) (k*9+8) (.slice p2 l[k].hands.length e2)
    have hz1:∀z∈zs.set k (zs[k].1.set 2 (.slice p1 l[k].args.length e1),zs[k].2),z.1.length=9:=fun z hz=>by
     rcases List.mem_or_eq_of_mem_set hz with h | h
     ·
      exact hz9 z h
     rw [h,List.length_set];exact hz9 _ (List.getElem_mem hkz)
    rw [flat_set zs k 2 _ hz9 hkz (by decide),flat_set _ k 8 _ hz1 (by rw [List.length_set];exact hkz) (by decide),List.set_set,List.getElem_set_self]at ho5
    refine ⟨zs.set k ((zs[k].1.set 2 (.slice p1 l[k].args.length e1)).set 8 (.slice p2 l[k].hands.length e2),zs[k].2),?_,?_,?_,?_,ho5,(HB3.out.trans (hb4.mono HB3.out.size)).setCell hgX _⟩
    ·
     rw [List.map_set]
     refine (congrArg (fun x=>(zs.map (·.2)).set k x) (List.getElem_map (f:=fun z:List Value×MethD=>z.2) (h:=by simpa using hkz)).symm).trans ?_
     rw [List.set_getElem_self,hzm]
    ·
     intro z hz
     rcases List.mem_or_eq_of_mem_set hz with h | h
     ·
      exact hz9 z h
     rw [h,List.length_set,List.length_set];exact hz9 _ (List.getElem_mem hkz)
    ·
     intro j h hj
     have h':j<zs.length:=by simpa using h
     by_cases hjk:j=k
     ·
      subst hjk
      rw [List.getElem_set_self,HHC.out,HHL.out]
      exact ⟨_,_,rfl,(HV1.out.monoK (fun _ hk=>hk.more (T':=[80,98]) HB1.out.size (fun _ ht=>by simp at ht;simp [ht]))).stpK s25,(HV2.out.monoH (fun _ hk=>hk.more (T':=[80,98]) HB3.out.size (fun _ ht=>by simp at ht;simp [ht]))).stpH s45,HSZ.out⟩
     rw [List.getElem_set_ne (by omega)]
     exact ((hdone j h' (by omega)).stp s12).stp s25
    intro j h hj
    have h':j<zs.length:=by simpa using h
    rw [List.getElem_set_ne (by omega)]
    exact htodo j h' (by omega)
   clear HB3 HW3 HO3 HV1 HV2 HS1 HS2 HFK HHC HOW HGB HHL HSZ hg3 hg4 x3 hb4 hB3 HB2 HI
   have hll:l.length<=9223372036854775807:=by have:=HLim.out;omega
   go_wp2_with fail
   go_roundw
   case rel=>exact ⟨k+1,HFIN.out.choose,by omega,by go_num,HFIN.out.choose_spec⟩
   case measure=>simp [intOf];omega
  have hkl:k=l.length:=by omega
  have HFIN:Hid (SL 9 RM (MT w.heap.size [83,80,98] wr) wr (.slice a0 l.length c0) l):=by
   have:=own_SL (R:=RM) (T:=[83,80,98]) (zs:=zs) (n:=9) (by rw [hzl];exact hown) (fun z hz=>⟨hz9 z hz,by
    obtain ⟨j,hj,rfl⟩:=List.mem_iff_getElem.1 hz
    exact (hdone j hj (by omega)).mono fun _ hk=>hk.more (Nat.le_refl _) (fun _ ht=>List.mem_cons_of_mem _ ht)⟩) (by simp) (by have:=HLim.out;unfold maxLen;omega)
   rw [hzm]at this
   exact this
  have HBE:=mkHid hBr
  clear hown hdone htodo hz9 HI
  go_wp2_with fail
  go_ret
  exact ⟨HBE.out,_,rfl,HFIN.out⟩
set_option maxRecDepth 100000 in
set_option maxHeartbeats 4000000 in
theorem copyClasses_any (w:World) (B:Nat) (v:Value) (l:List ClassD) (hv:SL 4 RC (· <B) w v l) (hB:B<=w.heap.size) (hl:l.length<=100000) (hf:∀x∈l,x.fields.length<=100000/\x.meths.length<=100000/\∀m∈x.meths,m.args.length<=100000/\m.hands.length<=100000):
 Calls Tryz.prog 41 #[v] w fun r w'=>Below w.heap.size w w'/\∃v',r=.returned v'/\SL 4 RC (MT w.heap.size [63,85,83,80,98] w') w' v' l:=by
 have HV:=mkHid hv
 have HCL:=mkHid (cloneC_any w (· <B) v l hv hl)
 have HLim:=mkHid hl
 have HF:=mkHid hf
 obtain ⟨ao,ca,rfl,-⟩:=hv
 clear hl hf
 go_enter Tryz.func41,Tryz.ntmps41
 go_wp2_with (go_at_call 63;refine HCL.out.mono ?_;rintro r w1 ⟨hb1,v',zs0,rfl,hzm,hzR,hown⟩;have HB1:=mkHid hb1;have HZM:=mkHid hzm;have HZR:=mkHid hzR;have hzl0:zs0.length=l.length:=(by rw [<-hzm,List.length_map]);rw [hzl0]at hown;have HOW:=mkHid hown;obtain ⟨a0,c0,e0⟩:∃a0 c0,v'=.slice a0 l.length c0:=(by rcases hown.2 with ⟨e,h0⟩ | ⟨g,cap,cur,e,-⟩;(exact ⟨none,0,by rw [e,h0]⟩);(exact ⟨_,_,e⟩));subst e0;clear hb1 hzm hzR hown)
 clear HCL
 go_loopw [9] (fun i wr=>∃(k:Nat) (zs:List (List Value×ClassD)),k<=l.length/\i=.int .i64 k/\Hid (zs.map (·.2)=l/\(∀z∈zs,z.1.length=4)/\(∀(j:Nat) (h:j<zs.length),j<k->RC (MT w.heap.size [85,83,80,98] wr) wr zs[j].1 zs[j].2)/\(∀(j:Nat) (h:j<zs.length),k<=j->RC (· <B) w zs[j].1 zs[j].2)/\wr.ownsRow w.heap.size 63 4 (.slice a0 l.length c0) l.length (zs.flatMap (·.1))/\Below w.heap.size w wr)) (fun i _=>l.length - (intOf i).toNat)
 case atStart=>exact ⟨0,zs0,Nat.zero_le _,rfl,HZM.out,(fun z hz=>(HZR.out z hz).1),(fun j h hj=>by omega),(fun j h _=>(HZR.out _ (List.getElem_mem h)).2),HOW.out,HB1.out⟩
 case round=>
  clear HZM HZR HOW HB1
  obtain ⟨k,zs,hk,rfl,HI⟩:=hrel
  obtain ⟨hzm,hz9,hdone,htodo,hown,hBr⟩:=HI.out
  have hzl:zs.length=l.length:=by rw [<-hzm,List.length_map]
  have hsr:w.heap.size<=wr.heap.size:=hBr.size
  by_cases hlt:k<l.length
  ·
   have hkz:k<zs.length:=by omega
   obtain ⟨g,cap,cur,eg,hgX,hgb,hgc,hgm,hgs,hgt⟩:∃g cap cur,Value.slice a0 l.length c0=.slice (some ⟨g,0,none⟩) l.length cap/\w.heap.size<=g/\wr.heap[g]? =some (.cells cur 63 (0,0))/\l.length<=cap/\cap<=maxLen/\cur.size=cap*4/\cur.toList.take (l.length*4)=zs.flatMap (·.1):=by
    rcases hown.2 with ⟨e,h0⟩ | h
    ·
     omega
    exact h
   obtain ⟨rfl,rfl⟩:a0=some ⟨g,0,none⟩/\c0=cap:=by injection eg with h1 h2 h3;exact ⟨h1,h3⟩
   have hlk:zs[k].2=l[k]:=by
    have:=List.getElem_map (f:=fun z:List Value×ClassD=>z.2) (l:=zs) (i:=k) (h:=by simpa using hkz)
    rw [<-this]
    congr 1
   have htk:=htodo k hkz (Nat.le_refl _)
   rw [hlk]at htk
   obtain ⟨va,vh,hcs,s1,s2,hsz⟩:=htk
   have hcell:∀j u,zs[k].1[j]? =some u->wr.cell? ⟨g,k*4+j,none⟩=some u:=fun j u hu=>by
    have hj:j<4:=by have:=(List.getElem?_eq_some_iff.1 hu).1;rw [hz9 _ (List.getElem_mem hkz)]at this;exact this
    have:=hown.cells (g:=g) rfl (k*4+j) u (by rw [flat_get (n:=4) (fun z:List Value×ClassD=>z.1) zs k j hz9 hkz hj];exact hu)
    rwa [addr_add,Nat.zero_add]at this
   rw [hcs]at hcell
   have q0:wr.cell? ⟨g,k*4,none⟩=some (.string l[k].name):=hcell 0 _ rfl
   have q1:wr.cell? ⟨g,k*4+1,none⟩=some (.string l[k].super):=hcell 1 _ rfl
   have q2:wr.cell? ⟨g,k*4+2,none⟩=some (va):=hcell 2 _ rfl
   have q3:wr.cell? ⟨g,k*4+3,none⟩=some (vh):=hcell 3 _ rfl
   have hgl:g<wr.heap.size:=lt_of hgb
   have HS1:=mkHid s1
   have HS2:=mkHid s2
   obtain ⟨o1,d1,rfl,-⟩:=s1
   obtain ⟨o2,d2,rfl,-⟩:=s2
   have hfk:=HF.out l[k] (List.getElem_mem hlt)
   have HFK:=mkHid hfk
   have HHC:=mkHid hcs
   have HOW:=mkHid hown
   have HGB:=mkHid hgb
   have HHL:=mkHid hlk
   have HSZ:=mkHid hsz
   have h00:(0:Int)<=k:=by omega
   have h01:(k:Int)<l.length:=by omega
   clear hfk hcell hcs hown hgb hgc hgm hgs hgt hdone htodo hz9 hzm hlk eg hsz
   have hYg:wr.heap.size≠g:=by omega
   have hB1:Below w.heap.size w (wr.alloc (.cells #[.string l[k].name,.string l[k].super,.slice o1 l[k].fields.length d1,.slice o2 l[k].meths.length d2] 63)):=hBr.alloc hsr _
   have HB1:=mkHid hB1
   have HC1:=mkHid (cloneFs_any (wr.alloc (.cells #[.string l[k].name,.string l[k].super,.slice o1 l[k].fields.length d1,.slice o2 l[k].meths.length d2] 63)) (· <B) _ _ (HS1.out.keptF (Kp.below (hB1.mono hB))) HFK.out.1)
   clear hB1
   go_wp2_with fail
   refine HC1.out.mono ?_
   rintro r w2 ⟨hb2,v1,rfl,sv1⟩
   have HB2:=mkHid hb2
   have HV1:=mkHid sv1
   obtain ⟨p1,e1,rfl,-⟩:=sv1
   have hg2:w2.heap[g]? =some (.cells cur 63 (0,0)):=((hb2.block g (by simp;omega)).trans ((Below.heap_alloc _ _ _ hgl).trans HGB.out))
   have m2:w2.cell? ⟨g,k*4+2,none⟩=some (.slice o1 l[k].fields.length d1):=((hb2.cell (p:=⟨g,k*4+2,none⟩) (by simp;omega)).trans ((World.cell?_alloc_past _ _ _ hgl).trans q2))
   have z2:w2.frozen? ⟨g,k*4+2,none⟩=false:=frz_of hg2 _
   have y2:w2.cell? ⟨wr.heap.size,3,none⟩=some (.slice o2 l[k].meths.length d2):=((hb2.cell (p:=⟨wr.heap.size,3,none⟩) (by simp)).trans (by simp [go_sem]))
   have lg2:g<w2.heap.size:=lt_of hg2
   have lY2:wr.heap.size<w2.heap.size:=(by have:=hb2.size;simp at this;omega)
   have x2:w2.cell? ⟨g,k*4+3,none⟩=some (.slice o2 l[k].meths.length d2):=((hb2.cell (p:=⟨g,k*4+3,none⟩) (by simp;omega)).trans ((World.cell?_alloc_past _ _ _ hgl).trans q3))
   have HG2:=mkHid hg2
   clear hb2 hg2
   go_wp2_with fail
   have hB3:Below w.heap.size w (w2.setCell ⟨g,k*4+2,none⟩ (.slice p1 l[k].fields.length e1)):=(HB1.out.trans (HB2.out.mono HB1.out.size)).setCell hgX _
   have HB3:=mkHid hB3
   have hg3:=heap_set (j:=k*4+2) HG2.out (.slice p1 l[k].fields.length e1)
   have x3:(w2.setCell ⟨g,k*4+2,none⟩ (.slice p1 l[k].fields.length e1)).cell? ⟨g,k*4+3,none⟩=some (.slice o2 l[k].meths.length d2):=(World.cell?_setCell_other _ _ _ _ (by simp)).trans x2
   have HW3:Hid (Stp w.heap.size [85,83,80,98] w2 (w2.setCell ⟨g,k*4+2,none⟩ (.slice p1 l[k].fields.length e1))):=Stp.set HG2.out (by decide) _ _
   have HO3:=mkHid (own_set (own_below (HOW.out.alloc _) HB2.out) (k*4+2) (.slice p1 l[k].fields.length e1))
   clear m2 z2 y2 lY2 x2 lg2 HG2
   clear q0 q1 q2 q3
   generalize hw3:w2.setCell ⟨g,k*4+2,none⟩ (.slice p1 l[k].fields.length e1)=w3 at*
   clear hw3
   refine (copyMethods_any w3 B _ _ (HS2.out.keptM (Kp.below (hB3.mono hB))) (Nat.le_trans hB hB3.size) HFK.out.2.1 HFK.out.2.2).mono ?_
   rintro r w4 ⟨hb4,v2,rfl,sv2⟩
   have HV2:=mkHid sv2
   obtain ⟨p2,e2,rfl,-⟩:=sv2
   have hg4:=(hb4.block g (lt_of hg3)).trans hg3
   have m4:w4.cell? ⟨g,k*4+3,none⟩=some (.slice o2 l[k].meths.length d2):=(hb4.cell (p:=⟨g,k*4+3,none⟩) (lt_of hg3)).trans x3
   have z4:w4.frozen? ⟨g,k*4+3,none⟩=false:=frz_of hg4 _
   have lg4:g<w4.heap.size:=lt_of hg4
   have HFIN:Hid (∃zs':List (List Value×ClassD),zs'.map (·.2)=l/\(∀z∈zs',z.1.length=4)/\(∀(j:Nat) (h:j<zs'.length),j<k+1->RC (MT w.heap.size [85,83,80,98] (w4.setCell ⟨g,k*4+3,none⟩ (.slice p2 l[k].meths.length e2))) (w4.setCell ⟨g,k*4+3,none⟩ (.slice p2 l[k].meths.length e2)) zs'[j].1 zs'[j].2)/\(∀(j:Nat) (h:j<zs'.length),k+1<=j->RC (· <B) w zs'[j].1 zs'[j].2)/\(w4.setCell ⟨g,k*4+3,none⟩ (.slice p2 l[k].meths.length e2)).ownsRow w.heap.size 63 4 (.slice (some ⟨g,0,none⟩) l.length c0) l.length (zs'.flatMap (·.1))/\Below w.heap.size w (w4.setCell ⟨g,k*4+3,none⟩ (.slice p2 l[k].meths.length e2))):=by
    obtain ⟨hzm,hz9,hdone,htodo,-,-⟩:=HI.out
    have s45:Stp w.heap.size [85,83,80,98] w4 (w4.setCell ⟨g,k*4+3,none⟩ (.slice p2 l[k].meths.length e2)):=Stp.set hg4 (by decide) _ _
    have s34:Stp w.heap.size [85,83,80,98] w3 w4:=Stp.below hb4
    have s12:Stp w.heap.size [85,83,80,98] wr w2:=(Stp.alloc (Stp.refl _ _ _) _).trans (Stp.below HB2.out)
    have s25:=(HW3.out.trans s34).trans s45
    have ho5:=own_set (own_below HO3.out hb4) (k*4+3) (.slice p2 l[k].meths.length e2)
    have hz1:∀z∈zs.set k (zs[k].1.set 2 (.slice p1 l[k].fields.length e1),zs[k].2),z.1.length=4:=fun z hz=>by
     rcases List.mem_or_eq_of_mem_set hz with h | h
     ·
      exact hz9 z h
     rw [h,List.length_set];exact hz9 _ (List.getElem_mem hkz)
    rw [flat_set zs k 2 _ hz9 hkz (by decide),flat_set _ k 3 _ hz1 (by rw [List.length_set];exact hkz) (by decide),List.set_set,List.getElem_set_self]at ho5
    refine ⟨zs.set k ((zs[k].1.set 2 (.slice p1 l[k].fields.length e1)).set 3 (.slice p2 l[k].meths.length e2),zs[k].2),?_,?_,?_,?_,ho5,(HB3.out.trans (hb4.mono HB3.out.size)).setCell hgX _⟩
    ·
     rw [List.map_set]
     refine (congrArg (fun x=>(zs.map (·.2)).set k x) (List.getElem_map (f:=fun z:List Value×ClassD=>z.2) (h:=by simpa using hkz)).symm).trans ?_
     rw [List.set_getElem_self,hzm]
    ·
     intro z hz
     rcases List.mem_or_eq_of_mem_set hz with h | h
     ·
      exact hz9 z h
     rw [h,List.length_set,List.length_set];exact hz9 _ (List.getElem_mem hkz)
    ·
     intro j h hj
     have h':j<zs.length:=by simpa using h
     by_cases hjk:j=k
     ·
      subst hjk
      rw [List.getElem_set_self,HHC.out,HHL.out]
      exact ⟨_,_,rfl,(HV1.out.monoF (fun _ hk=>hk.more (T':=[85,83,80,98]) HB1.out.size (fun _ ht=>by simp at ht;simp [ht]))).stpF s25,(HV2.out.monoM (fun _ hk=>hk.more (T':=[85,83,80,98]) HB3.out.size (fun _ ht=>by simp at ht;simp [ht]))).stpM s45,HSZ.out⟩
     rw [List.getElem_set_ne (by omega)]
     exact ((hdone j h' (by omega)).stp s12).stp s25
    intro j h hj
    have h':j<zs.length:=by simpa using h
    rw [List.getElem_set_ne (by omega)]
    exact htodo j h' (by omega)
   clear HB3 HW3 HO3 HV1 HV2 HS1 HS2 HFK HHC HOW HGB HHL HSZ hg3 hg4 x3 hb4 hB3 HB2 HI
   have hll:l.length<=9223372036854775807:=by have:=HLim.out;omega
   go_wp2_with fail
   go_roundw
   case rel=>exact ⟨k+1,HFIN.out.choose,by omega,by go_num,HFIN.out.choose_spec⟩
   case measure=>simp [intOf];omega
  have hkl:k=l.length:=by omega
  have HFIN:Hid (SL 4 RC (MT w.heap.size [63,85,83,80,98] wr) wr (.slice a0 l.length c0) l):=by
   have:=own_SL (R:=RC) (T:=[63,85,83,80,98]) (zs:=zs) (n:=4) (by rw [hzl];exact hown) (fun z hz=>⟨hz9 z hz,by
    obtain ⟨j,hj,rfl⟩:=List.mem_iff_getElem.1 hz
    exact (hdone j hj (by omega)).mono fun _ hk=>hk.more (Nat.le_refl _) (fun _ ht=>List.mem_cons_of_mem _ ht)⟩) (by simp) (by have:=HLim.out;unfold maxLen;omega)
   rw [hzm]at this
   exact this
  have HBE:=mkHid hBr
  clear hown hdone htodo hz9 HI
  go_wp2_with fail
  go_ret
  exact ⟨HBE.out,_,rfl,HFIN.out⟩
end Go.Proofs.YtcddpmappmjilaaGreatDoor
namespace Go.Proofs.YtcddpmappmjilaaGreatDoor
open Go.RowKit Go.Maps
def linkD (l:List ClassD):LinkD:=⟨l,(List.range l.length).map (supAt l),(List.range l.length).map (fieldsOf l),(List.range l.length).map (namesOf l),(List.range l.length).map (targetsOf l)⟩
def nilLk:Value:=.agg #[.slice none 0 0,.slice none 0 0,.slice none 0 0,.slice none 0 0,.slice none 0 0]
theorem RLk.mono {M M':Nat->Prop} {w:World} {kC kS kF kN kT:Value} {d:LinkD} (h:RLk M w kC kS kF kN kT d) (hM:∀k,M k->M' k):RLk M' w kC kS kF kN kT d:=
 ⟨h.C.monoC hM,h.S.monoI hM,h.F.monoSl hM fun _ _ h=>h,h.N.monoSl hM fun _ _ h=>h,h.T.monoSl hM fun _ _ h=>h⟩
theorem tie_chk {l:List ClassD} (h:tieRes l=0):checkL l=0:=by
 unfold tieRes at h
 by_cases hc:checkL l=0
 ·
  exact hc
 rw [if_neg hc]at h;exact h
theorem fine_copy {l:List ClassD} (h:checkL l=0):l.length<=100000/\∀x∈l,x.fields.length<=100000/\x.meths.length<=100000/\∀m∈x.meths,m.args.length<=100000/\m.hands.length<=100000:=by
 obtain ⟨h1,h2⟩:=list_fine h
 refine ⟨by omega,fun x hx=>?_⟩
 obtain ⟨-,-,h3,-,h4,h5⟩:=h2 x hx
 refine ⟨by omega,by omega,fun m hm=>?_⟩
 obtain ⟨-,h6,-,-,-,-,-,h7,-⟩:=h5 m hm
 exact ⟨by omega,by omega⟩
theorem SL.stpCL {B:Nat} {T:List Nat} {w w':World} {v:Value} {l:List ClassD} (h:SL 4 RC (MT B T w) w v l) (hs:Stp B T w w'):SL 4 RC (MT B T w') w' v l:=(h.keptC hs.kp).monoC fun _ hk=>hk.step hs
theorem set5 (W:World) (R t:Nat) (a0 a1 a2 a3 a4 x0 x1 x2 x3 x4:Value) (h:W.heap[R]? =some (.cells #[a0,a1,a2,a3,a4] t (0,0))):
 (((((W.setCell ⟨R,0,none⟩ x0).setCell ⟨R,1,none⟩ x1).setCell ⟨R,2,none⟩ x2).setCell ⟨R,3,none⟩ x3).setCell ⟨R,4,none⟩ x4).heap[R]? =some (.cells #[x0,x1,x2,x3,x4] t (0,0))/\
 W.grownBy (((((W.setCell ⟨R,0,none⟩ x0).setCell ⟨R,1,none⟩ x1).setCell ⟨R,2,none⟩ x2).setCell ⟨R,3,none⟩ x3).setCell ⟨R,4,none⟩ x4) (some R):=
 ⟨by
  have h0:(W.setCell ⟨R,0,none⟩ x0).heap[R]? =some (.cells #[x0,a1,a2,a3,a4] t (0,0)):=(heap_set (j:=0) h x0).trans rfl
  have h1:((W.setCell ⟨R,0,none⟩ x0).setCell ⟨R,1,none⟩ x1).heap[R]? =some (.cells #[x0,x1,a2,a3,a4] t (0,0)):=(heap_set (j:=1) h0 x1).trans rfl
  have h2:(((W.setCell ⟨R,0,none⟩ x0).setCell ⟨R,1,none⟩ x1).setCell ⟨R,2,none⟩ x2).heap[R]? =some (.cells #[x0,x1,x2,a3,a4] t (0,0)):=(heap_set (j:=2) h1 x2).trans rfl
  have h3:((((W.setCell ⟨R,0,none⟩ x0).setCell ⟨R,1,none⟩ x1).setCell ⟨R,2,none⟩ x2).setCell ⟨R,3,none⟩ x3).heap[R]? =some (.cells #[x0,x1,x2,x3,a4] t (0,0)):=(heap_set (j:=3) h2 x3).trans rfl
  exact (heap_set (j:=4) h3 x4).trans rfl,by
  have g0:W.grownBy (W.setCell ⟨R,0,none⟩ x0) (some R):=grown_set (World.grownBy.refl W (some R)) ⟨R,0,none⟩ x0 (Or.inl rfl)
  have g1:=grown_set g0 ⟨R,1,none⟩ x1 (Or.inl rfl)
  have g2:=grown_set g1 ⟨R,2,none⟩ x2 (Or.inl rfl)
  have g3:=grown_set g2 ⟨R,3,none⟩ x3 (Or.inl rfl)
  exact grown_set g3 ⟨R,4,none⟩ x4 (Or.inl rfl)⟩
def NewL (B:Nat) (w:World) (kC kS kF kN:Value):Prop:=∃lC lS lF lN,SL 4 RC (NF B w) w kC lC/\SL 1 RI (NF B w) w kS lS/\SL 1 (RSl 3 RF) (NF B w) w kF lF/\SL 1 (RSl 1 RS) (NF B w) w kN lN
theorem NewL.kept {B:Nat} {w w':World} {kC kS kF kN:Value} (h:NewL B w kC kS kF kN) (hs:w.heap.size<=w'.heap.size) (hb:∀k,NF B w k->w'.heap[k]? =w.heap[k]?):NewL B w' kC kS kF kN:=by
 obtain ⟨lC,lS,lF,lN,h1,h2,h3,h4⟩:=h
 have hk:Kp (NF B w) w w':=⟨hs,fun k h _=>hb k h⟩
 have hm:∀k,NF B w k->NF B w' k:=fun k h=>h.kept (hb k h)
 exact ⟨lC,lS,lF,lN,(h1.keptC hk).monoC hm,(h2.keptI hk).monoI hm,(h3.keptSl hk fun _ _ h=>h).monoSl hm fun _ _ h=>h,(h4.keptSl hk fun _ _ h=>h).monoSl hm fun _ _ h=>h⟩
set_option maxRecDepth 100000 in
set_option maxHeartbeats 4000000 in
theorem LinkN_any (w:World) (B:Nat) (l:List ClassD) (v:Value) (hv:SL 4 RC (· <B) w v l) (hB:B<=w.heap.size):
 Calls Tryz.prog 24 #[v] w fun r w'=>Below w.heap.size w w'/\
  ((tieRes l=0/\∃kC kS kF kN kT,r=.returned (.tuple #[.agg #[kC,kS,kF,kN,kT],.int .i64 0])/\RLk (fun k=>(k<B\/w.heap.size<=k)/\k<w'.heap.size) w' kC kS kF kN kT (linkD l)/\NewL (w.heap.size+1) w' kC kS kF kN)\/(tieRes l≠0/\r=.returned (.tuple #[nilLk,.int .i64 (tieRes l)]))):=by
 have HV:=mkHid hv
 obtain ⟨ao,cl,rfl,-⟩:=hv
 have HB0:=mkHid (fun o=>(Below.refl w.heap.size w).alloc (Nat.le_refl _) o)
 go_enter Tryz.func24,Tryz.ntmps24
 go_wp2_with fail
 refine (tie_any _ B l _ (HV.out.keptC (Kp.below ((HB0.out _).mono hB))) (Nat.le_trans hB (HB0.out _).size)).mono ?_
 rintro r w1 ⟨hb1,⟨h0,p,rfl,b,vS,vF,vN,vT,vL,Bm,rfl,hle,hweb⟩ | ⟨h0,rfl⟩⟩
 ·
  have hR1:w1.heap[w.heap.size]? =some (.cells #[.slice none 0 0,.slice none 0 0,.slice none 0 0,.slice none 0 0,.slice none 0 0] 28 (0,0)):=(hb1.block w.heap.size (by simp)).trans (heap_alloc_new w _)
  have hle':w.heap.size+1<=b:=by simpa using hle
  have hB1:Below w.heap.size w w1:=(HB0.out _).trans (hb1.mono (HB0.out _).size)
  have HB1:=mkHid hB1
  have HW:=mkHid hweb
  have HT:=mkHid h0
  have HR1:=mkHid hR1
  have HCP:=mkHid (copyClasses_any w1 B _ l (HV.out.keptC (Kp.below (hB1.mono hB))) (Nat.le_trans hB hB1.size) (fine_copy (tie_chk h0)).1 (fine_copy (tie_chk h0)).2)
  have hz1:w.heap.size<w1.heap.size:=lt_of hR1
  clear hb1 hweb h0 hB1 hR1
  go_wp2_with fail
  refine HCP.out.mono ?_
  rintro r w2 ⟨hb2,vC,rfl,sC⟩
  have HSC:=mkHid sC
  obtain ⟨aC,cC,rfl,-⟩:=sC
  have hblk:=HW.out.blk
  have hb1l:=lt_of hblk
  have hblk2:=(hb2.block b hb1l).trans hblk
  have hbne:b≠w.heap.size:=by omega
  have hbl:=lt_of hblk2
  have hB3:Below w.heap.size w (w2.setCell ⟨b,0,none⟩ (.slice aC l.length cC)):=(HB1.out.trans (hb2.mono HB1.out.size)).setCell (by simp;omega) _
  have hblk3:=heap_set (j:=0) hblk2 (.slice aC l.length cC)
  have c0:=cell_of hblk2 0 (x:=.slice ao l.length cl) rfl
  have z0:=frz_of hblk2 0
  have hR3:(w2.setCell ⟨b,0,none⟩ (.slice aC l.length cC)).heap[w.heap.size]? =some (.cells #[.slice none 0 0,.slice none 0 0,.slice none 0 0,.slice none 0 0,.slice none 0 0] 28 (0,0)):=(Below.heap_setCell _ _ _ _ (by simp;omega)).trans ((hb2.block w.heap.size hz1).trans HR1.out)
  have HRL:Hid (RLk (fun k=>((k<B\/w.heap.size+1<=k)/\k<w2.heap.size)) (w2.setCell ⟨b,0,none⟩ (.slice aC l.length cC)) (.slice aC l.length cC) vS vF vN vT (linkD l)):=by
   have hkp:Kp (fun k=>((k<B\/(w.alloc (.cells #[.slice none 0 0,.slice none 0 0,.slice none 0 0,.slice none 0 0,.slice none 0 0] 28)).heap.size<=k)/\k<w1.heap.size)/\k≠b) w1 (w2.setCell ⟨b,0,none⟩ (.slice aC l.length cC)):=⟨Nat.le_trans hb2.size (by simp [World.setCell]),fun k hk hl=>(Below.heap_setCell _ _ _ _ (by simpa using hk.2)).trans (hb2.block k hl)⟩
   have hmm:∀k,(((k<B\/(w.alloc (.cells #[.slice none 0 0,.slice none 0 0,.slice none 0 0,.slice none 0 0,.slice none 0 0] 28)).heap.size<=k)/\k<w1.heap.size)/\k≠b)->((k<B\/w.heap.size+1<=k)/\k<w2.heap.size):=fun k hk=>⟨hk.1.1.imp id (fun h=>by simpa using h),Nat.lt_of_lt_of_le hk.1.2 hb2.size⟩
   exact ⟨(HSC.out.stpCL (Stp.set hblk2 (by decide) 0 (.slice aC l.length cC))).monoC (fun k hk=>⟨Or.inr (by have:=hk.1;omega),by have:=hk.lt;simpa [World.setCell]using this⟩),(HW.out.sS.keptI hkp).monoI hmm,(HW.out.sF.keptSl hkp fun _ _ h=>h).monoSl hmm fun _ _ h=>h,(HW.out.sN.keptSl hkp fun _ _ h=>h).monoSl hmm fun _ _ h=>h,(HW.out.sT.keptSl hkp fun _ _ h=>h).monoSl hmm fun _ _ h=>h⟩
  have HNW:Hid (NewL (w.heap.size+1) (w2.setCell ⟨b,0,none⟩ (.slice aC l.length cC)) (.slice aC l.length cC) vS vF vN):=by
   have hkp:Kp (fun k=>(((k<B\/(w.alloc (.cells #[.slice none 0 0,.slice none 0 0,.slice none 0 0,.slice none 0 0,.slice none 0 0] 28)).heap.size<=k)/\k<w1.heap.size)/\k≠b)/\NF (b+1) w1 k) w1 (w2.setCell ⟨b,0,none⟩ (.slice aC l.length cC)):=⟨Nat.le_trans hb2.size (by simp [World.setCell]),fun k hk hl=>(Below.heap_setCell _ _ _ _ (by simpa using hk.1.2)).trans (hb2.block k hl)⟩
   have hmm:∀k,((((k<B\/(w.alloc (.cells #[.slice none 0 0,.slice none 0 0,.slice none 0 0,.slice none 0 0,.slice none 0 0] 28)).heap.size<=k)/\k<w1.heap.size)/\k≠b)/\NF (b+1) w1 k)->NF (w.heap.size+1) (w2.setCell ⟨b,0,none⟩ (.slice aC l.length cC)) k:=fun k hk=>(hk.2.kept (hkp.block k hk hk.2.lt)).more (by omega)
   exact ⟨_,_,_,_,(HSC.out.stpCL (Stp.set hblk2 (by decide) 0 (.slice aC l.length cC))).monoC (fun k hk=>hk.nf.more (by omega)),(HW.out.nS.keptI hkp).monoI hmm,(HW.out.nF.keptSl hkp fun _ _ h=>h).monoSl hmm fun _ _ h=>h,(HW.out.nN.keptSl hkp fun _ _ h=>h).monoSl hmm fun _ _ h=>h⟩
  have hlS:((List.range l.length).map (supAt l)).length=l.length:=by simp
  have hlF:((List.range l.length).map (fieldsOf l)).length=l.length:=by simp
  have hlN:((List.range l.length).map (namesOf l)).length=l.length:=by simp
  have hlT:((List.range l.length).map (targetsOf l)).length=l.length:=by simp
  obtain ⟨aS,cS,e1,-⟩:=HW.out.sS
  obtain ⟨aF,cF,e2,-⟩:=HW.out.sF
  obtain ⟨aN,cN,e3,-⟩:=HW.out.sN
  obtain ⟨aT,cT,e4,-⟩:=HW.out.sT
  rw [hlS]at e1
  rw [hlF]at e2
  rw [hlN]at e3
  rw [hlT]at e4
  subst e1 e2 e3 e4
  have d0:=cell_of hblk3 0 (x:=.slice aC l.length cC) rfl
  have d1:=cell_of hblk3 1 (x:=.slice aS l.length cS) rfl
  have d2:=cell_of hblk3 2 (x:=.slice aF l.length cF) rfl
  have d3:=cell_of hblk3 3 (x:=.slice aN l.length cN) rfl
  have d4:=cell_of hblk3 4 (x:=.slice aT l.length cT) rfl
  have r0:=cell_of hR3 0 (x:=.slice none 0 0) rfl
  have r1:=cell_of hR3 1 (x:=.slice none 0 0) rfl
  have r2:=cell_of hR3 2 (x:=.slice none 0 0) rfl
  have r3:=cell_of hR3 3 (x:=.slice none 0 0) rfl
  have r4:=cell_of hR3 4 (x:=.slice none 0 0) rfl
  have f0:∀j,(w2.setCell ⟨b,0,none⟩ (.slice aC l.length cC)).frozen? ⟨w.heap.size,j,none⟩=false:=fun j=>frz_of hR3 j
  have lR:=lt_of hR3
  have lb3:=lt_of hblk3
  have HB3:=mkHid hB3
  obtain ⟨hR5,hG5⟩:=set5 _ w.heap.size _ _ _ _ _ _ (.slice aC l.length cC) (.slice aS l.length cS) (.slice aF l.length cF) (.slice aN l.length cN) (.slice aT l.length cT) hR3
  have HR5:=mkHid hR5
  have HG5:=mkHid hG5
  clear hR5 hG5
  clear HW HSC HCP hlS hlF hlN hlT hblk hb2 hB3 hb1l
  go_wp2_with fail
  generalize ((((((w2.setCell ⟨b,0,none⟩ (.slice aC l.length cC)).setCell ⟨w.heap.size,0,none⟩ (.slice aC l.length cC)).setCell ⟨w.heap.size,1,none⟩ (.slice aS l.length cS)).setCell ⟨w.heap.size,2,none⟩ (.slice aF l.length cF)).setCell ⟨w.heap.size,3,none⟩ (.slice aN l.length cN)).setCell ⟨w.heap.size,4,none⟩ (.slice aT l.length cT))=W9 at*
  have s0:=cell_of HR5.out 0 (x:=.slice aC l.length cC) rfl
  have s1:=cell_of HR5.out 1 (x:=.slice aS l.length cS) rfl
  have s2:=cell_of HR5.out 2 (x:=.slice aF l.length cF) rfl
  have s3:=cell_of HR5.out 3 (x:=.slice aN l.length cN) rfl
  have s4:=cell_of HR5.out 4 (x:=.slice aT l.length cT) rfl
  refine bodyPost_ret (v:=.tuple #[.agg #[.slice aC l.length cC,.slice aS l.length cS,.slice aF l.length cF,.slice aN l.length cN,.slice aT l.length cT],.int .i64 0]) (by simp [results,Tryz.results24,go_sem,s0,s1,s2,s3,s4]) rfl ⟨below_of_grown HB3.out HG5.out (Nat.le_refl _),Or.inl ⟨HT.out,_,_,_,_,_,rfl,?_,HNW.out.kept HG5.out.size (fun k hk=>HG5.out.block k hk.lt (by intro e;injection e with e;have:=hk.1;omega))⟩⟩
  refine ((HRL.out.kept (w':=W9) ⟨HG5.out.size,fun k hk hl=>HG5.out.block k hl (by intro e;injection e with e;rcases hk.1 with h | h<;>omega)⟩).mono fun k hk=>⟨hk.1.imp id (fun h=>by omega),?_⟩)
  have:=HG5.out.size
  have h2:=hk.2
  simp [World.setCell]at this
  omega
 have HB1:=mkHid ((HB0.out _).trans (hb1.mono (HB0.out _).size))
 have hne:(tieRes l==0)=false:=beq_eq_false_iff_ne.2 h0
 have hR1:w1.heap[w.heap.size]? =some (.cells #[.slice none 0 0,.slice none 0 0,.slice none 0 0,.slice none 0 0,.slice none 0 0] 28 (0,0)):=(hb1.block w.heap.size (by simp)).trans (heap_alloc_new w _)
 have lR:=lt_of hR1
 have r0:=cell_of hR1 0 (x:=.slice none 0 0) rfl
 have r1:=cell_of hR1 1 (x:=.slice none 0 0) rfl
 have r2:=cell_of hR1 2 (x:=.slice none 0 0) rfl
 have r3:=cell_of hR1 3 (x:=.slice none 0 0) rfl
 have r4:=cell_of hR1 4 (x:=.slice none 0 0) rfl
 have f0:∀j,w1.frozen? ⟨w.heap.size,j,none⟩=false:=fun j=>frz_of hR1 j
 have HN:=mkHid h0
 obtain ⟨hR5,hG5⟩:=set5 _ w.heap.size _ _ _ _ _ _ (.slice none 0 0) (.slice none 0 0) (.slice none 0 0) (.slice none 0 0) (.slice none 0 0) hR1
 have HR5:=mkHid hR5
 have HG5:=mkHid hG5
 clear hb1 h0 hR1 hR5 hG5
 generalize hte:tieRes l=te at*
 have HTE:=mkHid hte
 clear hte
 go_wp2_with fail
 generalize (((((w1.setCell ⟨w.heap.size,0,none⟩ (.slice none 0 0)).setCell ⟨w.heap.size,1,none⟩ (.slice none 0 0)).setCell ⟨w.heap.size,2,none⟩ (.slice none 0 0)).setCell ⟨w.heap.size,3,none⟩ (.slice none 0 0)).setCell ⟨w.heap.size,4,none⟩ (.slice none 0 0))=W9 at*
 have s0:=cell_of HR5.out 0 (x:=.slice none 0 0) rfl
 have s1:=cell_of HR5.out 1 (x:=.slice none 0 0) rfl
 have s2:=cell_of HR5.out 2 (x:=.slice none 0 0) rfl
 have s3:=cell_of HR5.out 3 (x:=.slice none 0 0) rfl
 have s4:=cell_of HR5.out 4 (x:=.slice none 0 0) rfl
 exact bodyPost_ret (v:=.tuple #[nilLk,.int .i64 te]) (by simp [results,Tryz.results24,go_sem,s0,s1,s2,s3,s4,nilLk]) rfl ⟨below_of_grown HB1.out HG5.out (Nat.le_refl _),Or.inr ⟨by rw [HTE.out];exact HN.out,by rw [HTE.out]⟩⟩
theorem Link_any (w:World) (B:Nat) (l:List ClassD) (v:Value) (hv:SL 4 RC (· <B) w v l) (hB:B<=w.heap.size):
 Calls Tryz.prog 24 #[v] w fun r w'=>Below w.heap.size w w'/\
  ((tieRes l=0/\∃kC kS kF kN kT,r=.returned (.tuple #[.agg #[kC,kS,kF,kN,kT],.int .i64 0])/\RLk (fun k=>(k<B\/w.heap.size<=k)/\k<w'.heap.size) w' kC kS kF kN kT (linkD l))\/(tieRes l≠0/\r=.returned (.tuple #[nilLk,.int .i64 (tieRes l)]))):=
 (LinkN_any w B l v hv hB).mono fun _ _ ⟨hb,h⟩=>⟨hb,h.imp (fun ⟨h0,kC,kS,kF,kN,kT,h1,h2,_⟩=>⟨h0,kC,kS,kF,kN,kT,h1,h2⟩) id⟩
end Go.Proofs.YtcddpmappmjilaaGreatDoor
namespace Go.Proofs.YtcddpmappmjilaaGreatDoor
open Go.RowKit Go.Maps
def okLk (d:LinkD):Bool:=decide (tieRes d.classes=0)&&makesB d.classes d
def inB (d:LinkD) (n:Int):Bool:=decide (0<=n)&&decide (n<d.classes.length)
def chkRes (d:LinkD) (ns:List Int):Int:=if okLk d=true then (if ns.all (inB d)=true then 0 else 3) else 4
theorem Web.web' {B:Nat} {w:World} {b:Nat} {l:List ClassD} {vC vS vF vN vT vL:Value} {Bm:Nat} (h:Web B w b l vC vS vF vN vT vL Bm):Web w.heap.size w b l vC vS vF vN vT vL Bm:=
 have hl:∀k,k<B->k<w.heap.size:=fun _ hk=>Nat.lt_of_lt_of_le hk h.le
 ⟨hl _ h.bB,hl _ h.mB,Nat.le_refl _,h.blk,h.sC.monoC hl,h.sS.monoI hl,h.sF.monoSl hl fun _ _ h=>h,h.sN.monoSl hl fun _ _ h=>h,h.sT.monoSl hl fun _ _ h=>h,h.sL.monoSl hl fun _ _ h=>h,h.nm⟩
theorem RLk.agg {M:Nat->Prop} {w:World} {kC kS kF kN kT:Value} {d:LinkD} (h:RLk M w kC kS kF kN kT d):∃aC cC aS cS aF cF aN cN aT cT,kC=.slice aC d.classes.length cC/\kS=.slice aS d.supers.length cS/\kF=.slice aF d.fields.length cF/\kN=.slice aN d.names.length cN/\kT=.slice aT d.targets.length cT:=by
 obtain ⟨⟨aC,cC,e1,-⟩,⟨aS,cS,e2,-⟩,⟨aF,cF,e3,-⟩,⟨aN,cN,e4,-⟩,⟨aT,cT,e5,-⟩⟩:=h
 exact ⟨_,_,_,_,_,_,_,_,_,_,e1,e2,e3,e4,e5⟩
set_option maxRecDepth 100000 in
set_option maxHeartbeats 4000000 in
theorem checked_any (w:World) (B:Nat) (kC kS kF kN kT:Value) (d:LinkD) (hk:RLk (· <B) w kC kS kF kN kT d) (hB:B<=w.heap.size) (M:Nat->Prop) (vn:Value) (ns:List Int) (hn:SL 1 RI M w vn ns):
 Calls Tryz.prog 54 #[.agg #[kC,kS,kF,kN,kT],vn] w fun r w'=>Below w.heap.size w w'/\
  ((chkRes d ns=0/\okLk d=true/\∃b vS vF vN vT vL Bm,r=.returned (.pointer (some ⟨b,0,none⟩))/\Web w'.heap.size w' b d.classes kC vS vF vN vT vL Bm)\/(chkRes d ns≠0/\r=.panicked [wrongV (chkRes d ns) 0])):=by
 have HK:=mkHid hk
 have HNS:=mkHid hn
 obtain ⟨aC,cC,aS,cS,aF,cF,aN,cN,aT,cT,rfl,rfl,rfl,rfl,rfl⟩:=hk.agg
 obtain ⟨an,cn,rfl,-,hll,-⟩:=hn
 unfold maxLen at hll
 have HB0:=mkHid (fun o=>(Below.refl w.heap.size w).alloc (Nat.le_refl _) o)
 have hll2:d.classes.length<=9223372036854775807:=by obtain ⟨a,c,-,-,h,-⟩:=hk.C;unfold maxLen at h;omega
 clear hk
 go_enter Tryz.func54,Tryz.ntmps54
 go_wp2_with fail
 refine (tie_any _ B d.classes _ (HK.out.C.keptC (Kp.below ((HB0.out _).mono hB))) (Nat.le_trans hB (HB0.out _).size)).mono ?_
 rintro r w1 ⟨hb1,⟨h0,p,rfl,b,vS,vF,vN,vT,vL,Bm,rfl,hle,hweb⟩ | ⟨h0,rfl⟩⟩
 ·
  have hR1:w1.heap[w.heap.size]? =some (.cells #[.slice aC d.classes.length cC,.slice aS d.supers.length cS,.slice aF d.fields.length cF,.slice aN d.names.length cN,.slice aT d.targets.length cT] 28 (0,0)):=(hb1.block w.heap.size (by simp)).trans (heap_alloc_new w _)
  have hB1:Below w.heap.size w w1:=(HB0.out _).trans (hb1.mono (HB0.out _).size)
  have HB1:=mkHid hB1
  have HW:=mkHid hweb.web
  have hz1:=lt_of hR1
  have r0:=cell_of hR1 0 (x:=.slice aC d.classes.length cC) rfl
  have r1:=cell_of hR1 1 (x:=.slice aS d.supers.length cS) rfl
  have r2:=cell_of hR1 2 (x:=.slice aF d.fields.length cF) rfl
  have r3:=cell_of hR1 3 (x:=.slice aN d.names.length cN) rfl
  have r4:=cell_of hR1 4 (x:=.slice aT d.targets.length cT) rfl
  have HR1:=mkHid hR1
  have HMK:=mkHid (makes_any w1 w1.heap.size b d.classes _ _ _ _ _ _ Bm hweb.web _ _ _ _ _ d ((HK.out.kept (Kp.below (hB1.mono hB))).mono fun k hk=>Nat.lt_of_lt_of_le hk (Nat.le_trans hB hB1.size)))
  have HOK:Hid (okLk d=makesB d.classes d):=by show okLk d=_;simp [okLk,h0]
  clear hb1 hweb h0 hB1 hR1
  generalize makesB d.classes d=mk at*
  cases mk with
  | false=>
    have HR:Hid (chkRes d ns=4):=by show chkRes d ns=4;rw [chkRes,HOK.out];rfl
    go_wp2_with (go_at_call 81;refine HMK.out.mono ?_;rintro r w2 ⟨rfl,hb2⟩)
    refine (demand_any _ _ _).mono ?_
    rintro r w3 ⟨rfl,⟨hb,rfl⟩ | ⟨hb,rfl⟩⟩
    ·
     exact ⟨rfl,HB1.out.trans (hb2.mono HB1.out.size),Or.inr ⟨by rw [HR.out];decide,by rw [HR.out]⟩⟩
    exact absurd hb (by simp)
  | true=>
    go_wp2_with (go_at_call 81;refine HMK.out.mono ?_;rintro r w2 ⟨rfl,hb2⟩)
    refine (demand_any _ _ _).mono ?_
    rintro r w3 ⟨rfl,⟨hb,rfl⟩ | ⟨hb,rfl⟩⟩
    ·
     exact absurd hb (by simp)
    clear hb
    have HW2:=mkHid (((HW.out.below hb2).web'))
    have HB2:=mkHid (HB1.out.trans (hb2.mono HB1.out.size))
    have k0:=(hb2.cell (p:=⟨w.heap.size,0,none⟩) hz1).trans r0
    have lz2:w.heap.size<w3.heap.size:=Nat.lt_of_lt_of_le hz1 hb2.size
    have HRS:Hid (chkRes d ns=if ns.all (inB d)=true then 0 else 3):=by show chkRes d ns=_;rw [chkRes,if_pos HOK.out]
    clear r0 r1 r2 r3 r4 hb2 HMK HR1 HW hz1
    go_wp2_with fail
    go_loopw [25] (fun i wr=>∃k:Nat,k<=ns.length/\i=.int .i64 k/\wr=w3/\Hid (ns.all (inB d)=(ns.drop k).all (inB d))) (fun i _=>ns.length - (intOf i).toNat)
    case atStart=>exact ⟨0,Nat.zero_le _,rfl,rfl,rfl⟩
    case round=>
     obtain ⟨k,hk,rfl,rfl,HQ⟩:=hrel
     by_cases hlt:k<ns.length
     ·
      obtain ⟨bn,on,rfl,hbn,en⟩:=(HNS.out.keptI ⟨HB2.out.size,fun q _ hq=>HB2.out.block q hq⟩).atI k hlt
      have HST:Hid ((ns.drop k).all (inB d)=(inB d ns[k]&&(ns.drop (k+1)).all (inB d))):=by show _=_;rw [List.drop_eq_getElem_cons hlt,List.all_cons]
      generalize ns[k]=n at*
      have h00:(0:Int)<=k:=by omega
      have h01:(k:Int)<ns.length:=by omega
      by_cases hn0:0<=n
      ·
       by_cases hn1:n<d.classes.length
       ·
        have HR:Hid (ns.all (inB d)=(ns.drop (k+1)).all (inB d)):=HQ.out.trans (HST.out.trans (by simp [inB,hn0,hn1]))
        go_wp2_with fail
        refine (demand_any _ _ _).mono ?_
        rintro r w4 ⟨rfl,⟨hb,rfl⟩ | ⟨hb,rfl⟩⟩
        ·
         exact absurd hb (by simp<;>omega)
        clear hb
        go_wp2_with fail
        go_roundw
        case rel=>exact ⟨k+1,by omega,by go_num,(by first | rfl | trivial),HR.out⟩
        case measure=>simp [intOf];omega
       have HR:Hid (chkRes d ns=3):=HRS.out.trans (by rw [HQ.out,HST.out];simp [inB,hn1])
       go_wp2_with fail
       refine (demand_any _ _ _).mono ?_
       rintro r w4 ⟨rfl,⟨hb,rfl⟩ | ⟨hb,rfl⟩⟩
       ·
        exact ⟨rfl,HB2.out,Or.inr ⟨by rw [HR.out];decide,by rw [HR.out]⟩⟩
       exact absurd hb (by simp<;>omega)
      have HR:Hid (chkRes d ns=3):=HRS.out.trans (by rw [HQ.out,HST.out];simp [inB,hn0])
      go_wp2_with fail
      refine (demand_any _ _ _).mono ?_
      rintro r w4 ⟨rfl,⟨hb,rfl⟩ | ⟨hb,rfl⟩⟩
      ·
       exact ⟨rfl,HB2.out,Or.inr ⟨by rw [HR.out];decide,by rw [HR.out]⟩⟩
      exact absurd hb (by simp<;>omega)
     have HR:Hid (chkRes d ns=0):=HRS.out.trans (by rw [HQ.out,List.drop_of_length_le (by omega)];rfl)
     go_wp2_with fail
     go_ret
     exact ⟨HB2.out,Or.inl ⟨HR.out,HOK.out,_,_,_,_,_,_,_,rfl,HW2.out⟩⟩
 have hB1:=mkHid ((HB0.out (.cells #[.slice aC d.classes.length cC,.slice aS d.supers.length cS,.slice aF d.fields.length cF,.slice aN d.names.length cN,.slice aT d.targets.length cT] 28)).trans (hb1.mono (HB0.out _).size))
 have HR:Hid (chkRes d ns=4):=by
  show chkRes d ns=4
  have:okLk d=false:=by simp [okLk,h0]
  rw [chkRes,this]
  rfl
 have hne:(tieRes d.classes==0)=false:=beq_eq_false_iff_ne.2 h0
 clear hb1 h0
 generalize tieRes d.classes=te at*
 go_wp2_with fail
 refine (demand_any _ _ _).mono ?_
 rintro r w3 ⟨rfl,⟨hb,rfl⟩ | ⟨hb,rfl⟩⟩
 ·
  exact ⟨rfl,hB1.out,Or.inr ⟨by rw [HR.out];decide,by rw [HR.out]⟩⟩
 exact absurd hb (by simp)
end Go.Proofs.YtcddpmappmjilaaGreatDoor
namespace Go.Proofs.YtcddpmappmjilaaGreatDoor
open Go.RowKit Go.Maps
def baseDL:List ClassD:=[⟨⟨#[79,98,106,101,99,116]⟩,⟨#[]⟩,[],[⟨⟨#[109,97,105,110]⟩,true,[],⟨0,⟨#[]⟩⟩,2,0,⟨#[1,0,7,31,27]⟩,[]⟩]⟩,
 ⟨⟨#[69,114,114,111,114]⟩,⟨#[79,98,106,101,99,116]⟩,[⟨⟨#[99,111,100,101]⟩,⟨1,⟨#[]⟩⟩⟩],[]⟩]
theorem base_tie:tieRes baseDL=0:=by kernel_rfl
set_option maxHeartbeats 1000000 in
theorem base_anyL (w:World):Calls Tryz.prog 12 #[] w fun r w'=>Below w.heap.size w w'/\∃v,r=.returned v/\SL 4 RC (· <w'.heap.size) w' v baseDL:=by
 go_enter Tryz.func12,Tryz.ntmps12
 go_wp2
 go_ret
 refine ⟨((((Below.refl _ _).alloc (Nat.le_refl _) _).alloc (by simp) _).alloc (by simp;omega) _),_,rfl,?_⟩
 refine ⟨_,_,rfl,Nat.le_refl _,by unfold maxLen;simp [baseDL],fun k hk=>?_⟩
 have hk2:k<2:=hk
 match k,hk2 with
 | 0,_=>
   refine ⟨_,_,[.string ⟨#[79,98,106,101,99,116]⟩,.string ⟨#[]⟩,.slice none 0 0,.slice (some ⟨w.heap.size,0,none⟩) 1 1],rfl,by simp,by simp,rfl,fun j hj=>?_,?_⟩
   ·
    match j,hj with
    | 0,_=>simp [go_sem]
    | 1,_=>simp [go_sem]
    | 2,_=>simp [go_sem]
    | 3,_=>simp [go_sem]
   refine ⟨_,_,rfl,⟨none,0,rfl,Nat.le_refl _,Nat.zero_le _,fun k hk=>by cases hk⟩,⟨some ⟨w.heap.size,0,none⟩,1,rfl,Nat.le_refl _,by unfold maxLen;simp [baseDL],fun k hk=>?_⟩,of_decide_eq_true (by kernel_rfl),of_decide_eq_true (by kernel_rfl)⟩
   have hk0:k<1:=hk
   match k,hk0 with
   | 0,_=>
     refine ⟨_,_,[.string ⟨#[109,97,105,110]⟩,.bool true,.slice none 0 0,.int .i64 0,.string ⟨#[]⟩,.int .i64 2,.int .i64 0,.string ⟨#[1,0,7,31,27]⟩,.slice none 0 0],rfl,by simp;omega,by simp;omega,rfl,fun j hj=>?_,?_⟩
     ·
      match j,hj with
      | 0,_=>simp [go_sem]
      | 1,_=>simp [go_sem]
      | 2,_=>simp [go_sem]
      | 3,_=>simp [go_sem]
      | 4,_=>simp [go_sem]
      | 5,_=>simp [go_sem]
      | 6,_=>simp [go_sem]
      | 7,_=>simp [go_sem]
      | 8,_=>simp [go_sem]
     exact ⟨_,_,rfl,⟨none,0,rfl,Nat.le_refl _,Nat.zero_le _,fun k hk=>by cases hk⟩,⟨none,0,rfl,Nat.le_refl _,Nat.zero_le _,fun k hk=>by cases hk⟩,of_decide_eq_true (by kernel_rfl),of_decide_eq_true (by kernel_rfl),of_decide_eq_true (by kernel_rfl)⟩
 | 1,_=>
   refine ⟨_,_,[.string ⟨#[69,114,114,111,114]⟩,.string ⟨#[79,98,106,101,99,116]⟩,.slice (some ⟨w.heap.size+1,0,none⟩) 1 1,.slice none 0 0],rfl,by simp,by simp,rfl,fun j hj=>?_,?_⟩
   ·
    match j,hj with
    | 0,_=>simp [go_sem]
    | 1,_=>simp [go_sem]
    | 2,_=>simp [go_sem]
    | 3,_=>simp [go_sem]
   refine ⟨_,_,rfl,⟨some ⟨w.heap.size+1,0,none⟩,1,rfl,Nat.le_refl _,by unfold maxLen;simp [baseDL],fun k hk=>?_⟩,⟨none,0,rfl,Nat.le_refl _,Nat.zero_le _,fun k hk=>by cases hk⟩,of_decide_eq_true (by kernel_rfl),of_decide_eq_true (by kernel_rfl)⟩
   have hk0:k<1:=hk
   match k,hk0 with
   | 0,_=>
     refine ⟨_,_,[.string ⟨#[99,111,100,101]⟩,.int .i64 1,.string ⟨#[]⟩],rfl,by simp,by simp,rfl,fun j hj=>?_,?_⟩
     ·
      match j,hj with
      | 0,_=>simp [go_sem]
      | 1,_=>simp [go_sem]
      | 2,_=>simp [go_sem]
     exact ⟨rfl,of_decide_eq_true (by kernel_rfl),of_decide_eq_true (by kernel_rfl)⟩
end Go.Proofs.YtcddpmappmjilaaGreatDoor
