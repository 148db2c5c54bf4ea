import Derived.Test.YtjdnmblggdobgaaGreatJTk2Dies
import Derived.Test.YtjdnmblggdobgaaGreatLSa
import Derived.Test.YtjdnmblggdobgaaGreatLDif
import Derived.Test.YtjdnmblggdobgaaGreatLWea
import Derived.Test.YtjdnmblggdobgaaGreatLMade
set_option maxHeartbeats 2000000
set_option maxRecDepth 100000
namespace Go.Proofs.YtjdnmblggdobgaaGreat
open Go.RowKit Go.Maps
def qsOf (l:List ClassD):List QD:=[⟨203,6,askNames l⟩,⟨204,5,askTop l⟩,⟨205,4,askUpper l⟩,⟨206,5,askSupers l⟩,⟨207,4,askNone l⟩,⟨208,4,askError l⟩,⟨209,5,askTold l⟩,⟨210,6,askParts l⟩,⟨211,4,askSame l⟩,⟨212,2,askFew l⟩]
def tieRes (l:List ClassD):Int:=if checkL l=0 then askRes (qsOf l) else checkL l
theorem qs_SL (w:World) (b t:Nat) (l:List ClassD):SL 2 (RQ #[.pointer (some ⟨b,0,none⟩)]) (· <w.heap.size+1) (w.alloc (.cells #[.func (.func 203) #[.pointer (some ⟨b,0,none⟩)] #[],.int .i64 6,.func (.func 204) #[.pointer (some ⟨b,0,none⟩)] #[],.int .i64 5,.func (.func 205) #[.pointer (some ⟨b,0,none⟩)] #[],.int .i64 4,.func (.func 206) #[.pointer (some ⟨b,0,none⟩)] #[],.int .i64 5,.func (.func 207) #[.pointer (some ⟨b,0,none⟩)] #[],.int .i64 4,.func (.func 208) #[.pointer (some ⟨b,0,none⟩)] #[],.int .i64 4,.func (.func 209) #[.pointer (some ⟨b,0,none⟩)] #[],.int .i64 5,.func (.func 210) #[.pointer (some ⟨b,0,none⟩)] #[],.int .i64 6,.func (.func 211) #[.pointer (some ⟨b,0,none⟩)] #[],.int .i64 4,.func (.func 212) #[.pointer (some ⟨b,0,none⟩)] #[],.int .i64 2] t)) (.slice (some ⟨w.heap.size,0,none⟩) 10 10) (qsOf l):=by
 refine ⟨some ⟨w.heap.size,0,none⟩,10,rfl,by simp [qsOf],by unfold maxLen;simp [qsOf],fun k hk=>?_⟩
 have hk':k<10:=by simpa [qsOf]using hk
 refine ⟨w.heap.size,0,[.func (.func (qsOf l)[k].g) #[.pointer (some ⟨b,0,none⟩)] #[],.int .i64 (qsOf l)[k].e],rfl,by simp,by simp,rfl,?_,rfl⟩
 have hc:∀j v,(#[.func (.func 203) #[.pointer (some ⟨b,0,none⟩)] #[],.int .i64 6,.func (.func 204) #[.pointer (some ⟨b,0,none⟩)] #[],.int .i64 5,.func (.func 205) #[.pointer (some ⟨b,0,none⟩)] #[],.int .i64 4,.func (.func 206) #[.pointer (some ⟨b,0,none⟩)] #[],.int .i64 5,.func (.func 207) #[.pointer (some ⟨b,0,none⟩)] #[],.int .i64 4,.func (.func 208) #[.pointer (some ⟨b,0,none⟩)] #[],.int .i64 4,.func (.func 209) #[.pointer (some ⟨b,0,none⟩)] #[],.int .i64 5,.func (.func 210) #[.pointer (some ⟨b,0,none⟩)] #[],.int .i64 6,.func (.func 211) #[.pointer (some ⟨b,0,none⟩)] #[],.int .i64 4,.func (.func 212) #[.pointer (some ⟨b,0,none⟩)] #[],.int .i64 2]:Array Value)[j]? =some v->(w.alloc (.cells #[.func (.func 203) #[.pointer (some ⟨b,0,none⟩)] #[],.int .i64 6,.func (.func 204) #[.pointer (some ⟨b,0,none⟩)] #[],.int .i64 5,.func (.func 205) #[.pointer (some ⟨b,0,none⟩)] #[],.int .i64 4,.func (.func 206) #[.pointer (some ⟨b,0,none⟩)] #[],.int .i64 5,.func (.func 207) #[.pointer (some ⟨b,0,none⟩)] #[],.int .i64 4,.func (.func 208) #[.pointer (some ⟨b,0,none⟩)] #[],.int .i64 4,.func (.func 209) #[.pointer (some ⟨b,0,none⟩)] #[],.int .i64 5,.func (.func 210) #[.pointer (some ⟨b,0,none⟩)] #[],.int .i64 6,.func (.func 211) #[.pointer (some ⟨b,0,none⟩)] #[],.int .i64 4,.func (.func 212) #[.pointer (some ⟨b,0,none⟩)] #[],.int .i64 2] t)).cell? ⟨w.heap.size,j,none⟩=some v:=fun j v h=>cl0 (heap_alloc_new w _) j h
 match k,hk' with
 | 0,_=>
   intro j hj
   rcases (by omega:j=0\/j=1)with rfl | rfl
   ·exact hc 0 _ rfl
   exact hc 1 _ rfl
 | 1,_=>
   intro j hj
   rcases (by omega:j=0\/j=1)with rfl | rfl
   ·exact hc 2 _ rfl
   exact hc 3 _ rfl
 | 2,_=>
   intro j hj
   rcases (by omega:j=0\/j=1)with rfl | rfl
   ·exact hc 4 _ rfl
   exact hc 5 _ rfl
 | 3,_=>
   intro j hj
   rcases (by omega:j=0\/j=1)with rfl | rfl
   ·exact hc 6 _ rfl
   exact hc 7 _ rfl
 | 4,_=>
   intro j hj
   rcases (by omega:j=0\/j=1)with rfl | rfl
   ·exact hc 8 _ rfl
   exact hc 9 _ rfl
 | 5,_=>
   intro j hj
   rcases (by omega:j=0\/j=1)with rfl | rfl
   ·exact hc 10 _ rfl
   exact hc 11 _ rfl
 | 6,_=>
   intro j hj
   rcases (by omega:j=0\/j=1)with rfl | rfl
   ·exact hc 12 _ rfl
   exact hc 13 _ rfl
 | 7,_=>
   intro j hj
   rcases (by omega:j=0\/j=1)with rfl | rfl
   ·exact hc 14 _ rfl
   exact hc 15 _ rfl
 | 8,_=>
   intro j hj
   rcases (by omega:j=0\/j=1)with rfl | rfl
   ·exact hc 16 _ rfl
   exact hc 17 _ rfl
 | 9,_=>
   intro j hj
   rcases (by omega:j=0\/j=1)with rfl | rfl
   ·exact hc 18 _ rfl
   exact hc 19 _ rfl
 | k+10,h=>exact absurd h (by omega)
theorem zjq (l:List ClassD):∀q∈qsOf l,∀args w,(callFunc q.g args).run Tryz.prog w=.ok (.enter q.g args) w:=by
 intro q hq
 simp only [qsOf,List.mem_cons,List.not_mem_nil,or_false]at hq
 rcases hq with rfl | rfl | rfl | rfl | rfl | rfl | rfl | rfl | rfl | rfl<;>intro args w<;>kernel_rfl
theorem zjr (l:List ClassD):∀q∈qsOf l,q.e≠0:=by
 intro q hq
 simp only [qsOf,List.mem_cons,List.not_mem_nil,or_false]at hq
 rcases hq with rfl | rfl | rfl | rfl | rfl | rfl | rfl | rfl | rfl | rfl<;>simp
theorem zjs (w:World) (B b:Nat) (l:List ClassD) (vC vS vF vN vT vL:Value) (Bm:Nat) (hw1:Web B w b l vC vS vF vN vT vL Bm) (k:Nat) (hk:k<(qsOf l).length) (hall:∀(j:Nat) (hj:j<(qsOf l).length),j<k->(qsOf l)[j].ans=true):
 Calls Tryz.prog (qsOf l)[k].g #[.pointer (some ⟨b,0,none⟩)] w fun r w'=>r=.returned (.bool (qsOf l)[k].ans)/\Below w.heap.size w w':=by
 match k,hk,hall with
 | 0,hk,hall=>exact zdr _ B b l _ _ _ _ _ _ _ hw1
 | 1,hk,hall=>exact zds _ B b l _ _ _ _ _ _ _ hw1
 | 2,hk,hall=>exact zdv _ B b l _ _ _ _ _ _ _ hw1
 | 3,hk,hall=>exact zdx _ B b l _ _ _ _ _ _ _ hw1
 | 4,hk,hall=>exact zdz _ B b l _ _ _ _ _ _ _ hw1
 | 5,hk,hall=>exact zd8 _ B b l _ _ _ _ _ _ _ hw1 (by have h:=hall 1 (by simp [qsOf]) (by omega);have h2:askTop l=true:=h;rw [askTop,Bool.and_eq_true]at h2;simpa [hasC]using h2.2)
 | 6,hk,hall=>exact zd4 _ B b l _ _ _ _ _ _ _ hw1
 | 7,hk,hall=>exact zfv _ B b l _ _ _ _ _ _ _ hw1
 | 8,hk,hall=>exact zjh _ B b l _ _ _ _ _ _ _ hw1 (hall 3 (by simp [qsOf]) (by omega))
 | 9,hk,hall=>exact zd7 _ B b l _ _ _ _ _ _ _ hw1
 | k+10,hk,_=>exact absurd hk (by simp [qsOf])
theorem zjt (w:World) (B b:Nat) (l:List ClassD) (vC vS vF vN vT vL:Value) (Bm:Nat) (hw:Web B w b l vC vS vF vN vT vL Bm):
 Calls Tryz.prog 161 #[.pointer (some ⟨b,0,none⟩)] w fun r w'=>ChkOut (askRes (qsOf l)) r/\Below w.heap.size w w':=by
 have hmf:=mkf Tryz.prog
 have HW:=mk0 hw
 have HB0:=mk0 (fun o=>(Below.refl w.heap.size w).alloc (Nat.le_refl _) o)
 have HQ:=mk0 (fun t=>qs_SL w b t l)
 clear hw
 go_enter Tryz.func161,Tryz.ntmps161
 go_wp2_with fail
 refine (zje _ (w.heap.size+1) #[.pointer (some ⟨b,0,none⟩)] _ (qsOf l) (HQ.out _) (by simp) (zjq l) (zjr l) ?_).mono ?_
 ·intro k hk hall w' hb
  exact zjs w' B b l _ _ _ _ _ _ _ (HW.out.below (((HB0.out _).mono HW.out.le).trans (hb.mono (Nat.le_trans HW.out.le (HB0.out _).size)))) k hk hall
 rintro r w1 ⟨⟨hc,rfl⟩ | ⟨hc,rfl⟩,hb⟩
 ·exact ⟨rfl,Or.inl ⟨hc,rfl⟩,(HB0.out _).trans (hb.mono (HB0.out _).size)⟩
 have HC:=mk0 hc
 have HB:=mk0 ((HB0.out _).trans (hb.mono (HB0.out _).size))
 clear hc hb
 go_wp2_with fail
 go_end0
 exact ⟨Or.inr ⟨HC.out,rfl⟩,HB.out⟩
def TiedW (B:Nat) (w:World) (l:List ClassD) (v:Value) (p:Value) (w':World):Prop:=∃b vS vF vN vT vL Bm,p=.pointer (some ⟨b,0,none⟩)/\w.heap.size<=b/\WebM (fun k=>(k<B\/w.heap.size<=k)/\k<w'.heap.size) w' b l v vS vF vN vT vL Bm
theorem zju (w:World) (B P:Nat) (l:List ClassD) (v:Value) (hv:SL 4 RC (· <B) w v l) (hB:B<=w.heap.size) (hchk:checkL l=0) (hP:w.cell? ⟨P,0,none⟩=some v):
 Calls Tryz.prog 159 #[.pointer (some ⟨P,0,none⟩)] w fun r w'=>Below w.heap.size w w'/\
  ((∃p,r=.returned p/\(∃q,p=.pointer q)/\askRes (qsOf l)=0/\TiedW B w l v p w')\/∃e p,r=.panicked [wrongV e p]/\askRes (qsOf l)=e/\e≠0):=by
 have HV:=mk0 hv
 obtain ⟨ao,cl,rfl,-⟩:=hv
 go_enter Tryz.func159,Tryz.ntmps159
 go_wp2_with fail
 refine (zjl w B l _ HV.out hB hchk).mono ?_
 rintro r w1 ⟨rfl,hb1,vS,vF,vN,vT,vL,hweb⟩
 have HW:=mk0 hweb
 have HB1:=mk0 hb1
 clear hweb hb1
 go_wp2_with fail
 refine (zjt w1 w1.heap.size (w.heap.size+1) l _ _ _ _ _ _ _ HW.out.web).mono ?_
 rintro r w2 ⟨⟨hc,rfl⟩ | ⟨hc,rfl⟩,hb⟩
 ·exact ⟨rfl,HB1.out.trans (hb.mono HB1.out.size),Or.inr ⟨_,_,rfl,rfl,hc⟩⟩
 have HC:=mk0 hc
 have HB:=mk0 (HB1.out.trans (hb.mono HB1.out.size))
 have HW2:Hid (TiedW B w l (.slice ao l.length cl) (.pointer (some ⟨w.heap.size+1,0,none⟩)) w2):=⟨_,_,_,_,_,_,_,rfl,by omega,((HW.out.kept ⟨hb.size,fun k hk _=>hb.block k hk.2⟩).mono (fun k hk=>⟨hk.1,Nat.lt_of_lt_of_le hk.2 hb.size⟩) (fun k hk=>hk.2))⟩
 clear hc hb HW
 go_wp2_with fail
 go_ret
 exact ⟨HB.out,Or.inl ⟨_,rfl,⟨_,rfl⟩,HC.out,HW2.out⟩⟩
theorem callTie1 (args:Array Value) (w:World):(callFunc 159 args).run Tryz.prog w=.ok (.enter 159 args) w:=by kernel_rfl
theorem zjv (w:World) (B:Nat) (l:List ClassD) (v:Value) (hv:SL 4 RC (· <B) w v l) (hB:B<=w.heap.size):
 Calls Tryz.prog 101 #[v] w fun r w'=>Below w.heap.size w w'/\
  ((tieRes l=0/\∃p,r=.returned (.tuple #[p,.int .i64 0])/\TiedW B w l v p w')\/(tieRes l≠0/\r=.returned (.tuple #[.pointer none,.int .i64 (tieRes l)]))):=by
 have hmf:=mkf Tryz.prog
 have HV:=mk0 hv
 obtain ⟨ao,cl,rfl,-⟩:=hv
 have HB0:=mk0 (fun o=>(Below.refl w.heap.size w).alloc (Nat.le_refl _) o)
 go_enter Tryz.func101,Tryz.ntmps101
 go_wp2_with fail
 refine (zb8 _ B l _ (HV.out.keptC (Kp.below ((HB0.out _).mono hB))) (Nat.le_trans hB (HB0.out _).size)).mono ?_
 rintro r w1 ⟨rfl,hb1⟩
 have hB1:=(HB0.out (.cells #[.slice ao l.length cl] 31)).trans (hb1.mono (HB0.out _).size)
 have hP1:w1.cell? ⟨w.heap.size,0,none⟩=some (.slice ao l.length cl):=(hb1.cell (p:=⟨w.heap.size,0,none⟩) (by simp)).trans (by simp [go_sem])
 have hz1:w.heap.size+1<=w1.heap.size:=by have:=hb1.size;simpa using this
 have HB1:=mk0 hB1
 clear hb1 hB1
 by_cases hchk:checkL l=0
 ·have HT:Hid (tieRes l=askRes (qsOf l)):=by show tieRes l=_;rw [tieRes,if_pos hchk]
  have HCK:=mk0 hchk
  rw [hchk]
  clear hchk
  go_wp2_with fail
  refine (zjn w1 159 _ (fun p w'=>askRes (qsOf l)=0/\∃b vS vF vN vT vL Bm,p=.pointer (some ⟨b,0,none⟩)/\w.heap.size<=b/\WebM (fun k=>(k<B\/w1.heap.size+4<=k)/\k<w'.heap.size) w' b l (.slice ao l.length cl) vS vF vN vT vL Bm) (fun e p=>askRes (qsOf l)=e/\e≠0) callTie1 ?hc ?hst).mono ?_
  case hc=>
   intro W hW hWs
   refine (zju W B w.heap.size l _ (HV.out.keptC (Kp.below ((HB1.out.trans (hW.mono HB1.out.size)).mono hB))) (Nat.le_trans hB (HB1.out.trans (hW.mono HB1.out.size)).size) HCK.out ((hW.cell (p:=⟨w.heap.size,0,none⟩) (by simp;omega)).trans hP1)).mono ?_
   rintro r w2 ⟨hb2,⟨p,rfl,hp,h0,b,vS,vF,vN,vT,vL,Bm,e,hle,hwb⟩ | ⟨e,p,rfl,h1,h2⟩⟩
   ·refine ⟨hb2,Or.inl ⟨p,rfl,hp,h0,b,vS,vF,vN,vT,vL,Bm,e,by omega,?_⟩⟩
    rw [hWs]at hwb
    exact hwb
   exact ⟨hb2,Or.inr ⟨e,p,rfl,h1,h2⟩⟩
  case hst=>
   rintro p W W' hz hf ⟨h0,b,vS,vF,vN,vT,vL,Bm,e,hle,hwb⟩
   refine ⟨h0,b,vS,vF,vN,vT,vL,Bm,e,hle,(hwb.kept ⟨hf.size,fun k hk _=>hf.block k hk.2 (by rcases hk.1 with h | h;(have:=HB1.out.size;omega);omega)⟩).mono (fun k hk=>⟨hk.1,Nat.lt_of_lt_of_le hk.2 hf.size⟩) (fun k hk=>hk.2)⟩
  rintro r w2 ⟨hb2,hz2,⟨p,rfl,-,h0,b,vS,vF,vN,vT,vL,Bm,rfl,hle,hwb⟩ | ⟨e,p,rfl,h1,h2⟩⟩
  ·have HBF:=mk0 (fun o=>(HB1.out.trans (hb2.mono HB1.out.size)).alloc (Nat.le_trans HB1.out.size hb2.size) o)
   have HR:Hid (∀o n,tieRes l=0/\TiedW B w l (.slice ao l.length cl) (.pointer (some ⟨b,0,none⟩)) ((w2.alloc o).drewN n)):=fun o n=>⟨HT.out.trans h0,b,vS,vF,vN,vT,vL,Bm,rfl,hle,(hwb.kept (w':=(w2.alloc o).drewN n) ⟨by show _<=(w2.alloc o).heap.size;simp,fun k hk _=>Below.heap_alloc _ _ _ hk.2⟩).mono (fun k hk=>⟨hk.1.imp id (fun h=>by omega),by show _<(w2.alloc o).heap.size;have:=hk.2;simp;omega⟩) (fun k hk=>hk.2)⟩
   clear hwb h0 hb2
   go_wp2_with fail
   go_quiet (fail)
   go_wp2_with fail
   exact bodyPost_ret (v:=.tuple #[_,_]) (by simp [results,Tryz.results101,go_sem]) rfl ⟨zdq (HBF.out _) _,Or.inl ⟨(HR.out (.map #[] 0) 0).1,_,rfl,(HR.out _ _).2⟩⟩
  have HBF:=mk0 (fun o=>(HB1.out.trans (hb2.mono HB1.out.size)).alloc (Nat.le_trans HB1.out.size hb2.size) o)
  have HR:Hid (tieRes l=e/\e≠0):=⟨HT.out.trans h1,h2⟩
  clear hb2 h1 h2
  go_wp2_with fail
  go_quiet (fail)
  go_wp2_with fail
  exact bodyPost_ret (v:=.tuple #[_,_]) (by simp [results,Tryz.results101,go_sem];exact ⟨rfl,rfl⟩) rfl ⟨zdq (HBF.out _) _,Or.inr ⟨by rw [HR.out.1];exact HR.out.2,by rw [HR.out.1]⟩⟩
 have HT:Hid (tieRes l=checkL l):=by show tieRes l=_;rw [tieRes,if_neg hchk]
 have hne:(checkL l==0)=false:=beq_eq_false_iff_ne.2 hchk
 have HN:=mk0 hchk
 clear hchk
 generalize checkL l=ce at*
 go_wp2_with fail
 exact bodyPost_ret (v:=.tuple #[_,_]) (by simp [results,Tryz.results101,go_sem];exact ⟨rfl,rfl⟩) rfl ⟨HB1.out,Or.inr ⟨by rw [HT.out];exact HN.out,by rw [HT.out]⟩⟩
end Go.Proofs.YtjdnmblggdobgaaGreat
