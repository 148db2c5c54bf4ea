import Derived.Test.YtjdnmblggdobgaaGreatJTk2Dies
import Derived.Test.YtjdnmblggdobgaaGreatJHmCBx
import Derived.Test.YtjdnmblggdobgaaGreatLMade
set_option maxHeartbeats 4000000
set_option maxRecDepth 100000
namespace Go.Proofs.YtjdnmblggdobgaaGreat
open Go.RowKit Go.Maps
def IsTh (v:Value):Prop:=∃(a0:Int) (a1:Int) (a2:Int) (a3:Int),v=.agg #[.int .i64 a0,.int .i64 a1,.int .i64 a2,.int .i64 a3]
theorem made1Th_any (w:World) (g:Nat) (cap:Array Value) (Ok:Value->World->Prop) (No:Int->Int->Prop) (Pf Q:Nat) (hcf:∀args w,(callFunc g args).run Tryz.prog w=.ok (.enter g args) w)
 (hpf:w.cell? ⟨Pf,0,none⟩=some (.func (.func g) #[] cap)) (hq:∀j,j<4->∃x,w.cell? ⟨Q,j,none⟩=some x) (hz:∀j,w.frozen? ⟨Q,j,none⟩=false)
 (hc:Calls Tryz.prog g cap w fun r W'=>Below w.heap.size w W'/\((∃v,r=.returned v/\IsTh v/\Ok v W')\/∃e p,r=.panicked [wrongV e p]/\No e p)):
 Calls Tryz.prog 125 #[.pointer (some ⟨Pf,0,none⟩),.pointer (some ⟨Q,0,none⟩)] w fun r w'=>
  (r=.returned (.tuple #[])/\∃(v:Value) (W':World),IsTh v/\Ok v W'/\(∀j,j<4->w'.cell? ⟨Q,j,none⟩=v.cells[j]?)/\w.grownBy w' (some Q)/\W'.grownBy w' (some Q)/\Below w.heap.size w W')\/
  (∃e p,r=.panicked [wrongV e p]/\No e p/\Below w.heap.size w w'):=by
 have hQ:Q<w.heap.size:=by obtain ⟨x,hx⟩:=hq 0 (by decide);exact World.block_lt_of_cell? w _ hx
 have HC:=mk0 hc
 clear hc
 go_enter Tryz.func125,Tryz.ntmps125
 go_wp2_with fail
 refine HC.out.mono ?_
 rintro r w1 ⟨hb,⟨v,rfl,⟨a0,a1,a2,a3,rfl⟩,hok⟩ | ⟨e,p,rfl,hno⟩⟩
 rotate_left
 ·
  exact ⟨rfl,Or.inr ⟨e,p,rfl,hno,hb⟩⟩
 have hq2:∀j,j<4->∃x,w1.cell? ⟨Q,j,none⟩=some x:=fun j hj=>(hq j hj).imp fun x hx=>(hb.cell (p:=⟨Q,j,none⟩) hQ).trans hx
 obtain ⟨x0,hx0⟩:=hq2 0 (by decide)
 obtain ⟨x1,hx1⟩:=hq2 1 (by decide)
 obtain ⟨x2,hx2⟩:=hq2 2 (by decide)
 obtain ⟨x3,hx3⟩:=hq2 3 (by decide)
 have hz1:∀j,w1.frozen? ⟨Q,j,none⟩=false:=fun j=>(hb.frozen (p:=⟨Q,j,none⟩) hQ).trans (hz j)
 have HT:=mk0 (setL_ok Q [.int .i64 a0,.int .i64 a1,.int .i64 a2,.int .i64 a3] w1 0 (fun j hj=>by rw [Nat.zero_add];exact hq2 j (by simpa using hj)))
 have HG0:Hid (w.grownBy w1 (some Q)):=⟨hb.os,hb.tape,hb.output,hb.size,fun k hk _=>hb.block k hk⟩
 have HOK:=mk0 hok
 have HB:=mk0 hb
 clear hok hb hq hz HC hq2
 go_wp2
 go_end0
 refine Or.inl ⟨rfl,.agg #[.int .i64 a0,.int .i64 a1,.int .i64 a2,.int .i64 a3],w1,⟨a0,a1,a2,a3,rfl⟩,HOK.out,fun j hj=>?_,HG0.out.trans HT.out.1,HT.out.1,HB.out⟩
 have:=HT.out.2.1 j (by simpa using hj)
 rw [Nat.zero_add]at this
 refine Eq.trans this ?_
 simp [Value.cells]
theorem callMadeTh (args:Array Value) (w:World):(callFunc 125 args).run Tryz.prog w=.ok (.enter 125 args) w:=by kernel_rfl
theorem afterMadeTh (w w1:World) (x:Value) (h:(((((w.alloc (.cells #[x] 105)).alloc (.cells #[.int .i64 0,.int .i64 0,.int .i64 0,.int .i64 0] 101)).alloc (.cells #[.int .i64 0,.int .i64 0] 84)).alloc (.cells #[.int .i64 0,.int .i64 0,.int .i64 0,.int .i64 0] 101)).alloc (.cells #[.int .i64 0,.int .i64 0] 84)).grownBy w1 (some (w.heap.size+3))):w1.heap[w.heap.size+4]? =some (.cells #[.int .i64 0,.int .i64 0] 84 (0,0))/\AftN 4 w w1:=by
 have hB0:Below w.heap.size w (((((w.alloc (.cells #[x] 105)).alloc (.cells #[.int .i64 0,.int .i64 0,.int .i64 0,.int .i64 0] 101)).alloc (.cells #[.int .i64 0,.int .i64 0] 84)).alloc (.cells #[.int .i64 0,.int .i64 0,.int .i64 0,.int .i64 0] 101)).alloc (.cells #[.int .i64 0,.int .i64 0] 84)):=(((((Below.refl _ _).alloc (Nat.le_refl _) _).alloc (by simp) _).alloc (by simp<;>omega) _).alloc (by simp<;>omega) _).alloc (by simp<;>omega) _
 have hz:(((((w.alloc (.cells #[x] 105)).alloc (.cells #[.int .i64 0,.int .i64 0,.int .i64 0,.int .i64 0] 101)).alloc (.cells #[.int .i64 0,.int .i64 0] 84)).alloc (.cells #[.int .i64 0,.int .i64 0,.int .i64 0,.int .i64 0] 101)).alloc (.cells #[.int .i64 0,.int .i64 0] 84)).heap.size=w.heap.size+5:=by simp
 have hb1:(((((w.alloc (.cells #[x] 105)).alloc (.cells #[.int .i64 0,.int .i64 0,.int .i64 0,.int .i64 0] 101)).alloc (.cells #[.int .i64 0,.int .i64 0] 84)).alloc (.cells #[.int .i64 0,.int .i64 0,.int .i64 0,.int .i64 0] 101)).alloc (.cells #[.int .i64 0,.int .i64 0] 84)).heap[w.heap.size+1]? =some (.cells #[.int .i64 0,.int .i64 0,.int .i64 0,.int .i64 0] 101 (0,0)):=(Below.heap_alloc _ _ _ (by simp<;>omega)).trans ((Below.heap_alloc _ _ _ (by simp<;>omega)).trans ((Below.heap_alloc _ _ _ (by simp)).trans (by
  have:=heap_alloc_new (w.alloc (.cells #[x] 105)) (.cells #[.int .i64 0,.int .i64 0,.int .i64 0,.int .i64 0] 101)
  simpa using this)))
 have hb2:(((((w.alloc (.cells #[x] 105)).alloc (.cells #[.int .i64 0,.int .i64 0,.int .i64 0,.int .i64 0] 101)).alloc (.cells #[.int .i64 0,.int .i64 0] 84)).alloc (.cells #[.int .i64 0,.int .i64 0,.int .i64 0,.int .i64 0] 101)).alloc (.cells #[.int .i64 0,.int .i64 0] 84)).heap[w.heap.size+2]? =some (.cells #[.int .i64 0,.int .i64 0] 84 (0,0)):=(Below.heap_alloc _ _ _ (by simp<;>omega)).trans ((Below.heap_alloc _ _ _ (by simp)).trans (by
  have:=heap_alloc_new ((w.alloc (.cells #[x] 105)).alloc (.cells #[.int .i64 0,.int .i64 0,.int .i64 0,.int .i64 0] 101)) (.cells #[.int .i64 0,.int .i64 0] 84)
  simpa using this))
 have k1:=(h.block (w.heap.size+1) (by omega) (by simp)).trans hb1
 have k2:=(h.block (w.heap.size+2) (by omega) (by simp)).trans hb2
 refine ⟨?_,bg0 hB0 h (by omega),fun j hj=>?_,fun j=>frz_of k1 j,fun j hj=>?_,fun j=>frz_of k2 j,by rw [<-hz];exact h.size⟩
 ·
  rw [h.block (w.heap.size+4) (by omega) (by simp)]
  show (((((w.heap.push _).push _).push _).push _).push _)[w.heap.size+4]? =_
  rw [Array.getElem?_push,if_pos (by simp)]
 ·
  exact ⟨_,cl0 k1 j (x:=[.int .i64 0,.int .i64 0,.int .i64 0,.int .i64 0][j]'(by simpa using hj)) (by rw [<-List.getElem_toArray (by simpa using hj)];exact Array.getElem?_eq_getElem (by simpa using hj))⟩
 ·
  exact ⟨_,cl0 k2 j (x:=[Value.int .i64 0,.int .i64 0][j]'(by simpa using hj)) (by rw [<-List.getElem_toArray (by simpa using hj)];exact Array.getElem?_eq_getElem (by simpa using hj))⟩
theorem madeTh_any (w:World) (g:Nat) (cap:Array Value) (Ok:Value->World->Prop) (No:Int->Int->Prop) (hcf:∀args w,(callFunc g args).run Tryz.prog w=.ok (.enter g args) w)
 (hc:∀W,Below w.heap.size w W->W.heap.size=w.heap.size+5->Calls Tryz.prog g cap W fun r W'=>Below W.heap.size W W'/\((∃v,r=.returned v/\IsTh v/\Ok v W')\/∃e p,r=.panicked [wrongV e p]/\No e p))
 (hst:∀v W W',w.heap.size+5<=W.heap.size->Far w.heap.size (w.heap.size+5) W W'->Ok v W->Ok v W'):
 Calls Tryz.prog 62 #[.func (.func g) #[] cap] w fun r w'=>Below w.heap.size w w'/\w.heap.size+5<=w'.heap.size/\
  ((∃v,r=.returned (.tuple #[v,.agg #[.int .i64 0,.int .i64 0]])/\IsTh v/\Ok v w')\/
   (∃e p,r=.returned (.tuple #[.agg #[.int .i64 0,.int .i64 0,.int .i64 0,.int .i64 0],.agg #[.int .i64 e,.int .i64 p]])/\No e p)):=by
 have hmf:=mkf Tryz.prog
 have hB0:Below w.heap.size w ((((w.alloc (.cells #[.func (.func g) #[] cap] 105)).alloc (.cells #[.int .i64 0,.int .i64 0,.int .i64 0,.int .i64 0] 101)).alloc (.cells #[.int .i64 0,.int .i64 0] 84)).alloc (.cells #[.int .i64 0,.int .i64 0,.int .i64 0,.int .i64 0] 101)):=((((Below.refl _ _).alloc (Nat.le_refl _) _).alloc (by simp) _).alloc (by simp<;>omega) _).alloc (by simp<;>omega) _
 have hB1:=hB0.alloc hB0.size (.cells #[.int .i64 0,.int .i64 0] 84)
 have HC:=mk0 hc
 have HST:=mk0 hst
 have HCF:=mk0 hcf
 clear hc hst hcf
 go_enter Tryz.func62,Tryz.ntmps62
 go_wp2_with fail
 refine (caught_any 125 _ _ (fun w1=>∃v,IsTh v/\(∀j,j<4->w1.cell? ⟨w.heap.size+3,j,none⟩=v.cells[j]?)/\Ok v w1/\AftN 4 w w1)
  (fun e p w1=>No e p/\(∀j,j<4->w1.cell? ⟨w.heap.size+3,j,none⟩= [.int .i64 0,.int .i64 0,.int .i64 0,.int .i64 0][j]?)/\AftN 4 w w1) (callMadeTh _) ?hc).mono ?_
 case hc=>
  have hb3:((((w.alloc (.cells #[.func (.func g) #[] cap] 105)).alloc (.cells #[.int .i64 0,.int .i64 0,.int .i64 0,.int .i64 0] 101)).alloc (.cells #[.int .i64 0,.int .i64 0] 84)).alloc (.cells #[.int .i64 0,.int .i64 0,.int .i64 0,.int .i64 0] 101)).heap[w.heap.size+3]? =some (.cells #[.int .i64 0,.int .i64 0,.int .i64 0,.int .i64 0] 101 (0,0)):=by
   have:=heap_alloc_new (((w.alloc (.cells #[.func (.func g) #[] cap] 105)).alloc (.cells #[.int .i64 0,.int .i64 0,.int .i64 0,.int .i64 0] 101)).alloc (.cells #[.int .i64 0,.int .i64 0] 84)) (.cells #[.int .i64 0,.int .i64 0,.int .i64 0,.int .i64 0] 101)
   simpa using this
  have hb4:=(Below.heap_alloc ((((w.alloc (.cells #[.func (.func g) #[] cap] 105)).alloc (.cells #[.int .i64 0,.int .i64 0,.int .i64 0,.int .i64 0] 101)).alloc (.cells #[.int .i64 0,.int .i64 0] 84)).alloc (.cells #[.int .i64 0,.int .i64 0,.int .i64 0,.int .i64 0] 101)) (.cells #[.int .i64 0,.int .i64 0] 84) _ (lt0 hb3)).trans hb3
  refine (made1Th_any _ g cap Ok No w.heap.size (w.heap.size+3) HCF.out (by simp [go_sem]) (fun j hj=>⟨_,cl0 hb4 j (x:=[.int .i64 0,.int .i64 0,.int .i64 0,.int .i64 0][j]'(by simpa using hj)) (by rw [<-List.getElem_toArray (by simpa using hj)];exact Array.getElem?_eq_getElem (by simpa using hj))⟩) (fun j=>frz_of hb4 j) (HC.out _ hB1 (by simp))).mono ?_
  rintro r w1 (⟨rfl,v,W',hv,hok,hc0,hg,hg0,hbw⟩ | ⟨e,p,rfl,hd,hb⟩)
  ·
   obtain ⟨a1,a2⟩:=afterMadeTh w w1 _ hg
   refine ⟨by simpa using a1,Or.inl ⟨rfl,v,hv,hc0,?_,a2⟩⟩
   exact HST.out _ W' w1 (by have:=hbw.size;simp at this;omega) (Far.grown hg0 (by omega) (by omega)) hok
  ·
   have hg2:World.grownBy _ w1 (some (w.heap.size+3)):=⟨hb.os,hb.tape,hb.output,hb.size,fun k hk _=>hb.block k hk⟩
   obtain ⟨a1,a2⟩:=afterMadeTh w w1 _ hg2
   refine ⟨by simpa using a1,Or.inr ⟨e,p,rfl,hd,fun j hj=>?_,a2⟩⟩
   refine (cl0 ((hb.block (w.heap.size+3) (lt0 hb4)).trans hb4) j (x:=[.int .i64 0,.int .i64 0,.int .i64 0,.int .i64 0][j]'(by simpa using hj)) (by rw [<-List.getElem_toArray (by simpa using hj)];exact Array.getElem?_eq_getElem (by simpa using hj))).trans (List.getElem?_eq_getElem (by simpa using hj)).symm
 rintro r w2 ⟨w1,hg,hr⟩
 have hz:((((w.alloc (.cells #[.func (.func g) #[] cap] 105)).alloc (.cells #[.int .i64 0,.int .i64 0,.int .i64 0,.int .i64 0] 101)).alloc (.cells #[.int .i64 0,.int .i64 0] 84)).alloc (.cells #[.int .i64 0,.int .i64 0,.int .i64 0,.int .i64 0] 101)).heap.size=w.heap.size+4:=by simp
 rw [hz]at hg
 clear hB0 hB1 hz HC HCF
 rcases hr with ⟨rfl,v,hv,hc0,hok,hA⟩ | ⟨e,p,rfl,hd,hc0,hA⟩
 ·
  have HV:=mk0 hv
  obtain ⟨a0,a1,a2,a3,rfl⟩:=hv
  have m0:w2.cell? ⟨w.heap.size+1+1+1,0,none⟩=some (.int .i64 a0):=hg.cell ((hc0 0 (by decide)).trans (by simp [Value.cells])) (by simp)
  have m1:w2.cell? ⟨w.heap.size+1+1+1,1,none⟩=some (.int .i64 a1):=hg.cell ((hc0 1 (by decide)).trans (by simp [Value.cells])) (by simp)
  have m2:w2.cell? ⟨w.heap.size+1+1+1,2,none⟩=some (.int .i64 a2):=hg.cell ((hc0 2 (by decide)).trans (by simp [Value.cells])) (by simp)
  have m3:w2.cell? ⟨w.heap.size+1+1+1,3,none⟩=some (.int .i64 a3):=hg.cell ((hc0 3 (by decide)).trans (by simp [Value.cells])) (by simp)
  have hA2:=hA.grown hg (by omega)
  have HO2:=mk0 (HST.out _ w1 w2 hA.sz (Far.grown hg (by omega) (by omega)) hok)
  have HA2:=mk0 hA2
  obtain ⟨x0,hx0⟩:=hA2.a 0 (by decide)
  obtain ⟨x1,hx1⟩:=hA2.a 1 (by decide)
  obtain ⟨x2,hx2⟩:=hA2.a 2 (by decide)
  obtain ⟨x3,hx3⟩:=hA2.a 3 (by decide)
  obtain ⟨y0,g0⟩:=hA2.f 0 (by decide)
  obtain ⟨y1,g1⟩:=hA2.f 1 (by decide)
  have z1:=hA2.az
  have z2:=hA2.fz
  have hsz:=hA2.sz
  have l1:w.heap.size+1<w2.heap.size:=by omega
  have l2:w.heap.size+1+1<w2.heap.size:=by omega
  have l3:w.heap.size+1+1+1<w2.heap.size:=by omega
  clear hok hc0 hg hA hA2
  go_wp2_with fail
  go_region
  all_goals
   go_wp2
   obtain ⟨W9,h9,hB9,hF9,hz9,hq9,r0,r1⟩:=finN HA2.out [.int .i64 a0,.int .i64 a1,.int .i64 a2,.int .i64 a3] rfl 0 0 (.cells #[.int .i64 0,.int .i64 0] 84)
   rw [show (setL (setL w2 (w.heap.size+1) 0 [.int .i64 a0,.int .i64 a1,.int .i64 a2,.int .i64 a3]) (w.heap.size+1+1) 0 [.int .i64 0,.int .i64 0]).alloc (.cells #[.int .i64 0,.int .i64 0] 84)=(((((((w2.setCell ⟨w.heap.size+1,0,none⟩ (.int .i64 a0)).setCell ⟨w.heap.size+1,1,none⟩ (.int .i64 a1)).setCell ⟨w.heap.size+1,2,none⟩ (.int .i64 a2)).setCell ⟨w.heap.size+1,3,none⟩ (.int .i64 a3)).setCell ⟨w.heap.size+1+1,0,none⟩ (.int .i64 0)).setCell ⟨w.heap.size+1+1,1,none⟩ (.int .i64 0))).alloc (.cells #[.int .i64 0,.int .i64 0] 84) from rfl]at h9
   rw [<-h9]
   have hh0:=hq9 0 (by decide)
   have hh1:=hq9 1 (by decide)
   have hh2:=hq9 2 (by decide)
   have hh3:=hq9 3 (by decide)
   exact bodyPost_ret (v:=.tuple #[.agg #[.int .i64 a0,.int .i64 a1,.int .i64 a2,.int .i64 a3],.agg #[.int .i64 0,.int .i64 0]]) (by simp [results,Tryz.results62,go_sem,hh0,hh1,hh2,hh3,r0,r1]) rfl ⟨hB9.drew,hz9,Or.inl ⟨_,rfl,HV.out,HST.out _ w2 _ hsz (hF9.trans ⟨Nat.le_refl _,fun _ _ _=>rfl⟩) HO2.out⟩⟩
 ·
  have m0:w2.cell? ⟨w.heap.size+1+1+1,0,none⟩=some (.int .i64 0):=hg.cell ((hc0 0 (by decide)).trans rfl) (by simp)
  have m1:w2.cell? ⟨w.heap.size+1+1+1,1,none⟩=some (.int .i64 0):=hg.cell ((hc0 1 (by decide)).trans rfl) (by simp)
  have m2:w2.cell? ⟨w.heap.size+1+1+1,2,none⟩=some (.int .i64 0):=hg.cell ((hc0 2 (by decide)).trans rfl) (by simp)
  have m3:w2.cell? ⟨w.heap.size+1+1+1,3,none⟩=some (.int .i64 0):=hg.cell ((hc0 3 (by decide)).trans rfl) (by simp)
  have hA2:=hA.grown hg (by omega)
  have HD:=mk0 hd
  have HA2:=mk0 hA2
  obtain ⟨x0,hx0⟩:=hA2.a 0 (by decide)
  obtain ⟨x1,hx1⟩:=hA2.a 1 (by decide)
  obtain ⟨x2,hx2⟩:=hA2.a 2 (by decide)
  obtain ⟨x3,hx3⟩:=hA2.a 3 (by decide)
  obtain ⟨y0,g0⟩:=hA2.f 0 (by decide)
  obtain ⟨y1,g1⟩:=hA2.f 1 (by decide)
  have z1:=hA2.az
  have z2:=hA2.fz
  have hsz:=hA2.sz
  have l1:w.heap.size+1<w2.heap.size:=by omega
  have l2:w.heap.size+1+1<w2.heap.size:=by omega
  have l3:w.heap.size+1+1+1<w2.heap.size:=by omega
  clear hd hc0 hg hA hA2 HST
  go_wp2_with fail
  go_region
  all_goals
   go_wp2
   obtain ⟨W9,h9,hB9,hF9,hz9,hq9,r0,r1⟩:=finN HA2.out [.int .i64 0,.int .i64 0,.int .i64 0,.int .i64 0] rfl e p (.cells #[.int .i64 e,.int .i64 p] 84)
   rw [show (setL (setL w2 (w.heap.size+1) 0 [.int .i64 0,.int .i64 0,.int .i64 0,.int .i64 0]) (w.heap.size+1+1) 0 [.int .i64 e,.int .i64 p]).alloc (.cells #[.int .i64 e,.int .i64 p] 84)=(((((((w2.setCell ⟨w.heap.size+1,0,none⟩ (.int .i64 0)).setCell ⟨w.heap.size+1,1,none⟩ (.int .i64 0)).setCell ⟨w.heap.size+1,2,none⟩ (.int .i64 0)).setCell ⟨w.heap.size+1,3,none⟩ (.int .i64 0)).setCell ⟨w.heap.size+1+1,0,none⟩ (.int .i64 e)).setCell ⟨w.heap.size+1+1,1,none⟩ (.int .i64 p))).alloc (.cells #[.int .i64 e,.int .i64 p] 84) from rfl]at h9
   rw [<-h9]
   have hh0:=hq9 0 (by decide)
   have hh1:=hq9 1 (by decide)
   have hh2:=hq9 2 (by decide)
   have hh3:=hq9 3 (by decide)
   exact bodyPost_ret (v:=.tuple #[.agg #[.int .i64 0,.int .i64 0,.int .i64 0,.int .i64 0],.agg #[.int .i64 e,.int .i64 p]]) (by simp [results,Tryz.results62,go_sem,hh0,hh1,hh2,hh3,r0,r1]) rfl ⟨hB9.drew,hz9,Or.inr ⟨_,_,rfl,HD.out⟩⟩
theorem made1R_any (w:World) (g:Nat) (cap:Array Value) (Ok:Value->World->Prop) (No:Int->Int->Prop) (Pf Q:Nat) (x:Value) (hcf:∀args w,(callFunc g args).run Tryz.prog w=.ok (.enter g args) w)
 (hpf:w.cell? ⟨Pf,0,none⟩=some (.func (.func g) #[] cap)) (hq:w.cell? ⟨Q,0,none⟩=some x) (hz:w.frozen? ⟨Q,0,none⟩=false)
 (hc:Calls Tryz.prog g cap w fun r W'=>Below w.heap.size w W'/\((∃v,r=.returned v/\(∃z:Option Addr×Nat×Nat,v=.slice z.1 z.2.1 z.2.2)/\Ok v W')\/∃e p,r=.panicked [wrongV e p]/\No e p)):
 Calls Tryz.prog 128 #[.pointer (some ⟨Pf,0,none⟩),.pointer (some ⟨Q,0,none⟩)] w fun r w'=>
  (r=.returned (.tuple #[])/\∃v W',(∃z:Option Addr×Nat×Nat,v=.slice z.1 z.2.1 z.2.2)/\Ok v W'/\w'.cell? ⟨Q,0,none⟩=some v/\w.grownBy w' (some Q)/\W'.grownBy w' (some Q)/\Below w.heap.size w W')\/
  (∃e p,r=.panicked [wrongV e p]/\No e p/\Below w.heap.size w w'):=by
 have hQ:Q<w.heap.size:=World.block_lt_of_cell? w _ hq
 have HC:=mk0 hc
 clear hc
 go_enter Tryz.func128,Tryz.ntmps128
 go_wp2_with fail
 refine HC.out.mono ?_
 rintro r w1 ⟨hb,⟨v,rfl,hT,hok⟩ | ⟨e,p,rfl,hno⟩⟩
 rotate_left
 ·
  exact ⟨rfl,Or.inr ⟨e,p,rfl,hno,hb⟩⟩
 have hq1:w1.cell? ⟨Q,0,none⟩=some x:=(hb.cell (p:=⟨Q,0,none⟩) hQ).trans hq
 have hz1:w1.frozen? ⟨Q,0,none⟩=false:=(hb.frozen (p:=⟨Q,0,none⟩) hQ).trans hz
 have HG0:Hid (w1.grownBy (w1.setCell ⟨Q,0,none⟩ v) (some Q)):=grown_set (World.grownBy.refl _ _) _ _ (Or.inl rfl)
 have HG:Hid (w.grownBy (w1.setCell ⟨Q,0,none⟩ v) (some Q)):=grown_set ⟨hb.os,hb.tape,hb.output,hb.size,fun k hk _=>hb.block k hk⟩ _ _ (by simp)
 have HC1:=mk0 (World.cell?_setCell_same w1 ⟨Q,0,none⟩ v hq1)
 have HOK:=mk0 hok
 have HB:=mk0 hb
 have HT:=mk0 hT
 obtain ⟨⟨za,zn,zc⟩,rfl⟩:=hT
 clear hok hb hq hz HC
 go_wp2
 go_end0
 exact Or.inl ⟨rfl,_,w1,HT.out,HOK.out,HC1.out,HG.out,HG0.out,HB.out⟩
theorem callMadeR (args:Array Value) (w:World):(callFunc 128 args).run Tryz.prog w=.ok (.enter 128 args) w:=by kernel_rfl
theorem afterMadeR (w w1:World) (x:Value) (h:((((w.alloc (.cells #[x] 114)).alloc (.cells #[.int .i64 0,.int .i64 0] 84)).alloc (.cells #[.slice none 0 0] 22)).alloc (.cells #[.int .i64 0,.int .i64 0] 84)).grownBy w1 (some (w.heap.size+2))):
 w1.heap[w.heap.size+3]? =some (.cells #[.int .i64 0,.int .i64 0] 84 (0,0))/\Below w.heap.size w w1/\w1.cell? ⟨w.heap.size+1,0,none⟩=some (.int .i64 0)/\w1.cell? ⟨w.heap.size+1,1,none⟩=some (.int .i64 0)/\
  (∀j,w1.frozen? ⟨w.heap.size+1,j,none⟩=false)/\w.heap.size+4<=w1.heap.size:=by
 have hB0:Below w.heap.size w ((((w.alloc (.cells #[x] 114)).alloc (.cells #[.int .i64 0,.int .i64 0] 84)).alloc (.cells #[.slice none 0 0] 22)).alloc (.cells #[.int .i64 0,.int .i64 0] 84)):=((((Below.refl _ _).alloc (Nat.le_refl _) _).alloc (by simp) _).alloc (by simp;omega) _).alloc (by simp;omega) _
 have hz:((((w.alloc (.cells #[x] 114)).alloc (.cells #[.int .i64 0,.int .i64 0] 84)).alloc (.cells #[.slice none 0 0] 22)).alloc (.cells #[.int .i64 0,.int .i64 0] 84)).heap.size=w.heap.size+4:=by simp
 refine ⟨?_,bg0 hB0 h (by omega),?_,?_,?_,by rw [<-hz];exact h.size⟩
 ·
  rw [h.block (w.heap.size+3) (by omega) (by simp)]
  show ((((w.heap.push _).push _).push _).push _)[w.heap.size+3]? =_
  rw [Array.getElem?_push,if_pos (by simp)]
 ·
  exact h.cell (a:=⟨w.heap.size+1,0,none⟩) (by simp [go_sem]) (by simp)
 ·
  exact h.cell (a:=⟨w.heap.size+1,1,none⟩) (by simp [go_sem]) (by simp)
 ·
  intro j
  rw [World.frozen?_of_block (a:=⟨w.heap.size+1,j,none⟩) (h.block (w.heap.size+1) (by omega) (by simp))]
  simp [go_sem]
theorem madeR_any (w:World) (g:Nat) (cap:Array Value) (Ok:Value->World->Prop) (No:Int->Int->Prop) (hcf:∀args w,(callFunc g args).run Tryz.prog w=.ok (.enter g args) w)
 (hc:∀W,Below w.heap.size w W->W.heap.size=w.heap.size+4->Calls Tryz.prog g cap W fun r W'=>Below W.heap.size W W'/\((∃v,r=.returned v/\(∃z:Option Addr×Nat×Nat,v=.slice z.1 z.2.1 z.2.2)/\Ok v W')\/∃e p,r=.panicked [wrongV e p]/\No e p))
 (hst:∀v W W',w.heap.size+4<=W.heap.size->Far w.heap.size (w.heap.size+4) W W'->Ok v W->Ok v W'):
 Calls Tryz.prog 69 #[.func (.func g) #[] cap] w fun r w'=>Below w.heap.size w w'/\w.heap.size+4<=w'.heap.size/\
  ((∃v,r=.returned (.tuple #[v,.agg #[.int .i64 0,.int .i64 0]])/\(∃z:Option Addr×Nat×Nat,v=.slice z.1 z.2.1 z.2.2)/\Ok v w')\/
   (∃e p,r=.returned (.tuple #[.slice none 0 0,.agg #[.int .i64 e,.int .i64 p]])/\No e p)):=by
 have hmf:=mkf Tryz.prog
 have hB0:Below w.heap.size w (((w.alloc (.cells #[.func (.func g) #[] cap] 114)).alloc (.cells #[.int .i64 0,.int .i64 0] 84)).alloc (.cells #[.slice none 0 0] 22)):=(((Below.refl _ _).alloc (Nat.le_refl _) _).alloc (by simp) _).alloc (by simp;omega) _
 have hB1:=hB0.alloc hB0.size (.cells #[.int .i64 0,.int .i64 0] 84)
 have HC:=mk0 hc
 have HST:=mk0 hst
 have HCF:=mk0 hcf
 clear hc hst hcf
 go_enter Tryz.func69,Tryz.ntmps69
 go_wp2_with fail
 refine (caught_any 128 _ _ (fun w1=>∃v,(∃z:Option Addr×Nat×Nat,v=.slice z.1 z.2.1 z.2.2)/\w1.cell? ⟨w.heap.size+2,0,none⟩=some v/\Ok v w1/\Below w.heap.size w w1/\
  (∃x y,w1.cell? ⟨w.heap.size+1,0,none⟩=some x/\w1.cell? ⟨w.heap.size+1,1,none⟩=some y)/\(∀j,w1.frozen? ⟨w.heap.size+1,j,none⟩=false)/\w.heap.size+4<=w1.heap.size)
  (fun e p w1=>No e p/\w1.cell? ⟨w.heap.size+2,0,none⟩=some (.slice none 0 0)/\Below w.heap.size w w1/\
  (∃x y,w1.cell? ⟨w.heap.size+1,0,none⟩=some x/\w1.cell? ⟨w.heap.size+1,1,none⟩=some y)/\(∀j,w1.frozen? ⟨w.heap.size+1,j,none⟩=false)/\w.heap.size+4<=w1.heap.size) (callMadeR _) ?hc).mono ?_
 case hc=>
  refine (made1R_any _ g cap Ok No w.heap.size (w.heap.size+2) (.slice none 0 0) HCF.out (by simp [go_sem]) (by simp [go_sem]) (by simp [go_sem]) (HC.out _ hB1 (by simp))).mono ?_
  rintro r w1 (⟨rfl,v,W',hT,hok,hc,hg,hg0,hbw⟩ | ⟨e,p,rfl,hd,hb⟩)
  ·
   obtain ⟨a1,a2,a3,a4,a5,a6⟩:=afterMadeR w w1 _ hg
   refine ⟨by simpa using a1,Or.inl ⟨rfl,v,hT,hc,?_,a2,⟨.int .i64 0,.int .i64 0,a3,a4⟩,a5,a6⟩⟩
   exact HST.out v W' w1 (by have:=hbw.size;simp at this;omega) (Far.grown hg0 (by omega) (by omega)) hok
  ·
   have hg2:World.grownBy _ w1 (some (w.heap.size+2)):=⟨hb.os,hb.tape,hb.output,hb.size,fun k hk _=>hb.block k hk⟩
   obtain ⟨a1,a2,a3,a4,a5,a6⟩:=afterMadeR w w1 _ hg2
   refine ⟨by simpa using a1,Or.inr ⟨e,p,rfl,hd,?_,a2,⟨.int .i64 0,.int .i64 0,a3,a4⟩,a5,a6⟩⟩
   exact (hb.cell (p:=⟨w.heap.size+2,0,none⟩) (by simp)).trans (by simp [go_sem])
 rintro r w2 ⟨w1,hg,hr⟩
 have hz:(((w.alloc (.cells #[.func (.func g) #[] cap] 114)).alloc (.cells #[.int .i64 0,.int .i64 0] 84)).alloc (.cells #[.slice none 0 0] 22)).heap.size=w.heap.size+3:=by simp
 rw [hz]at hg
 clear hB0 hB1 hz HC HCF
 rcases hr with ⟨rfl,v,hT,hc,hok,hB,⟨x,y,hx,hy⟩,hfz,hsz⟩ | ⟨e,p,rfl,hd,hc,hB,⟨x,y,hx,hy⟩,hfz,hsz⟩
 ·
  have c4:w2.cell? ⟨w.heap.size+1+1,0,none⟩=some v:=hg.cell hc (by simp)
  have c30:w2.cell? ⟨w.heap.size+1,0,none⟩=some x:=hg.cell hx (by simp)
  have c31:w2.cell? ⟨w.heap.size+1,1,none⟩=some y:=hg.cell hy (by simp)
  have z3:∀j,w2.frozen? ⟨w.heap.size+1,j,none⟩=false:=fun j=>(World.frozen?_of_block (a:=⟨w.heap.size+1,j,none⟩) (hg.block (w.heap.size+1) (by omega) (by simp))).trans (hfz j)
  have hsz2:w.heap.size+4<=w2.heap.size:=Nat.le_trans hsz hg.size
  have hlt1:w.heap.size+1<w2.heap.size:=by omega
  have hlt2:w.heap.size+1+1<w2.heap.size:=by omega
  have HT:=mk0 hT
  have hB2:Below w.heap.size w w2:=bg0 hB hg (by omega)
  have HO2:=mk0 (HST.out v w1 w2 hsz (Far.grown hg (by omega) (by omega)) hok)
  obtain ⟨⟨za,zn,zc⟩,rfl⟩:=hT
  clear hok hc hx hy hfz hg hB
  go_wp2_with fail
  go_region
  all_goals
   go_wp2
   obtain ⟨hg,q0,q1⟩:=fault_world w2 (w.heap.size+1) 0 0 (.cells #[.int .i64 0,.int .i64 0] 84) c30 c31
   have hB3:=bg0 hB2 hg (by omega)
   have HO3:=mk0 (HST.out _ w2 _ hsz2 (Far.grown hg (by omega) (by omega)) HO2.out)
   have hz3:=Nat.le_trans hsz2 hg.size
   generalize ((w2.setCell ⟨w.heap.size+1,0,none⟩ (.int .i64 0)).setCell ⟨w.heap.size+1,1,none⟩ (.int .i64 0)).alloc (.cells #[.int .i64 0,.int .i64 0] 84)=W9 at*
   exact bodyPost_ret (v:=.tuple #[_,.agg #[.int .i64 0,.int .i64 0]]) (by simp [results,Tryz.results69,go_sem,q0,q1]) rfl ⟨hB3.drew,hz3,Or.inl ⟨_,rfl,HT.out,HST.out _ W9 _ hz3 ⟨Nat.le_refl _,fun _ _ _=>rfl⟩ HO3.out⟩⟩
 ·
  have c4:w2.cell? ⟨w.heap.size+1+1,0,none⟩=some (.slice none 0 0):=hg.cell hc (by simp)
  have c30:w2.cell? ⟨w.heap.size+1,0,none⟩=some x:=hg.cell hx (by simp)
  have c31:w2.cell? ⟨w.heap.size+1,1,none⟩=some y:=hg.cell hy (by simp)
  have z3:∀j,w2.frozen? ⟨w.heap.size+1,j,none⟩=false:=fun j=>(World.frozen?_of_block (a:=⟨w.heap.size+1,j,none⟩) (hg.block (w.heap.size+1) (by omega) (by simp))).trans (hfz j)
  have hsz2:w.heap.size+4<=w2.heap.size:=Nat.le_trans hsz hg.size
  have hlt1:w.heap.size+1<w2.heap.size:=by omega
  have hlt2:w.heap.size+1+1<w2.heap.size:=by omega
  have HD:=mk0 hd
  have hB2:Below w.heap.size w w2:=bg0 hB hg (by omega)
  clear hd hc hx hy hfz hg hB HST
  go_wp2_with fail
  go_region
  all_goals
   go_wp2
   obtain ⟨hg,q0,q1⟩:=fault_world w2 (w.heap.size+1) e p (.cells #[.int .i64 e,.int .i64 p] 84) c30 c31
   have hB3:=bg0 hB2 hg (by omega)
   have hz3:=Nat.le_trans hsz2 hg.size
   generalize ((w2.setCell ⟨w.heap.size+1,0,none⟩ (.int .i64 e)).setCell ⟨w.heap.size+1,1,none⟩ (.int .i64 p)).alloc (.cells #[.int .i64 e,.int .i64 p] 84)=W9 at*
   exact bodyPost_ret (v:=.tuple #[.slice none 0 0,.agg #[.int .i64 e,.int .i64 p]]) (by simp [results,Tryz.results69,go_sem,q0,q1]) rfl ⟨hB3.drew,hz3,Or.inr ⟨_,_,rfl,HD.out⟩⟩
end Go.Proofs.YtjdnmblggdobgaaGreat
