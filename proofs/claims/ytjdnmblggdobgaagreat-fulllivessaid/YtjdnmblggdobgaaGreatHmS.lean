import Derived.Test.YtjdnmblggdobgaaGreatJTk2Dies
import Derived.Test.YtjdnmblggdobgaaGreatJHmCBx
set_option maxHeartbeats 4000000
set_option maxRecDepth 100000
namespace Go.Proofs.YtjdnmblggdobgaaGreat
open Go.RowKit Go.Maps
def IsSp (v:Value):Prop:=∃(p0:Option Addr) (n0 q0:Nat) (a1:Int) (a2:Int) (a3:Int) (a4:Int) (p5:Option Addr) (n5 q5:Nat) (a6:Int) (p7:Option Addr) (n7 q7:Nat) (p8:Option Addr) (n8 q8:Nat) (p9:Option Addr) (n9 q9:Nat) (p10:Option Addr) (n10 q10:Nat) (p11:Option Addr) (n11 q11:Nat) (p12:Option Addr) (n12 q12:Nat) (a13:Int) (b14:Bool),v=.agg #[.slice p0 n0 q0,.int .i64 a1,.int .i64 a2,.int .i64 a3,.int .i64 a4,.slice p5 n5 q5,.int .i64 a6,.slice p7 n7 q7,.slice p8 n8 q8,.slice p9 n9 q9,.slice p10 n10 q10,.slice p11 n11 q11,.slice p12 n12 q12,.int .i64 a13,.bool b14]
theorem zx0 (w:World) (g:Nat) (cap:Array Value) (Ok:Value->World->Prop) (No:Int->Int->Prop) (Pf Q:Nat) (hcf:∀args w,(callFunc g args).run Tryz.prog w=.ok (.enter g args) w)
 (hpf:w.cell? ⟨Pf,0,none⟩=some (.func (.func g) #[] cap)) (hq:∀j,j<15->∃x,w.cell? ⟨Q,j,none⟩=some x) (hz:∀j,w.frozen? ⟨Q,j,none⟩=false)
 (hc:Calls Tryz.prog g cap w fun r W'=>Below w.heap.size w W'/\((∃v,r=.returned v/\IsSp v/\Ok v W')\/∃e p,r=.panicked [wrongV e p]/\No e p)):
 Calls Tryz.prog 155 #[.pointer (some ⟨Pf,0,none⟩),.pointer (some ⟨Q,0,none⟩)] w fun r w'=>
  (r=.returned (.tuple #[])/\∃(v:Value) (W':World),IsSp v/\Ok v W'/\(∀j,j<15->w'.cell? ⟨Q,j,none⟩=v.cells[j]?)/\w.grownBy w' (some Q)/\W'.grownBy w' (some Q)/\Below w.heap.size w W')\/
  (∃e p,r=.panicked [wrongV e p]/\No e p/\Below w.heap.size w w'):=by
 have hQ:Q<w.heap.size:=by obtain ⟨x,hx⟩:=hq 0 (by decide);exact World.block_lt_of_cell? w _ hx
 have HC:=mk0 hc
 clear hc
 go_enter Tryz.func155,Tryz.ntmps155
 go_wp2_with fail
 refine HC.out.mono ?_
 rintro r w1 ⟨hb,⟨v,rfl,⟨p0,n0,q0,a1,a2,a3,a4,p5,n5,q5,a6,p7,n7,q7,p8,n8,q8,p9,n9,q9,p10,n10,q10,p11,n11,q11,p12,n12,q12,a13,b14,rfl⟩,hok⟩ | ⟨e,p,rfl,hno⟩⟩
 rotate_left
 ·
  exact ⟨rfl,Or.inr ⟨e,p,rfl,hno,hb⟩⟩
 have hq2:∀j,j<15->∃x,w1.cell? ⟨Q,j,none⟩=some x:=fun j hj=>(hq j hj).imp fun x hx=>(hb.cell (p:=⟨Q,j,none⟩) hQ).trans hx
 obtain ⟨x0,hx0⟩:=hq2 0 (by decide)
 obtain ⟨x1,hx1⟩:=hq2 1 (by decide)
 obtain ⟨x2,hx2⟩:=hq2 2 (by decide)
 obtain ⟨x3,hx3⟩:=hq2 3 (by decide)
 obtain ⟨x4,hx4⟩:=hq2 4 (by decide)
 obtain ⟨x5,hx5⟩:=hq2 5 (by decide)
 obtain ⟨x6,hx6⟩:=hq2 6 (by decide)
 obtain ⟨x7,hx7⟩:=hq2 7 (by decide)
 obtain ⟨x8,hx8⟩:=hq2 8 (by decide)
 obtain ⟨x9,hx9⟩:=hq2 9 (by decide)
 obtain ⟨x10,hx10⟩:=hq2 10 (by decide)
 obtain ⟨x11,hx11⟩:=hq2 11 (by decide)
 obtain ⟨x12,hx12⟩:=hq2 12 (by decide)
 obtain ⟨x13,hx13⟩:=hq2 13 (by decide)
 obtain ⟨x14,hx14⟩:=hq2 14 (by decide)
 have hz1:∀j,w1.frozen? ⟨Q,j,none⟩=false:=fun j=>(hb.frozen (p:=⟨Q,j,none⟩) hQ).trans (hz j)
 have HT:=mk0 (zl9 Q [.slice p0 n0 q0,.int .i64 a1,.int .i64 a2,.int .i64 a3,.int .i64 a4,.slice p5 n5 q5,.int .i64 a6,.slice p7 n7 q7,.slice p8 n8 q8,.slice p9 n9 q9,.slice p10 n10 q10,.slice p11 n11 q11,.slice p12 n12 q12,.int .i64 a13,.bool b14] w1 0 (fun j hj=>by rw [Nat.zero_add];exact hq2 j (by simpa using hj)))
 have HG0:Hid (w.grownBy w1 (some Q)):=⟨hb.os,hb.tape,hb.output,hb.size,fun k hk _=>hb.block k hk⟩
 have HOK:=mk0 hok
 have HB:=mk0 hb
 clear hok hb hq hz HC hq2
 go_wp2
 go_end0
 refine Or.inl ⟨rfl,.agg #[.slice p0 n0 q0,.int .i64 a1,.int .i64 a2,.int .i64 a3,.int .i64 a4,.slice p5 n5 q5,.int .i64 a6,.slice p7 n7 q7,.slice p8 n8 q8,.slice p9 n9 q9,.slice p10 n10 q10,.slice p11 n11 q11,.slice p12 n12 q12,.int .i64 a13,.bool b14],w1,⟨p0,n0,q0,a1,a2,a3,a4,p5,n5,q5,a6,p7,n7,q7,p8,n8,q8,p9,n9,q9,p10,n10,q10,p11,n11,q11,p12,n12,q12,a13,b14,rfl⟩,HOK.out,fun j hj=>?_,HG0.out.trans HT.out.1,HT.out.1,HB.out⟩
 have:=HT.out.2.1 j (by simpa using hj)
 rw [Nat.zero_add]at this
 refine Eq.trans this ?_
 simp [Value.cells]
theorem callMadeSp (args:Array Value) (w:World):(callFunc 155 args).run Tryz.prog w=.ok (.enter 155 args) w:=by kernel_rfl
theorem afterMadeSp (w w1:World) (x:Value) (h:(((((w.alloc (.cells #[x] 147)).alloc (.cells #[.slice none 0 0,.int .i64 0,.int .i64 0,.int .i64 0,.int .i64 0,.slice none 0 0,.int .i64 0,.slice none 0 0,.slice none 0 0,.slice none 0 0,.slice none 0 0,.slice none 0 0,.slice none 0 0,.int .i64 0,.bool false] 142)).alloc (.cells #[.int .i64 0,.int .i64 0] 84)).alloc (.cells #[.slice none 0 0,.int .i64 0,.int .i64 0,.int .i64 0,.int .i64 0,.slice none 0 0,.int .i64 0,.slice none 0 0,.slice none 0 0,.slice none 0 0,.slice none 0 0,.slice none 0 0,.slice none 0 0,.int .i64 0,.bool false] 142)).alloc (.cells #[.int .i64 0,.int .i64 0] 84)).grownBy w1 (some (w.heap.size+3))):w1.heap[w.heap.size+4]? =some (.cells #[.int .i64 0,.int .i64 0] 84 (0,0))/\AftN 15 w w1:=by
 have hB0:Below w.heap.size w (((((w.alloc (.cells #[x] 147)).alloc (.cells #[.slice none 0 0,.int .i64 0,.int .i64 0,.int .i64 0,.int .i64 0,.slice none 0 0,.int .i64 0,.slice none 0 0,.slice none 0 0,.slice none 0 0,.slice none 0 0,.slice none 0 0,.slice none 0 0,.int .i64 0,.bool false] 142)).alloc (.cells #[.int .i64 0,.int .i64 0] 84)).alloc (.cells #[.slice none 0 0,.int .i64 0,.int .i64 0,.int .i64 0,.int .i64 0,.slice none 0 0,.int .i64 0,.slice none 0 0,.slice none 0 0,.slice none 0 0,.slice none 0 0,.slice none 0 0,.slice none 0 0,.int .i64 0,.bool false] 142)).alloc (.cells #[.int .i64 0,.int .i64 0] 84)):=(((((Below.refl _ _).alloc (Nat.le_refl _) _).alloc (by simp) _).alloc (by simp<;>omega) _).alloc (by simp<;>omega) _).alloc (by simp<;>omega) _
 have hz:(((((w.alloc (.cells #[x] 147)).alloc (.cells #[.slice none 0 0,.int .i64 0,.int .i64 0,.int .i64 0,.int .i64 0,.slice none 0 0,.int .i64 0,.slice none 0 0,.slice none 0 0,.slice none 0 0,.slice none 0 0,.slice none 0 0,.slice none 0 0,.int .i64 0,.bool false] 142)).alloc (.cells #[.int .i64 0,.int .i64 0] 84)).alloc (.cells #[.slice none 0 0,.int .i64 0,.int .i64 0,.int .i64 0,.int .i64 0,.slice none 0 0,.int .i64 0,.slice none 0 0,.slice none 0 0,.slice none 0 0,.slice none 0 0,.slice none 0 0,.slice none 0 0,.int .i64 0,.bool false] 142)).alloc (.cells #[.int .i64 0,.int .i64 0] 84)).heap.size=w.heap.size+5:=by simp
 have hb1:(((((w.alloc (.cells #[x] 147)).alloc (.cells #[.slice none 0 0,.int .i64 0,.int .i64 0,.int .i64 0,.int .i64 0,.slice none 0 0,.int .i64 0,.slice none 0 0,.slice none 0 0,.slice none 0 0,.slice none 0 0,.slice none 0 0,.slice none 0 0,.int .i64 0,.bool false] 142)).alloc (.cells #[.int .i64 0,.int .i64 0] 84)).alloc (.cells #[.slice none 0 0,.int .i64 0,.int .i64 0,.int .i64 0,.int .i64 0,.slice none 0 0,.int .i64 0,.slice none 0 0,.slice none 0 0,.slice none 0 0,.slice none 0 0,.slice none 0 0,.slice none 0 0,.int .i64 0,.bool false] 142)).alloc (.cells #[.int .i64 0,.int .i64 0] 84)).heap[w.heap.size+1]? =some (.cells #[.slice none 0 0,.int .i64 0,.int .i64 0,.int .i64 0,.int .i64 0,.slice none 0 0,.int .i64 0,.slice none 0 0,.slice none 0 0,.slice none 0 0,.slice none 0 0,.slice none 0 0,.slice none 0 0,.int .i64 0,.bool false] 142 (0,0)):=(Below.heap_alloc _ _ _ (by simp<;>omega)).trans ((Below.heap_alloc _ _ _ (by simp<;>omega)).trans ((Below.heap_alloc _ _ _ (by simp)).trans (by
  have:=heap_alloc_new (w.alloc (.cells #[x] 147)) (.cells #[.slice none 0 0,.int .i64 0,.int .i64 0,.int .i64 0,.int .i64 0,.slice none 0 0,.int .i64 0,.slice none 0 0,.slice none 0 0,.slice none 0 0,.slice none 0 0,.slice none 0 0,.slice none 0 0,.int .i64 0,.bool false] 142)
  simpa using this)))
 have hb2:(((((w.alloc (.cells #[x] 147)).alloc (.cells #[.slice none 0 0,.int .i64 0,.int .i64 0,.int .i64 0,.int .i64 0,.slice none 0 0,.int .i64 0,.slice none 0 0,.slice none 0 0,.slice none 0 0,.slice none 0 0,.slice none 0 0,.slice none 0 0,.int .i64 0,.bool false] 142)).alloc (.cells #[.int .i64 0,.int .i64 0] 84)).alloc (.cells #[.slice none 0 0,.int .i64 0,.int .i64 0,.int .i64 0,.int .i64 0,.slice none 0 0,.int .i64 0,.slice none 0 0,.slice none 0 0,.slice none 0 0,.slice none 0 0,.slice none 0 0,.slice none 0 0,.int .i64 0,.bool false] 142)).alloc (.cells #[.int .i64 0,.int .i64 0] 84)).heap[w.heap.size+2]? =some (.cells #[.int .i64 0,.int .i64 0] 84 (0,0)):=(Below.heap_alloc _ _ _ (by simp<;>omega)).trans ((Below.heap_alloc _ _ _ (by simp)).trans (by
  have:=heap_alloc_new ((w.alloc (.cells #[x] 147)).alloc (.cells #[.slice none 0 0,.int .i64 0,.int .i64 0,.int .i64 0,.int .i64 0,.slice none 0 0,.int .i64 0,.slice none 0 0,.slice none 0 0,.slice none 0 0,.slice none 0 0,.slice none 0 0,.slice none 0 0,.int .i64 0,.bool false] 142)) (.cells #[.int .i64 0,.int .i64 0] 84)
  simpa using this))
 have k1:=(h.block (w.heap.size+1) (by omega) (by simp)).trans hb1
 have k2:=(h.block (w.heap.size+2) (by omega) (by simp)).trans hb2
 refine ⟨?_,bg0 hB0 h (by omega),fun j hj=>?_,fun j=>zcf k1 j,fun j hj=>?_,fun j=>zcf k2 j,by rw [<-hz];exact h.size⟩
 ·
  rw [h.block (w.heap.size+4) (by omega) (by simp)]
  show (((((w.heap.push _).push _).push _).push _).push _)[w.heap.size+4]? =_
  rw [Array.getElem?_push,if_pos (by simp)]
 ·
  exact ⟨_,cl0 k1 j (x:=[.slice none 0 0,.int .i64 0,.int .i64 0,.int .i64 0,.int .i64 0,.slice none 0 0,.int .i64 0,.slice none 0 0,.slice none 0 0,.slice none 0 0,.slice none 0 0,.slice none 0 0,.slice none 0 0,.int .i64 0,.bool false][j]'(by simpa using hj)) (by rw [<-List.getElem_toArray (by simpa using hj)];exact Array.getElem?_eq_getElem (by simpa using hj))⟩
 exact ⟨_,cl0 k2 j (x:=[Value.int .i64 0,.int .i64 0][j]'(by simpa using hj)) (by rw [<-List.getElem_toArray (by simpa using hj)];exact Array.getElem?_eq_getElem (by simpa using hj))⟩
theorem zx1 (w:World) (g:Nat) (cap:Array Value) (Ok:Value->World->Prop) (No:Int->Int->Prop) (hcf:∀args w,(callFunc g args).run Tryz.prog w=.ok (.enter g args) w)
 (hc:∀W,Below w.heap.size w W->W.heap.size=w.heap.size+5->Calls Tryz.prog g cap W fun r W'=>Below W.heap.size W W'/\((∃v,r=.returned v/\IsSp v/\Ok v W')\/∃e p,r=.panicked [wrongV e p]/\No e p))
 (hst:∀v W W',w.heap.size+5<=W.heap.size->Far w.heap.size (w.heap.size+5) W W'->Ok v W->Ok v W'):
 Calls Tryz.prog 96 #[.func (.func g) #[] cap] w fun r w'=>Below w.heap.size w w'/\w.heap.size+5<=w'.heap.size/\
  ((∃v,r=.returned (.tuple #[v,.agg #[.int .i64 0,.int .i64 0]])/\IsSp v/\Ok v w')\/
   (∃e p,r=.returned (.tuple #[.agg #[.slice none 0 0,.int .i64 0,.int .i64 0,.int .i64 0,.int .i64 0,.slice none 0 0,.int .i64 0,.slice none 0 0,.slice none 0 0,.slice none 0 0,.slice none 0 0,.slice none 0 0,.slice none 0 0,.int .i64 0,.bool false],.agg #[.int .i64 e,.int .i64 p]])/\No e p)):=by
 have hmf:=mkf Tryz.prog
 have hB0:Below w.heap.size w ((((w.alloc (.cells #[.func (.func g) #[] cap] 147)).alloc (.cells #[.slice none 0 0,.int .i64 0,.int .i64 0,.int .i64 0,.int .i64 0,.slice none 0 0,.int .i64 0,.slice none 0 0,.slice none 0 0,.slice none 0 0,.slice none 0 0,.slice none 0 0,.slice none 0 0,.int .i64 0,.bool false] 142)).alloc (.cells #[.int .i64 0,.int .i64 0] 84)).alloc (.cells #[.slice none 0 0,.int .i64 0,.int .i64 0,.int .i64 0,.int .i64 0,.slice none 0 0,.int .i64 0,.slice none 0 0,.slice none 0 0,.slice none 0 0,.slice none 0 0,.slice none 0 0,.slice none 0 0,.int .i64 0,.bool false] 142)):=((((Below.refl _ _).alloc (Nat.le_refl _) _).alloc (by simp) _).alloc (by simp<;>omega) _).alloc (by simp<;>omega) _
 have hB1:=hB0.alloc hB0.size (.cells #[.int .i64 0,.int .i64 0] 84)
 have HC:=mk0 hc
 have HST:=mk0 hst
 have HCF:=mk0 hcf
 clear hc hst hcf
 go_enter Tryz.func96,Tryz.ntmps96
 go_wp2_with fail
 refine (zb6 155 _ _ (fun w1=>∃v,IsSp v/\(∀j,j<15->w1.cell? ⟨w.heap.size+3,j,none⟩=v.cells[j]?)/\Ok v w1/\AftN 15 w w1)
  (fun e p w1=>No e p/\(∀j,j<15->w1.cell? ⟨w.heap.size+3,j,none⟩= [.slice none 0 0,.int .i64 0,.int .i64 0,.int .i64 0,.int .i64 0,.slice none 0 0,.int .i64 0,.slice none 0 0,.slice none 0 0,.slice none 0 0,.slice none 0 0,.slice none 0 0,.slice none 0 0,.int .i64 0,.bool false][j]?)/\AftN 15 w w1) (callMadeSp _) ?hc).mono ?_
 case hc=>
  have hb3:((((w.alloc (.cells #[.func (.func g) #[] cap] 147)).alloc (.cells #[.slice none 0 0,.int .i64 0,.int .i64 0,.int .i64 0,.int .i64 0,.slice none 0 0,.int .i64 0,.slice none 0 0,.slice none 0 0,.slice none 0 0,.slice none 0 0,.slice none 0 0,.slice none 0 0,.int .i64 0,.bool false] 142)).alloc (.cells #[.int .i64 0,.int .i64 0] 84)).alloc (.cells #[.slice none 0 0,.int .i64 0,.int .i64 0,.int .i64 0,.int .i64 0,.slice none 0 0,.int .i64 0,.slice none 0 0,.slice none 0 0,.slice none 0 0,.slice none 0 0,.slice none 0 0,.slice none 0 0,.int .i64 0,.bool false] 142)).heap[w.heap.size+3]? =some (.cells #[.slice none 0 0,.int .i64 0,.int .i64 0,.int .i64 0,.int .i64 0,.slice none 0 0,.int .i64 0,.slice none 0 0,.slice none 0 0,.slice none 0 0,.slice none 0 0,.slice none 0 0,.slice none 0 0,.int .i64 0,.bool false] 142 (0,0)):=by
   have:=heap_alloc_new (((w.alloc (.cells #[.func (.func g) #[] cap] 147)).alloc (.cells #[.slice none 0 0,.int .i64 0,.int .i64 0,.int .i64 0,.int .i64 0,.slice none 0 0,.int .i64 0,.slice none 0 0,.slice none 0 0,.slice none 0 0,.slice none 0 0,.slice none 0 0,.slice none 0 0,.int .i64 0,.bool false] 142)).alloc (.cells #[.int .i64 0,.int .i64 0] 84)) (.cells #[.slice none 0 0,.int .i64 0,.int .i64 0,.int .i64 0,.int .i64 0,.slice none 0 0,.int .i64 0,.slice none 0 0,.slice none 0 0,.slice none 0 0,.slice none 0 0,.slice none 0 0,.slice none 0 0,.int .i64 0,.bool false] 142)
   simpa using this
  have hb4:=(Below.heap_alloc ((((w.alloc (.cells #[.func (.func g) #[] cap] 147)).alloc (.cells #[.slice none 0 0,.int .i64 0,.int .i64 0,.int .i64 0,.int .i64 0,.slice none 0 0,.int .i64 0,.slice none 0 0,.slice none 0 0,.slice none 0 0,.slice none 0 0,.slice none 0 0,.slice none 0 0,.int .i64 0,.bool false] 142)).alloc (.cells #[.int .i64 0,.int .i64 0] 84)).alloc (.cells #[.slice none 0 0,.int .i64 0,.int .i64 0,.int .i64 0,.int .i64 0,.slice none 0 0,.int .i64 0,.slice none 0 0,.slice none 0 0,.slice none 0 0,.slice none 0 0,.slice none 0 0,.slice none 0 0,.int .i64 0,.bool false] 142)) (.cells #[.int .i64 0,.int .i64 0] 84) _ (lt0 hb3)).trans hb3
  refine (zx0 _ g cap Ok No w.heap.size (w.heap.size+3) HCF.out (by simp [go_sem]) (fun j hj=>⟨_,cl0 hb4 j (x:=[.slice none 0 0,.int .i64 0,.int .i64 0,.int .i64 0,.int .i64 0,.slice none 0 0,.int .i64 0,.slice none 0 0,.slice none 0 0,.slice none 0 0,.slice none 0 0,.slice none 0 0,.slice none 0 0,.int .i64 0,.bool false][j]'(by simpa using hj)) (by rw [<-List.getElem_toArray (by simpa using hj)];exact Array.getElem?_eq_getElem (by simpa using hj))⟩) (fun j=>zcf hb4 j) (HC.out _ hB1 (by simp))).mono ?_
  rintro r w1 (⟨rfl,v,W',hv,hok,hc0,hg,hg0,hbw⟩ | ⟨e,p,rfl,hd,hb⟩)
  ·
   obtain ⟨a1,a2⟩:=afterMadeSp w w1 _ hg
   refine ⟨by simpa using a1,Or.inl ⟨rfl,v,hv,hc0,?_,a2⟩⟩
   exact HST.out _ W' w1 (by have:=hbw.size;simp at this;omega) (Far.grown hg0 (by omega) (by omega)) hok
  have hg2:World.grownBy _ w1 (some (w.heap.size+3)):=⟨hb.os,hb.tape,hb.output,hb.size,fun k hk _=>hb.block k hk⟩
  obtain ⟨a1,a2⟩:=afterMadeSp w w1 _ hg2
  refine ⟨by simpa using a1,Or.inr ⟨e,p,rfl,hd,fun j hj=>?_,a2⟩⟩
  refine (cl0 ((hb.block (w.heap.size+3) (lt0 hb4)).trans hb4) j (x:=[.slice none 0 0,.int .i64 0,.int .i64 0,.int .i64 0,.int .i64 0,.slice none 0 0,.int .i64 0,.slice none 0 0,.slice none 0 0,.slice none 0 0,.slice none 0 0,.slice none 0 0,.slice none 0 0,.int .i64 0,.bool false][j]'(by simpa using hj)) (by rw [<-List.getElem_toArray (by simpa using hj)];exact Array.getElem?_eq_getElem (by simpa using hj))).trans (List.getElem?_eq_getElem (by simpa using hj)).symm
 rintro r w2 ⟨w1,hg,hr⟩
 have hz:((((w.alloc (.cells #[.func (.func g) #[] cap] 147)).alloc (.cells #[.slice none 0 0,.int .i64 0,.int .i64 0,.int .i64 0,.int .i64 0,.slice none 0 0,.int .i64 0,.slice none 0 0,.slice none 0 0,.slice none 0 0,.slice none 0 0,.slice none 0 0,.slice none 0 0,.int .i64 0,.bool false] 142)).alloc (.cells #[.int .i64 0,.int .i64 0] 84)).alloc (.cells #[.slice none 0 0,.int .i64 0,.int .i64 0,.int .i64 0,.int .i64 0,.slice none 0 0,.int .i64 0,.slice none 0 0,.slice none 0 0,.slice none 0 0,.slice none 0 0,.slice none 0 0,.slice none 0 0,.int .i64 0,.bool false] 142)).heap.size=w.heap.size+4:=by simp
 rw [hz]at hg
 clear hB0 hB1 hz HC HCF
 rcases hr with ⟨rfl,v,hv,hc0,hok,hA⟩ | ⟨e,p,rfl,hd,hc0,hA⟩
 ·
  have HV:=mk0 hv
  obtain ⟨p0,n0,q0,a1,a2,a3,a4,p5,n5,q5,a6,p7,n7,q7,p8,n8,q8,p9,n9,q9,p10,n10,q10,p11,n11,q11,p12,n12,q12,a13,b14,rfl⟩:=hv
  have m0:w2.cell? ⟨w.heap.size+1+1+1,0,none⟩=some (.slice p0 n0 q0):=hg.cell ((hc0 0 (by decide)).trans (by simp [Value.cells])) (by simp)
  have m1:w2.cell? ⟨w.heap.size+1+1+1,1,none⟩=some (.int .i64 a1):=hg.cell ((hc0 1 (by decide)).trans (by simp [Value.cells])) (by simp)
  have m2:w2.cell? ⟨w.heap.size+1+1+1,2,none⟩=some (.int .i64 a2):=hg.cell ((hc0 2 (by decide)).trans (by simp [Value.cells])) (by simp)
  have m3:w2.cell? ⟨w.heap.size+1+1+1,3,none⟩=some (.int .i64 a3):=hg.cell ((hc0 3 (by decide)).trans (by simp [Value.cells])) (by simp)
  have m4:w2.cell? ⟨w.heap.size+1+1+1,4,none⟩=some (.int .i64 a4):=hg.cell ((hc0 4 (by decide)).trans (by simp [Value.cells])) (by simp)
  have m5:w2.cell? ⟨w.heap.size+1+1+1,5,none⟩=some (.slice p5 n5 q5):=hg.cell ((hc0 5 (by decide)).trans (by simp [Value.cells])) (by simp)
  have m6:w2.cell? ⟨w.heap.size+1+1+1,6,none⟩=some (.int .i64 a6):=hg.cell ((hc0 6 (by decide)).trans (by simp [Value.cells])) (by simp)
  have m7:w2.cell? ⟨w.heap.size+1+1+1,7,none⟩=some (.slice p7 n7 q7):=hg.cell ((hc0 7 (by decide)).trans (by simp [Value.cells])) (by simp)
  have m8:w2.cell? ⟨w.heap.size+1+1+1,8,none⟩=some (.slice p8 n8 q8):=hg.cell ((hc0 8 (by decide)).trans (by simp [Value.cells])) (by simp)
  have m9:w2.cell? ⟨w.heap.size+1+1+1,9,none⟩=some (.slice p9 n9 q9):=hg.cell ((hc0 9 (by decide)).trans (by simp [Value.cells])) (by simp)
  have m10:w2.cell? ⟨w.heap.size+1+1+1,10,none⟩=some (.slice p10 n10 q10):=hg.cell ((hc0 10 (by decide)).trans (by simp [Value.cells])) (by simp)
  have m11:w2.cell? ⟨w.heap.size+1+1+1,11,none⟩=some (.slice p11 n11 q11):=hg.cell ((hc0 11 (by decide)).trans (by simp [Value.cells])) (by simp)
  have m12:w2.cell? ⟨w.heap.size+1+1+1,12,none⟩=some (.slice p12 n12 q12):=hg.cell ((hc0 12 (by decide)).trans (by simp [Value.cells])) (by simp)
  have m13:w2.cell? ⟨w.heap.size+1+1+1,13,none⟩=some (.int .i64 a13):=hg.cell ((hc0 13 (by decide)).trans (by simp [Value.cells])) (by simp)
  have m14:w2.cell? ⟨w.heap.size+1+1+1,14,none⟩=some (.bool b14):=hg.cell ((hc0 14 (by decide)).trans (by simp [Value.cells])) (by simp)
  have hA2:=hA.grown hg (by omega)
  have HO2:=mk0 (HST.out _ w1 w2 hA.sz (Far.grown hg (by omega) (by omega)) hok)
  have HA2:=mk0 hA2
  obtain ⟨x0,hx0⟩:=hA2.a 0 (by decide)
  obtain ⟨x1,hx1⟩:=hA2.a 1 (by decide)
  obtain ⟨x2,hx2⟩:=hA2.a 2 (by decide)
  obtain ⟨x3,hx3⟩:=hA2.a 3 (by decide)
  obtain ⟨x4,hx4⟩:=hA2.a 4 (by decide)
  obtain ⟨x5,hx5⟩:=hA2.a 5 (by decide)
  obtain ⟨x6,hx6⟩:=hA2.a 6 (by decide)
  obtain ⟨x7,hx7⟩:=hA2.a 7 (by decide)
  obtain ⟨x8,hx8⟩:=hA2.a 8 (by decide)
  obtain ⟨x9,hx9⟩:=hA2.a 9 (by decide)
  obtain ⟨x10,hx10⟩:=hA2.a 10 (by decide)
  obtain ⟨x11,hx11⟩:=hA2.a 11 (by decide)
  obtain ⟨x12,hx12⟩:=hA2.a 12 (by decide)
  obtain ⟨x13,hx13⟩:=hA2.a 13 (by decide)
  obtain ⟨x14,hx14⟩:=hA2.a 14 (by decide)
  obtain ⟨y0,g0⟩:=hA2.f 0 (by decide)
  obtain ⟨y1,g1⟩:=hA2.f 1 (by decide)
  have z1:=hA2.az
  have z2:=hA2.fz
  have hsz:=hA2.sz
  have l1:w.heap.size+1<w2.heap.size:=by omega
  have l2:w.heap.size+1+1<w2.heap.size:=by omega
  have l3:w.heap.size+1+1+1<w2.heap.size:=by omega
  clear hok hc0 hg hA hA2
  go_wp2_with fail
  go_region
  all_goals
   go_wp2
   obtain ⟨W9,h9,hB9,hF9,hz9,hq9,r0,r1⟩:=finN HA2.out [.slice p0 n0 q0,.int .i64 a1,.int .i64 a2,.int .i64 a3,.int .i64 a4,.slice p5 n5 q5,.int .i64 a6,.slice p7 n7 q7,.slice p8 n8 q8,.slice p9 n9 q9,.slice p10 n10 q10,.slice p11 n11 q11,.slice p12 n12 q12,.int .i64 a13,.bool b14] rfl 0 0 (.cells #[.int .i64 0,.int .i64 0] 84)
   rw [show (setL (setL w2 (w.heap.size+1) 0 [.slice p0 n0 q0,.int .i64 a1,.int .i64 a2,.int .i64 a3,.int .i64 a4,.slice p5 n5 q5,.int .i64 a6,.slice p7 n7 q7,.slice p8 n8 q8,.slice p9 n9 q9,.slice p10 n10 q10,.slice p11 n11 q11,.slice p12 n12 q12,.int .i64 a13,.bool b14]) (w.heap.size+1+1) 0 [.int .i64 0,.int .i64 0]).alloc (.cells #[.int .i64 0,.int .i64 0] 84)=((((((((((((((((((w2.setCell ⟨w.heap.size+1,0,none⟩ (.slice p0 n0 q0)).setCell ⟨w.heap.size+1,1,none⟩ (.int .i64 a1)).setCell ⟨w.heap.size+1,2,none⟩ (.int .i64 a2)).setCell ⟨w.heap.size+1,3,none⟩ (.int .i64 a3)).setCell ⟨w.heap.size+1,4,none⟩ (.int .i64 a4)).setCell ⟨w.heap.size+1,5,none⟩ (.slice p5 n5 q5)).setCell ⟨w.heap.size+1,6,none⟩ (.int .i64 a6)).setCell ⟨w.heap.size+1,7,none⟩ (.slice p7 n7 q7)).setCell ⟨w.heap.size+1,8,none⟩ (.slice p8 n8 q8)).setCell ⟨w.heap.size+1,9,none⟩ (.slice p9 n9 q9)).setCell ⟨w.heap.size+1,10,none⟩ (.slice p10 n10 q10)).setCell ⟨w.heap.size+1,11,none⟩ (.slice p11 n11 q11)).setCell ⟨w.heap.size+1,12,none⟩ (.slice p12 n12 q12)).setCell ⟨w.heap.size+1,13,none⟩ (.int .i64 a13)).setCell ⟨w.heap.size+1,14,none⟩ (.bool b14)).setCell ⟨w.heap.size+1+1,0,none⟩ (.int .i64 0)).setCell ⟨w.heap.size+1+1,1,none⟩ (.int .i64 0))).alloc (.cells #[.int .i64 0,.int .i64 0] 84) from rfl]at h9
   rw [<-h9]
   have hh0:=hq9 0 (by decide)
   have hh1:=hq9 1 (by decide)
   have hh2:=hq9 2 (by decide)
   have hh3:=hq9 3 (by decide)
   have hh4:=hq9 4 (by decide)
   have hh5:=hq9 5 (by decide)
   have hh6:=hq9 6 (by decide)
   have hh7:=hq9 7 (by decide)
   have hh8:=hq9 8 (by decide)
   have hh9:=hq9 9 (by decide)
   have hh10:=hq9 10 (by decide)
   have hh11:=hq9 11 (by decide)
   have hh12:=hq9 12 (by decide)
   have hh13:=hq9 13 (by decide)
   have hh14:=hq9 14 (by decide)
   exact bodyPost_ret (v:=.tuple #[.agg #[.slice p0 n0 q0,.int .i64 a1,.int .i64 a2,.int .i64 a3,.int .i64 a4,.slice p5 n5 q5,.int .i64 a6,.slice p7 n7 q7,.slice p8 n8 q8,.slice p9 n9 q9,.slice p10 n10 q10,.slice p11 n11 q11,.slice p12 n12 q12,.int .i64 a13,.bool b14],.agg #[.int .i64 0,.int .i64 0]]) (by simp [results,Tryz.results96,go_sem,hh0,hh1,hh2,hh3,hh4,hh5,hh6,hh7,hh8,hh9,hh10,hh11,hh12,hh13,hh14,r0,r1]) rfl ⟨hB9.drew,hz9,Or.inl ⟨_,rfl,HV.out,HST.out _ w2 _ hsz (hF9.trans ⟨Nat.le_refl _,fun _ _ _=>rfl⟩) HO2.out⟩⟩
 have m0:w2.cell? ⟨w.heap.size+1+1+1,0,none⟩=some (.slice none 0 0):=hg.cell ((hc0 0 (by decide)).trans rfl) (by simp)
 have m1:w2.cell? ⟨w.heap.size+1+1+1,1,none⟩=some (.int .i64 0):=hg.cell ((hc0 1 (by decide)).trans rfl) (by simp)
 have m2:w2.cell? ⟨w.heap.size+1+1+1,2,none⟩=some (.int .i64 0):=hg.cell ((hc0 2 (by decide)).trans rfl) (by simp)
 have m3:w2.cell? ⟨w.heap.size+1+1+1,3,none⟩=some (.int .i64 0):=hg.cell ((hc0 3 (by decide)).trans rfl) (by simp)
 have m4:w2.cell? ⟨w.heap.size+1+1+1,4,none⟩=some (.int .i64 0):=hg.cell ((hc0 4 (by decide)).trans rfl) (by simp)
 have m5:w2.cell? ⟨w.heap.size+1+1+1,5,none⟩=some (.slice none 0 0):=hg.cell ((hc0 5 (by decide)).trans rfl) (by simp)
 have m6:w2.cell? ⟨w.heap.size+1+1+1,6,none⟩=some (.int .i64 0):=hg.cell ((hc0 6 (by decide)).trans rfl) (by simp)
 have m7:w2.cell? ⟨w.heap.size+1+1+1,7,none⟩=some (.slice none 0 0):=hg.cell ((hc0 7 (by decide)).trans rfl) (by simp)
 have m8:w2.cell? ⟨w.heap.size+1+1+1,8,none⟩=some (.slice none 0 0):=hg.cell ((hc0 8 (by decide)).trans rfl) (by simp)
 have m9:w2.cell? ⟨w.heap.size+1+1+1,9,none⟩=some (.slice none 0 0):=hg.cell ((hc0 9 (by decide)).trans rfl) (by simp)
 have m10:w2.cell? ⟨w.heap.size+1+1+1,10,none⟩=some (.slice none 0 0):=hg.cell ((hc0 10 (by decide)).trans rfl) (by simp)
 have m11:w2.cell? ⟨w.heap.size+1+1+1,11,none⟩=some (.slice none 0 0):=hg.cell ((hc0 11 (by decide)).trans rfl) (by simp)
 have m12:w2.cell? ⟨w.heap.size+1+1+1,12,none⟩=some (.slice none 0 0):=hg.cell ((hc0 12 (by decide)).trans rfl) (by simp)
 have m13:w2.cell? ⟨w.heap.size+1+1+1,13,none⟩=some (.int .i64 0):=hg.cell ((hc0 13 (by decide)).trans rfl) (by simp)
 have m14:w2.cell? ⟨w.heap.size+1+1+1,14,none⟩=some (.bool false):=hg.cell ((hc0 14 (by decide)).trans rfl) (by simp)
 have hA2:=hA.grown hg (by omega)
 have HD:=mk0 hd
 have HA2:=mk0 hA2
 obtain ⟨x0,hx0⟩:=hA2.a 0 (by decide)
 obtain ⟨x1,hx1⟩:=hA2.a 1 (by decide)
 obtain ⟨x2,hx2⟩:=hA2.a 2 (by decide)
 obtain ⟨x3,hx3⟩:=hA2.a 3 (by decide)
 obtain ⟨x4,hx4⟩:=hA2.a 4 (by decide)
 obtain ⟨x5,hx5⟩:=hA2.a 5 (by decide)
 obtain ⟨x6,hx6⟩:=hA2.a 6 (by decide)
 obtain ⟨x7,hx7⟩:=hA2.a 7 (by decide)
 obtain ⟨x8,hx8⟩:=hA2.a 8 (by decide)
 obtain ⟨x9,hx9⟩:=hA2.a 9 (by decide)
 obtain ⟨x10,hx10⟩:=hA2.a 10 (by decide)
 obtain ⟨x11,hx11⟩:=hA2.a 11 (by decide)
 obtain ⟨x12,hx12⟩:=hA2.a 12 (by decide)
 obtain ⟨x13,hx13⟩:=hA2.a 13 (by decide)
 obtain ⟨x14,hx14⟩:=hA2.a 14 (by decide)
 obtain ⟨y0,g0⟩:=hA2.f 0 (by decide)
 obtain ⟨y1,g1⟩:=hA2.f 1 (by decide)
 have z1:=hA2.az
 have z2:=hA2.fz
 have hsz:=hA2.sz
 have l1:w.heap.size+1<w2.heap.size:=by omega
 have l2:w.heap.size+1+1<w2.heap.size:=by omega
 have l3:w.heap.size+1+1+1<w2.heap.size:=by omega
 clear hd hc0 hg hA hA2 HST
 go_wp2_with fail
 go_region
 all_goals
  go_wp2
  obtain ⟨W9,h9,hB9,hF9,hz9,hq9,r0,r1⟩:=finN HA2.out [.slice none 0 0,.int .i64 0,.int .i64 0,.int .i64 0,.int .i64 0,.slice none 0 0,.int .i64 0,.slice none 0 0,.slice none 0 0,.slice none 0 0,.slice none 0 0,.slice none 0 0,.slice none 0 0,.int .i64 0,.bool false] rfl e p (.cells #[.int .i64 e,.int .i64 p] 84)
  rw [show (setL (setL w2 (w.heap.size+1) 0 [.slice none 0 0,.int .i64 0,.int .i64 0,.int .i64 0,.int .i64 0,.slice none 0 0,.int .i64 0,.slice none 0 0,.slice none 0 0,.slice none 0 0,.slice none 0 0,.slice none 0 0,.slice none 0 0,.int .i64 0,.bool false]) (w.heap.size+1+1) 0 [.int .i64 e,.int .i64 p]).alloc (.cells #[.int .i64 e,.int .i64 p] 84)=((((((((((((((((((w2.setCell ⟨w.heap.size+1,0,none⟩ (.slice none 0 0)).setCell ⟨w.heap.size+1,1,none⟩ (.int .i64 0)).setCell ⟨w.heap.size+1,2,none⟩ (.int .i64 0)).setCell ⟨w.heap.size+1,3,none⟩ (.int .i64 0)).setCell ⟨w.heap.size+1,4,none⟩ (.int .i64 0)).setCell ⟨w.heap.size+1,5,none⟩ (.slice none 0 0)).setCell ⟨w.heap.size+1,6,none⟩ (.int .i64 0)).setCell ⟨w.heap.size+1,7,none⟩ (.slice none 0 0)).setCell ⟨w.heap.size+1,8,none⟩ (.slice none 0 0)).setCell ⟨w.heap.size+1,9,none⟩ (.slice none 0 0)).setCell ⟨w.heap.size+1,10,none⟩ (.slice none 0 0)).setCell ⟨w.heap.size+1,11,none⟩ (.slice none 0 0)).setCell ⟨w.heap.size+1,12,none⟩ (.slice none 0 0)).setCell ⟨w.heap.size+1,13,none⟩ (.int .i64 0)).setCell ⟨w.heap.size+1,14,none⟩ (.bool false)).setCell ⟨w.heap.size+1+1,0,none⟩ (.int .i64 e)).setCell ⟨w.heap.size+1+1,1,none⟩ (.int .i64 p))).alloc (.cells #[.int .i64 e,.int .i64 p] 84) from rfl]at h9
  rw [<-h9]
  have hh0:=hq9 0 (by decide)
  have hh1:=hq9 1 (by decide)
  have hh2:=hq9 2 (by decide)
  have hh3:=hq9 3 (by decide)
  have hh4:=hq9 4 (by decide)
  have hh5:=hq9 5 (by decide)
  have hh6:=hq9 6 (by decide)
  have hh7:=hq9 7 (by decide)
  have hh8:=hq9 8 (by decide)
  have hh9:=hq9 9 (by decide)
  have hh10:=hq9 10 (by decide)
  have hh11:=hq9 11 (by decide)
  have hh12:=hq9 12 (by decide)
  have hh13:=hq9 13 (by decide)
  have hh14:=hq9 14 (by decide)
  exact bodyPost_ret (v:=.tuple #[.agg #[.slice none 0 0,.int .i64 0,.int .i64 0,.int .i64 0,.int .i64 0,.slice none 0 0,.int .i64 0,.slice none 0 0,.slice none 0 0,.slice none 0 0,.slice none 0 0,.slice none 0 0,.slice none 0 0,.int .i64 0,.bool false],.agg #[.int .i64 e,.int .i64 p]]) (by simp [results,Tryz.results96,go_sem,hh0,hh1,hh2,hh3,hh4,hh5,hh6,hh7,hh8,hh9,hh10,hh11,hh12,hh13,hh14,r0,r1]) rfl ⟨hB9.drew,hz9,Or.inr ⟨_,_,rfl,HD.out⟩⟩
end Go.Proofs.YtjdnmblggdobgaaGreat
