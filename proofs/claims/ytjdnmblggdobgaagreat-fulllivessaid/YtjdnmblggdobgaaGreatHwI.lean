import Derived.Test.YtjdnmblggdobgaaGreatJLSaLTie
import Derived.Deep.RegionHeld3
import Derived.Deep.RegionLaw
import Derived.Deep.DeepCutAuto
set_option maxHeartbeats 16000000
set_option maxRecDepth 100000
namespace Go.Proofs.YtjdnmblggdobgaaGreat
open Go.RowKit Go.Maps
theorem zjo (w:World) (g:Nat) (cap:Array Value) (Ok:Value->World->Prop) (No:Int->Int->Prop) (Pf Q:Nat) (x:Value) (hcf:∀args w,(callFunc g args).run Tryz.prog w=.ok (.enter g args) w)
 (hpf:w.cell? ⟨Pf,0,none⟩=some (.func (.func g) #[] cap)) (hq:w.cell? ⟨Q,0,none⟩=some x) (hz:w.frozen? ⟨Q,0,none⟩=false)
 (hc:Calls Tryz.prog g cap w fun r W'=>Below w.heap.size w W'/\((∃v,r=.returned v/\(∃n,v=.int .i64 n)/\Ok v W')\/∃e p,r=.panicked [wrongV e p]/\No e p)):
 Calls Tryz.prog 127 #[.pointer (some ⟨Pf,0,none⟩),.pointer (some ⟨Q,0,none⟩)] w fun r w'=>
  (r=.returned (.tuple #[])/\∃v W',(∃n,v=.int .i64 n)/\Ok v W'/\w'.cell? ⟨Q,0,none⟩=some v/\w.grownBy w' (some Q)/\W'.grownBy w' (some Q)/\Below w.heap.size w W')\/
  (∃e p,r=.panicked [wrongV e p]/\No e p/\Below w.heap.size w w'):=by
 have hQ:Q<w.heap.size:=World.block_lt_of_cell? w _ hq
 have HC:=mk0 hc
 clear hc
 go_enter Tryz.func127,Tryz.ntmps127
 go_wp2_with fail
 refine HC.out.mono ?_
 rintro r w1 ⟨hb,⟨v,rfl,hT,hok⟩ | ⟨e,p,rfl,hno⟩⟩
 rotate_left
 ·
  exact ⟨rfl,Or.inr ⟨e,p,rfl,hno,hb⟩⟩
 have hq1:w1.cell? ⟨Q,0,none⟩=some x:=(hb.cell (p:=⟨Q,0,none⟩) hQ).trans hq
 have hz1:w1.frozen? ⟨Q,0,none⟩=false:=(hb.frozen (p:=⟨Q,0,none⟩) hQ).trans hz
 have HG0:Hid (w1.grownBy (w1.setCell ⟨Q,0,none⟩ v) (some Q)):=za8 (World.grownBy.refl _ _) _ _ (Or.inl rfl)
 have HG:Hid (w.grownBy (w1.setCell ⟨Q,0,none⟩ v) (some Q)):=za8 ⟨hb.os,hb.tape,hb.output,hb.size,fun k hk _=>hb.block k hk⟩ _ _ (by simp)
 have HC1:=mk0 (World.cell?_setCell_same w1 ⟨Q,0,none⟩ v hq1)
 have HOK:=mk0 hok
 have HB:=mk0 hb
 have HT:=mk0 hT
 obtain ⟨vv,rfl⟩:=hT
 clear hok hb hq hz HC
 go_wp2
 go_end0
 exact Or.inl ⟨rfl,_,w1,HT.out,HOK.out,HC1.out,HG.out,HG0.out,HB.out⟩
theorem callMadeI (args:Array Value) (w:World):(callFunc 127 args).run Tryz.prog w=.ok (.enter 127 args) w:=by kernel_rfl
theorem afterMadeI (w w1:World) (x:Value) (h:((((w.alloc (.cells #[x] 110)).alloc (.cells #[.int .i64 0,.int .i64 0] 84)).alloc (.cells #[.int .i64 0] 3)).alloc (.cells #[.int .i64 0,.int .i64 0] 84)).grownBy w1 (some (w.heap.size+2))):
 w1.heap[w.heap.size+3]? =some (.cells #[.int .i64 0,.int .i64 0] 84 (0,0))/\Below w.heap.size w w1/\w1.cell? ⟨w.heap.size+1,0,none⟩=some (.int .i64 0)/\w1.cell? ⟨w.heap.size+1,1,none⟩=some (.int .i64 0)/\
  (∀j,w1.frozen? ⟨w.heap.size+1,j,none⟩=false)/\w.heap.size+4<=w1.heap.size:=by
 have hB0:Below w.heap.size w ((((w.alloc (.cells #[x] 110)).alloc (.cells #[.int .i64 0,.int .i64 0] 84)).alloc (.cells #[.int .i64 0] 3)).alloc (.cells #[.int .i64 0,.int .i64 0] 84)):=((((Below.refl _ _).alloc (Nat.le_refl _) _).alloc (by simp) _).alloc (by simp;omega) _).alloc (by simp;omega) _
 have hz:((((w.alloc (.cells #[x] 110)).alloc (.cells #[.int .i64 0,.int .i64 0] 84)).alloc (.cells #[.int .i64 0] 3)).alloc (.cells #[.int .i64 0,.int .i64 0] 84)).heap.size=w.heap.size+4:=by simp
 refine ⟨?_,bg0 hB0 h (by omega),?_,?_,?_,by rw [<-hz];exact h.size⟩
 ·
  rw [h.block (w.heap.size+3) (by omega) (by simp)]
  show ((((w.heap.push _).push _).push _).push _)[w.heap.size+3]? =_
  rw [Array.getElem?_push,if_pos (by simp)]
 ·
  exact h.cell (a:=⟨w.heap.size+1,0,none⟩) (by simp [go_sem]) (by simp)
 ·
  exact h.cell (a:=⟨w.heap.size+1,1,none⟩) (by simp [go_sem]) (by simp)
 intro j
 rw [World.frozen?_of_block (a:=⟨w.heap.size+1,j,none⟩) (h.block (w.heap.size+1) (by omega) (by simp))]
 simp [go_sem]
theorem zjp (w:World) (g:Nat) (cap:Array Value) (Ok:Value->World->Prop) (No:Int->Int->Prop) (hcf:∀args w,(callFunc g args).run Tryz.prog w=.ok (.enter g args) w)
 (hc:∀W,Below w.heap.size w W->W.heap.size=w.heap.size+4->Calls Tryz.prog g cap W fun r W'=>Below W.heap.size W W'/\((∃v,r=.returned v/\(∃n,v=.int .i64 n)/\Ok v W')\/∃e p,r=.panicked [wrongV e p]/\No e p))
 (hst:∀v W W',w.heap.size+4<=W.heap.size->Far w.heap.size (w.heap.size+4) W W'->Ok v W->Ok v W'):
 Calls Tryz.prog 65 #[.func (.func g) #[] cap] w fun r w'=>Below w.heap.size w w'/\w.heap.size+4<=w'.heap.size/\
  ((∃v,r=.returned (.tuple #[v,.agg #[.int .i64 0,.int .i64 0]])/\(∃n,v=.int .i64 n)/\Ok v w')\/
   (∃e p,r=.returned (.tuple #[.int .i64 0,.agg #[.int .i64 e,.int .i64 p]])/\No e p)):=by
 have hmf:=mkf Tryz.prog
 have hB0:Below w.heap.size w (((w.alloc (.cells #[.func (.func g) #[] cap] 110)).alloc (.cells #[.int .i64 0,.int .i64 0] 84)).alloc (.cells #[.int .i64 0] 3)):=(((Below.refl _ _).alloc (Nat.le_refl _) _).alloc (by simp) _).alloc (by simp;omega) _
 have hB1:=hB0.alloc hB0.size (.cells #[.int .i64 0,.int .i64 0] 84)
 have HC:=mk0 hc
 have HST:=mk0 hst
 have HCF:=mk0 hcf
 clear hc hst hcf
 go_enter Tryz.func65,Tryz.ntmps65
 go_wp2_with fail
 refine (zb6 127 _ _ (fun w1=>∃v,(∃n,v=.int .i64 n)/\w1.cell? ⟨w.heap.size+2,0,none⟩=some v/\Ok v w1/\Below w.heap.size w w1/\
  (∃x y,w1.cell? ⟨w.heap.size+1,0,none⟩=some x/\w1.cell? ⟨w.heap.size+1,1,none⟩=some y)/\(∀j,w1.frozen? ⟨w.heap.size+1,j,none⟩=false)/\w.heap.size+4<=w1.heap.size)
  (fun e p w1=>No e p/\w1.cell? ⟨w.heap.size+2,0,none⟩=some (.int .i64 0)/\Below w.heap.size w w1/\
  (∃x y,w1.cell? ⟨w.heap.size+1,0,none⟩=some x/\w1.cell? ⟨w.heap.size+1,1,none⟩=some y)/\(∀j,w1.frozen? ⟨w.heap.size+1,j,none⟩=false)/\w.heap.size+4<=w1.heap.size) (callMadeI _) ?hc).mono ?_
 case hc=>
  refine (zjo _ g cap Ok No w.heap.size (w.heap.size+2) (.int .i64 0) HCF.out (by simp [go_sem]) (by simp [go_sem]) (by simp [go_sem]) (HC.out _ hB1 (by simp))).mono ?_
  rintro r w1 (⟨rfl,v,W',hT,hok,hc,hg,hg0,hbw⟩ | ⟨e,p,rfl,hd,hb⟩)
  ·
   obtain ⟨a1,a2,a3,a4,a5,a6⟩:=afterMadeI w w1 _ hg
   refine ⟨by simpa using a1,Or.inl ⟨rfl,v,hT,hc,?_,a2,⟨.int .i64 0,.int .i64 0,a3,a4⟩,a5,a6⟩⟩
   exact HST.out v W' w1 (by have:=hbw.size;simp at this;omega) (Far.grown hg0 (by omega) (by omega)) hok
  have hg2:World.grownBy _ w1 (some (w.heap.size+2)):=⟨hb.os,hb.tape,hb.output,hb.size,fun k hk _=>hb.block k hk⟩
  obtain ⟨a1,a2,a3,a4,a5,a6⟩:=afterMadeI w w1 _ hg2
  refine ⟨by simpa using a1,Or.inr ⟨e,p,rfl,hd,?_,a2,⟨.int .i64 0,.int .i64 0,a3,a4⟩,a5,a6⟩⟩
  exact (hb.cell (p:=⟨w.heap.size+2,0,none⟩) (by simp)).trans (by simp [go_sem])
 rintro r w2 ⟨w1,hg,hr⟩
 have hz:(((w.alloc (.cells #[.func (.func g) #[] cap] 110)).alloc (.cells #[.int .i64 0,.int .i64 0] 84)).alloc (.cells #[.int .i64 0] 3)).heap.size=w.heap.size+3:=by simp
 rw [hz]at hg
 clear hB0 hB1 hz HC HCF
 rcases hr with ⟨rfl,v,hT,hc,hok,hB,⟨x,y,hx,hy⟩,hfz,hsz⟩ | ⟨e,p,rfl,hd,hc,hB,⟨x,y,hx,hy⟩,hfz,hsz⟩
 ·
  have c4:w2.cell? ⟨w.heap.size+1+1,0,none⟩=some v:=hg.cell hc (by simp)
  have c30:w2.cell? ⟨w.heap.size+1,0,none⟩=some x:=hg.cell hx (by simp)
  have c31:w2.cell? ⟨w.heap.size+1,1,none⟩=some y:=hg.cell hy (by simp)
  have z3:∀j,w2.frozen? ⟨w.heap.size+1,j,none⟩=false:=fun j=>(World.frozen?_of_block (a:=⟨w.heap.size+1,j,none⟩) (hg.block (w.heap.size+1) (by omega) (by simp))).trans (hfz j)
  have hsz2:w.heap.size+4<=w2.heap.size:=Nat.le_trans hsz hg.size
  have hlt1:w.heap.size+1<w2.heap.size:=by omega
  have hlt2:w.heap.size+1+1<w2.heap.size:=by omega
  have HT:=mk0 hT
  have hB2:Below w.heap.size w w2:=bg0 hB hg (by omega)
  have HO2:=mk0 (HST.out v w1 w2 hsz (Far.grown hg (by omega) (by omega)) hok)
  obtain ⟨vv,rfl⟩:=hT
  clear hok hc hx hy hfz hg hB
  go_wp2_with fail
  go_region
  all_goals
   go_wp2
   obtain ⟨hg,q0,q1⟩:=zb5 w2 (w.heap.size+1) 0 0 (.cells #[.int .i64 0,.int .i64 0] 84) c30 c31
   have hB3:=bg0 hB2 hg (by omega)
   have HO3:=mk0 (HST.out _ w2 _ hsz2 (Far.grown hg (by omega) (by omega)) HO2.out)
   have hz3:=Nat.le_trans hsz2 hg.size
   generalize ((w2.setCell ⟨w.heap.size+1,0,none⟩ (.int .i64 0)).setCell ⟨w.heap.size+1,1,none⟩ (.int .i64 0)).alloc (.cells #[.int .i64 0,.int .i64 0] 84)=W9 at*
   exact bodyPost_ret (v:=.tuple #[_,.agg #[.int .i64 0,.int .i64 0]]) (by simp [results,Tryz.results65,go_sem,q0,q1]) rfl ⟨hB3.drew,hz3,Or.inl ⟨_,rfl,HT.out,HST.out _ W9 _ hz3 ⟨Nat.le_refl _,fun _ _ _=>rfl⟩ HO3.out⟩⟩
 have c4:w2.cell? ⟨w.heap.size+1+1,0,none⟩=some (.int .i64 0):=hg.cell hc (by simp)
 have c30:w2.cell? ⟨w.heap.size+1,0,none⟩=some x:=hg.cell hx (by simp)
 have c31:w2.cell? ⟨w.heap.size+1,1,none⟩=some y:=hg.cell hy (by simp)
 have z3:∀j,w2.frozen? ⟨w.heap.size+1,j,none⟩=false:=fun j=>(World.frozen?_of_block (a:=⟨w.heap.size+1,j,none⟩) (hg.block (w.heap.size+1) (by omega) (by simp))).trans (hfz j)
 have hsz2:w.heap.size+4<=w2.heap.size:=Nat.le_trans hsz hg.size
 have hlt1:w.heap.size+1<w2.heap.size:=by omega
 have hlt2:w.heap.size+1+1<w2.heap.size:=by omega
 have HD:=mk0 hd
 have hB2:Below w.heap.size w w2:=bg0 hB hg (by omega)
 clear hd hc hx hy hfz hg hB HST
 go_wp2_with fail
 go_region
 all_goals
  go_wp2
  obtain ⟨hg,q0,q1⟩:=zb5 w2 (w.heap.size+1) e p (.cells #[.int .i64 e,.int .i64 p] 84) c30 c31
  have hB3:=bg0 hB2 hg (by omega)
  have hz3:=Nat.le_trans hsz2 hg.size
  generalize ((w2.setCell ⟨w.heap.size+1,0,none⟩ (.int .i64 e)).setCell ⟨w.heap.size+1,1,none⟩ (.int .i64 p)).alloc (.cells #[.int .i64 e,.int .i64 p] 84)=W9 at*
  exact bodyPost_ret (v:=.tuple #[.int .i64 0,.agg #[.int .i64 e,.int .i64 p]]) (by simp [results,Tryz.results65,go_sem,q0,q1]) rfl ⟨hB3.drew,hz3,Or.inr ⟨_,_,rfl,HD.out⟩⟩
end Go.Proofs.YtjdnmblggdobgaaGreat
