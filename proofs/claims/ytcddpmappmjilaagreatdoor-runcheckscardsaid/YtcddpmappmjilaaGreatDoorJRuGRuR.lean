import Derived.Test.YtcddpmappmjilaaGreatDoorJRuBRuF
import Derived.Test.YtcddpmappmjilaaGreatDoorJLClVmM
import Derived.Lib.SliceRun
import Derived.Test.YtcddpmappmjilaaGreatDoorJLDifLFld
namespace Go.Proofs.YtcddpmappmjilaaGreatDoor
open Go.RowKit Go.Maps
set_option maxRecDepth 100000 in
set_option maxHeartbeats 2000000 in
theorem work_any (w:World) (M T F:Nat) (x:Cd.Op4) (R:World->Prop) (g:Nat) (hg:(x.op=1/\g=208)\/(x.op=31/\g=207)\/(x.op=27/\g=206)) (hc:∀V,Below w.heap.size w V->Calls Tryz.prog g #[spV M T F x] V fun r w'=>r=.returned (.int .i64 0)/\R w'):
 Calls Tryz.prog 130 #[spV M T F x] w fun r w'=>r=.returned (.int .i64 0)/\R w':=by
 obtain ⟨W0,hW0,hB0,hs0,k0⟩:=boxes1 w #[.pointer (some ⟨M,0,none⟩),.pointer (some ⟨T,0,none⟩),.pointer (some ⟨F,0,none⟩),.int .i64 x.loc,.int .i64 x.op,.int .i64 x.a,.int .i64 x.b] 202
 have HC:=mkHid (hc W0 hB0)
 have HW:=mkHid hW0
 clear hc hW0 hB0 hs0 k0
 unfold spV at*
 rcases hg with ⟨hop,rfl⟩ | ⟨hop,rfl⟩ | ⟨hop,rfl⟩
 all_goals
  rw [hop]at HC HW ⊢
  clear hop
  go_enter Tryz.func130,Tryz.ntmps130
  go_wp2_with fail
  rw [<-HW.out]
  refine HC.out.mono ?_
  rintro r w1 ⟨rfl,h1⟩
  have H1:=mkHid h1
  clear h1
  go_wp2_with fail
  go_ret
  exact ⟨rfl,H1.out⟩
set_option maxRecDepth 100000 in
set_option maxHeartbeats 2000000 in
theorem step_any (w:World) (M T bF oF j cF F X n gI cI:Nat) (k e:Int) (hj:j<1000) (vL vK:Value) (ops:List Cd.Op4) (R:World->Prop) (ht:w.heap[T]? =some (.cells (thC k (some ⟨bF,oF,none⟩) (j+1) cF e) 140 (0,0))) (hfr:w.cell? ⟨bF,oF+j,none⟩=some (.pointer (some ⟨F,0,none⟩)))
 (hf:w.heap[F]? =some (.cells (frC X n vL vK) 168 (0,0))) (hx:w.cell? ⟨X,9,none⟩=some (.slice (some ⟨gI,0,none⟩) ops.length cI)) (hh:Cd.Has w gI 0 ops) (hn:n<ops.length)
 (hc:∀V,Below w.heap.size w V->Calls Tryz.prog 130 #[spV M T F (Cd.get4 ops n)] V fun r w'=>r=.returned (.int .i64 0)/\R w'):
 Calls Tryz.prog 79 #[.pointer (some ⟨M,0,none⟩),.pointer (some ⟨T,0,none⟩)] w fun r w'=>r=.returned (.tuple #[])/\R w':=by
 have HU:=mkHid (upper_any w T k bF oF j cF e hj F ht hfr)
 have HO:Hid (∀V,Below w.heap.size w V->Calls Tryz.prog 129 #[.pointer (some ⟨F,0,none⟩)] V fun r w'=>r=.returned (.agg #[.int .i64 (Cd.get4 ops n).loc,.int .i64 (Cd.get4 ops n).op,.int .i64 (Cd.get4 ops n).a,.int .i64 (Cd.get4 ops n).b])/\Below V.heap.size V w'):=fun V hV=>
  op_any V F X n gI cI vL vK ops ((hV.block _ (lt_of hf)).trans hf) ((hV.cell (p:=⟨X,9,none⟩) (World.block_lt_of_cell? w _ hx)).trans hx) (hh.below hV hh.lt) hn
 have HC:=mkHid hc
 obtain ⟨x,hxx⟩:∃x,x=Cd.get4 ops n:=⟨_,rfl⟩
 rw [<-hxx]at HO HC
 clear ht hfr hf hx hh hc hxx
 go_enter Tryz.func79,Tryz.ntmps79
 go_wp2_with fail
 refine HU.out.mono ?_
 rintro r w1 ⟨rfl,hb1⟩
 have HB1:=mkHid hb1
 have HO1:=mkHid (HO.out w1 hb1)
 clear hb1
 go_wp2_with fail
 refine HO1.out.mono ?_
 rintro r w2 ⟨rfl,hb2⟩
 obtain ⟨W3,hW3,hB3,hs3,k3⟩:=boxes1 w2 #[.pointer (some ⟨M,0,none⟩),.pointer (some ⟨T,0,none⟩),.pointer (some ⟨F,0,none⟩),.int .i64 x.loc,.int .i64 x.op,.int .i64 x.a,.int .i64 x.b] 202
 have HC3:=mkHid (HC.out W3 ((HB1.out.trans (hb2.mono HB1.out.size)).trans (hB3.mono (HB1.out.trans (hb2.mono HB1.out.size)).size)))
 have HW3:=mkHid hW3
 clear hb2 hW3 hB3 hs3 k3
 unfold spV at*
 go_wp2_with fail
 rw [<-HW3.out]
 refine HC3.out.mono ?_
 rintro r w4 ⟨rfl,h4⟩
 have H4:=mkHid h4
 clear h4
 go_wp2_with fail
 go_end0
 exact ⟨rfl,H4.out⟩
def RPt (_:Nat->Prop) (_:World) (cs:List Value) (b:Nat):Prop:=cs= [.pointer (some ⟨b,0,none⟩)]
theorem one_RPt {W:World} {X t b:Nat} {cu:Array Value} (hu:cu[0]? =some (.pointer (some ⟨b,0,none⟩))) (h:W.heap[X]? =some (.cells cu t (0,0))) (c:Nat) (hc:1<=c):SL 1 RPt (· =X) W (.slice (some ⟨X,0,none⟩) 1 c) [b]:=
 ⟨_,_,rfl,hc,by unfold maxLen;simp,fun k hk=>⟨X,0,[.pointer (some ⟨b,0,none⟩)],rfl,rfl,lt_of h,rfl,fun j hj=>by
   have h0:k=0:=by simpa using hk
   have h1:j=0:=by omega
   subst h0
   subst h1
   exact cell_of h 0 hu,by
   have h0:k=0:=by simpa using hk
   subst h0
   rfl⟩⟩
theorem Tryz.infoThr:(Tryz.prog.info? 137).map (fun i=>(i.zero,i.size,i.bytes))=some (some (.pointer none),1,8):=by kernel_rfl
theorem cloneT_any (w:World) (M:Nat->Prop) (v:Value) (T:Nat) (hv:SL 1 RPt M w v [T]):Calls Tryz.prog 116 #[v] w fun r w'=>Below w.heap.size w w'/\∃g c,r=.returned (.slice (some ⟨g,0,none⟩) 1 c)/\1<=c/\w.heap.size<=g/\w'.cell? ⟨g,0,none⟩=some (.pointer (some ⟨T,0,none⟩))/\(∀j,w'.frozen? ⟨g,j,none⟩=false):=by
 refine (cloneG Tryz.func116 rfl rfl rfl Tryz.underlying127 Tryz.infoThr rfl (by decide) (by decide) (fun _ _=>by kernel_rfl) (fun _ _ _ _=>by kernel_rfl) (R:=RPt) (fun h u hu=>by rw [h]at hu;simp at hu;rw [hu];rfl) w M v [T] hv (by simp)).mono ?_
 rintro r w' ⟨hb,v',zs,rfl,hz,hR,ho⟩
 refine ⟨hb,?_⟩
 obtain ⟨z,rfl⟩:∃z,zs= [z]:=by
  match zs,hz with
  | [z],_=>exact ⟨z,rfl⟩
 have h2:=(hR z (by simp)).2
 have h3:z.2=T:=by simpa using hz
 rcases ho.2 with ⟨-,h0⟩ | ⟨g,cap,cur,rfl,hB,hg,hc,hm,hs,ht⟩
 ·
  simp at h0
 refine ⟨g,cap,rfl,by simpa using hc,hB,?_,frz_of hg⟩
 have:=ho.cells (g:=g) rfl 0 (.pointer (some ⟨T,0,none⟩)) (by simp [RPt]at*;simp [h2,h3])
 rw [addr_add]at this
 exact this
end Go.Proofs.YtcddpmappmjilaaGreatDoor
namespace Go.Proofs.YtcddpmappmjilaaGreatDoor
open Go.RowKit Go.Maps
set_option maxRecDepth 100000 in
set_option maxHeartbeats 1000000 in
theorem ixT_any (w:World) (g:Nat) (cap:Array Value) (hcf:∀args w,(callFunc g args).run Tryz.prog w=.ok (.enter g args) w) (gS cS T:Nat) (hS:w.cell? ⟨gS,0,none⟩=some (.pointer (some ⟨T,0,none⟩))) (b:Bool) (hc:∀V,Below w.heap.size w V->Calls Tryz.prog g (#[.pointer (some ⟨T,0,none⟩)]++cap) V fun r w'=>r=.returned (.bool b)/\Below V.heap.size V w'):
 Calls Tryz.prog 183 #[.slice (some ⟨gS,0,none⟩) 1 cS,.func (.func g) #[] cap] w fun r w'=>r=.returned (.int .i64 (if b then 0 else -1))/\Below w.heap.size w w':=by
 have HC:=mkHid hc
 have hcf':=hcf
 have lS:gS<w.heap.size:=World.block_lt_of_cell? w _ hS
 clear hc
 go_enter Tryz.func183,Tryz.ntmps183
 go_wp2_with fail
 go_loopw [8] (fun i wr=>∃k:Nat,k<=1/\i=.int .i64 k/\Hid ((k=1->b=false)/\Below w.heap.size w wr)) (fun i _=>1 - (intOf i).toNat)
 case atStart=>exact ⟨0,Nat.zero_le _,rfl,⟨fun h=>(by cases h),Below.refl _ _⟩⟩
 case round=>
  rename World=>wr
  obtain ⟨k,hk,rfl,HR⟩:=hrel
  by_cases h0:k=0
  ·
   subst h0
   have s0:=(HR.out.2.cell (p:=⟨gS,0,none⟩) lS).trans hS
   have HCR:=mkHid (HC.out wr HR.out.2)
   clear hS
   go_wp2_with fail
   refine HCR.out.mono ?_
   rintro r w1 ⟨rfl,hb1⟩
   have HB1:=mkHid (HR.out.2.trans (hb1.mono HR.out.2.size))
   clear hb1
   cases b with
   | true=>
     go_wp2_with fail
     go_ret
     exact ⟨rfl,HB1.out⟩
   | false=>
     go_wp2_with fail
     go_roundw
     case rel=>exact ⟨1,Nat.le_refl _,rfl,⟨by simp,HB1.out⟩⟩
     case measure=>simp [intOf]
  obtain rfl:k=1:=by omega
  have hbf:=HR.out.1 rfl
  subst hbf
  go_wp2_with fail
  go_ret
  exact ⟨rfl,HR.out.2⟩
set_option maxRecDepth 100000 in
set_option maxHeartbeats 1000000 in
theorem delT_any (w:World) (g:Nat) (cap:Array Value) (hcf:∀args w,(callFunc g args).run Tryz.prog w=.ok (.enter g args) w) (gS cS T:Nat) (hS:w.cell? ⟨gS,0,none⟩=some (.pointer (some ⟨T,0,none⟩))) (b:Bool) (hc:∀V,Below w.heap.size w V->Calls Tryz.prog g (#[.pointer (some ⟨T,0,none⟩)]++cap) V fun r w'=>r=.returned (.bool b)/\Below V.heap.size V w') (hb:b=false):
 Calls Tryz.prog 115 #[.slice (some ⟨gS,0,none⟩) 1 cS,.func (.func g) #[] cap] w fun r w'=>r=.returned (.slice (some ⟨gS,0,none⟩) 1 cS)/\Below w.heap.size w w':=by
 subst hb
 have HI:=mkHid (ixT_any w g cap hcf gS cS T hS false hc)
 clear hc hS
 go_enter Tryz.func115,Tryz.ntmps115
 go_wp2_with fail
 refine HI.out.mono ?_
 rintro r w1 ⟨rfl,hb1⟩
 have HB1:=mkHid hb1
 clear hb1 HI
 go_wp2_with fail
 go_ret
 exact ⟨rfl,HB1.out⟩
set_option maxRecDepth 100000 in
set_option maxHeartbeats 1000000 in
theorem delE_any (w:World) (g:Nat) (cap:Array Value) (hcf:∀args w,(callFunc g args).run Tryz.prog w=.ok (.enter g args) w) (B gS cS T:Nat) (hB:B<=gS) (hBw:B<=w.heap.size) (hc1:1<=cS) (hS:w.cell? ⟨gS,0,none⟩=some (.pointer (some ⟨T,0,none⟩))) (hz:∀j,w.frozen? ⟨gS,j,none⟩=false) (hc:∀V,Below w.heap.size w V->Calls Tryz.prog g (#[.pointer (some ⟨T,0,none⟩)]++cap) V fun r w'=>r=.returned (.bool true)/\Below V.heap.size V w'):
 Calls Tryz.prog 115 #[.slice (some ⟨gS,0,none⟩) 1 cS,.func (.func g) #[] cap] w fun r w'=>(∃a c,r=.returned (.slice a 0 c))/\Below B w w':=by
 have HI:=mkHid (ixT_any w g cap hcf gS cS T hS true hc)
 have lS:gS<w.heap.size:=World.block_lt_of_cell? w _ hS
 clear hc
 go_enter Tryz.func115,Tryz.ntmps115
 go_wp2_with fail
 refine HI.out.mono ?_
 rintro r w1 ⟨rfl,hb1⟩
 have HB1:=mkHid (hb1.mono hBw)
 have s0:=(hb1.cell (p:=⟨gS,0,none⟩) lS).trans hS
 have sf:∀j,w1.frozen? ⟨gS,j,none⟩=false:=fun j=>(hb1.frozen (p:=⟨gS,j,none⟩) lS).trans (hz j)
 clear hb1 HI hS hz
 go_wp2_with fail
 go_loopw [5,6] (fun i j wr=>i=.int .i64 0/\j=.int .i64 1/\wr=w1) (fun _ _ _=>0)
 case atStart=>exact ⟨rfl,rfl,rfl⟩
 case round=>
  obtain ⟨rfl,rfl,rfl⟩:=hrel
  have hcl:∀ty,(Builtin.clear_ #[127] ty #[.slice (some ⟨gS,0,none⟩) 1 cS]).run Tryz.prog wr=.ok (.tuple #[]) (wr.setCell ⟨gS,0,none⟩ (.pointer none)):=fun ty=>by
   rw [Lib.run_clear_slice (P:=Tryz.prog) wr 127 137 ty (.pointer none) Tryz.underlying127 (fun w=>by kernel_rfl) rfl rfl gS 0 1 cS (by decide) (fun j hj=>by
    obtain rfl:j=0:=by omega
    rw [Nat.zero_add,s0]
    rfl) (fun j _=>sf _)]
   rfl
  have hc0:¬cS=0:=by omega
  go_wp2_with fail
  go_ret
  exact ⟨⟨_,_,rfl⟩,HB1.out.setCell hB _⟩
set_option maxRecDepth 100000 in
set_option maxHeartbeats 1000000 in
theorem waits_any (w:World) (M T bF oF j cF F X n gI cI:Nat) (k e:Int) (hj:j<1000) (vL vK:Value) (ops:List Cd.Op4) (ht:w.heap[T]? =some (.cells (thC k (some ⟨bF,oF,none⟩) (j+1) cF e) 140 (0,0))) (hfr:w.cell? ⟨bF,oF+j,none⟩=some (.pointer (some ⟨F,0,none⟩)))
 (hf:w.heap[F]? =some (.cells (frC X n vL vK) 168 (0,0))) (hx:w.cell? ⟨X,9,none⟩=some (.slice (some ⟨gI,0,none⟩) ops.length cI)) (hh:Cd.Has w gI 0 ops) (hn:n<ops.length) (hop:¬(Cd.get4 ops n).op=35):
 Calls Tryz.prog 119 #[.pointer (some ⟨M,0,none⟩),.pointer (some ⟨T,0,none⟩)] w fun r w'=>r=.returned (.bool false)/\Below w.heap.size w w':=by
 have HU:=mkHid (upper_any w T k bF oF j cF e hj F ht hfr)
 have HO:Hid (∀V,Below w.heap.size w V->Calls Tryz.prog 129 #[.pointer (some ⟨F,0,none⟩)] V fun r w'=>r=.returned (.agg #[.int .i64 (Cd.get4 ops n).loc,.int .i64 (Cd.get4 ops n).op,.int .i64 (Cd.get4 ops n).a,.int .i64 (Cd.get4 ops n).b])/\Below V.heap.size V w'):=fun V hV=>
  op_any V F X n gI cI vL vK ops ((hV.block _ (lt_of hf)).trans hf) ((hV.cell (p:=⟨X,9,none⟩) (World.block_lt_of_cell? w _ hx)).trans hx) (hh.below hV hh.lt) hn
 generalize Cd.get4 ops n=x at*
 have ho1:(x.op != 35)=true:=bne_iff_ne.2 hop
 have hfd:∀(a b c d:Int) (V:World),(Instr.field 199 (.agg #[.int .i64 a,.int .i64 b,.int .i64 c,.int .i64 d]) 1).run Tryz.prog V=.ok (.int .i64 b) V:=fun _ _ _ _ _=>by kernel_rfl
 clear ht hfr hf hx hh
 go_enter Tryz.func119,Tryz.ntmps119
 go_wp2_with fail
 refine HU.out.mono ?_
 rintro r w1 ⟨rfl,hb1⟩
 have HB1:=mkHid hb1
 have HO1:=mkHid (HO.out w1 hb1)
 clear hb1
 go_wp2_with fail
 refine HO1.out.mono ?_
 rintro r w2 ⟨rfl,hb2⟩
 have HB2:=mkHid (HB1.out.trans (hb2.mono HB1.out.size))
 clear hb2
 go_wp2_with fail
 go_ret
 exact ⟨rfl,HB2.out⟩
end Go.Proofs.YtcddpmappmjilaaGreatDoor
namespace Go.Proofs.YtcddpmappmjilaaGreatDoor
open Go.RowKit Go.Maps
theorem callMay1 (args:Array Value) (w:World):(callFunc 117 args).run Tryz.prog w=.ok (.enter 117 args) w:=by kernel_rfl
theorem callRest1 (args:Array Value) (w:World):(callFunc 121 args).run Tryz.prog w=.ok (.enter 121 args) w:=by kernel_rfl
theorem may1_any (w:World) (K M T:Nat) (k e:Int) (aF:Option Addr) (nf cF:Nat) (b:Bool) (hK:w.cell? ⟨K,0,none⟩=some (.pointer (some ⟨M,0,none⟩))) (ht:w.heap[T]? =some (.cells (thC k aF nf cF e) 140 (0,0)))
 (hb:(nf=0/\b=true)\/(nf≠0/\b=false/\Calls Tryz.prog 119 #[.pointer (some ⟨M,0,none⟩),.pointer (some ⟨T,0,none⟩)] w fun r w'=>r=.returned (.bool false)/\Below w.heap.size w w')):
 Calls Tryz.prog 117 #[.pointer (some ⟨T,0,none⟩),.pointer (some ⟨K,0,none⟩)] w fun r w'=>r=.returned (.bool b)/\Below w.heap.size w w':=by
 have HE:=mkHid (ended_any w T k aF nf cF e ht)
 have HB:=mkHid (Below.refl w.heap.size w)
 clear ht
 rcases hb with ⟨rfl,rfl⟩ | ⟨h0,rfl,hw⟩
 ·
  go_enter Tryz.func117,Tryz.ntmps117
  go_wp2_with fail
  refine HE.out.mono ?_
  rintro r w1 ⟨rfl,hw1⟩
  rw [hw1]
  clear hw1 w1
  go_wp2_with fail
  go_ret
  exact ⟨rfl,HB.out⟩
 have HW:=mkHid hw
 rw [decide_eq_false h0]at HE
 clear hw h0
 go_enter Tryz.func117,Tryz.ntmps117
 go_wp2_with fail
 refine HE.out.mono ?_
 rintro r w1 ⟨rfl,hw1⟩
 rw [hw1]
 clear hw1 w1
 go_wp2_with fail
 refine HW.out.mono ?_
 rintro r w1 ⟨rfl,hb1⟩
 have HB1:=mkHid hb1
 clear hb1
 go_wp2_with fail
 go_ret
 exact ⟨rfl,HB1.out⟩
set_option maxRecDepth 100000 in
set_option maxHeartbeats 1000000 in
theorem may_step (w:World) (M bT T cT:Nat) {vW kC kS kF kN kT vM vP vE:Value} {ot nx fu en st9:Int} (k e:Int) (aF:Option Addr) (nf cF:Nat) (hcT:1<=cT) (hm:w.heap[M]? =some (.cells (mcC vW ot nx kC kS kF kN kT vM fu (.slice (some ⟨bT,0,none⟩) 1 cT) vP vE en st9) 130 (0,0))) {cu:Array Value} (hcu:cu[0]? =some (.pointer (some ⟨T,0,none⟩))) (hbT:w.heap[bT]? =some (.cells cu 137 (0,0))) (ht:w.heap[T]? =some (.cells (thC k aF nf cF e) 140 (0,0)))
 (hw:nf≠0->∀V,Below w.heap.size w V->Calls Tryz.prog 119 #[.pointer (some ⟨M,0,none⟩),.pointer (some ⟨T,0,none⟩)] V fun r w'=>r=.returned (.bool false)/\Below V.heap.size V w'):
 Calls Tryz.prog 76 #[.pointer (some ⟨M,0,none⟩)] w fun r w'=>Below w.heap.size w w'/\((nf=0/\∃a c,r=.returned (.slice a 0 c))\/(nf≠0/\∃g c,r=.returned (.slice (some ⟨g,0,none⟩) 1 c)/\w'.cell? ⟨g,0,none⟩=some (.pointer (some ⟨T,0,none⟩)))):=by
 have hmf:∀(fn:Fn) (first cap:Array Value) (w:World),(Instr.makeFunc fn first cap).run Tryz.prog w=.ok (.func fn first cap) w:=fun _ _ _ _=>rfl
 obtain ⟨W0,hW0,hB0,hs0,k0⟩:=boxes1 w #[.pointer (some ⟨M,0,none⟩)] 75
 have HCL:=mkHid (cloneT_any W0 _ _ T (one_RPt hcu ((hB0.block _ (lt_of hbT)).trans hbT) cT hcT))
 have m24:=cell_of hm 24 (x:=.slice (some ⟨bT,0,none⟩) 1 cT) rfl
 have lM:=lt_of hm
 have HK0:=mkHid k0
 have HT:=mkHid ht
 have HW0:=mkHid hW0
 have HB0:=mkHid hB0
 have HWT:=mkHid hw
 have lT:=lt_of ht
 clear hm hbT ht hW0 hB0 hs0 k0 hw
 go_enter Tryz.func76,Tryz.ntmps76
 go_wp2_with fail
 rw [<-HW0.out]
 refine HCL.out.mono ?_
 rintro r w1 ⟨hb1,g,c,rfl,hc1,hg,hS,hz⟩
 have HB1:=mkHid (HB0.out.trans (hb1.mono HB0.out.size))
 have HK1:=mkHid ((hb1.block _ (lt_of HK0.out)).trans HK0.out)
 have HT1:=mkHid ((HB1.out.block _ lT).trans HT.out)
 have HCC:Hid (∀(b:Bool),((nf=0/\b=true)\/(nf≠0/\b=false))->∀V,Below w1.heap.size w1 V->Calls Tryz.prog 117 (#[.pointer (some ⟨T,0,none⟩)]++#[.pointer (some ⟨w.heap.size,0,none⟩)]) V fun r w'=>r=.returned (.bool b)/\Below V.heap.size V w'):=fun b hb V hV=>
  may1_any V w.heap.size M T k e aF nf cF b (cell_of ((hV.block _ (lt_of HK1.out)).trans HK1.out) 0 rfl) ((hV.block _ (lt_of HT1.out)).trans HT1.out) (hb.imp id fun h=>⟨h.1,h.2,HWT.out h.1 V (HB1.out.trans (hV.mono HB1.out.size))⟩)
 have hg':w.heap.size<=g:=Nat.le_trans HB0.out.size hg
 have HS:=mkHid hS
 have HZ:=mkHid hz
 clear hb1 hS hz hg
 by_cases h0:nf=0
 ·
  have HD:=mkHid (delE_any w1 _ _ callMay1 w.heap.size g c T hg' HB1.out.size hc1 HS.out HZ.out (HCC.out true (Or.inl ⟨h0,rfl⟩)))
  go_wp2_with fail
  refine HD.out.mono ?_
  rintro r w2 ⟨⟨a,c2,rfl⟩,hb2⟩
  have HB2:=mkHid (HB1.out.trans hb2)
  clear hb2
  go_wp2_with fail
  go_ret
  exact ⟨HB2.out,Or.inl ⟨h0,_,_,rfl⟩⟩
 have HD:=mkHid (delT_any w1 _ _ callMay1 g c T HS.out false (HCC.out false (Or.inr ⟨h0,rfl⟩)) rfl)
 have lg:g<w1.heap.size:=World.block_lt_of_cell? w1 _ HS.out
 go_wp2_with fail
 refine HD.out.mono ?_
 rintro r w2 ⟨rfl,hb2⟩
 have HB2:=mkHid (HB1.out.trans (hb2.mono HB1.out.size))
 have HS2:=mkHid ((hb2.cell (p:=⟨g,0,none⟩) lg).trans HS.out)
 clear hb2
 go_wp2_with fail
 go_ret
 exact ⟨HB2.out,Or.inr ⟨h0,_,_,rfl,HS2.out⟩⟩
end Go.Proofs.YtcddpmappmjilaaGreatDoor
namespace Go.Proofs.YtcddpmappmjilaaGreatDoor
open Go.RowKit Go.Maps
set_option maxRecDepth 100000 in
set_option maxHeartbeats 1000000 in
theorem rest_any (w:World) (M bT T cT:Nat) {vW kC kS kF kN kT vM vP vE:Value} {ot nx fu en st9:Int} (k e:Int) (aF:Option Addr) (cF:Nat) (hm:w.heap[M]? =some (.cells (mcC vW ot nx kC kS kF kN kT vM fu (.slice (some ⟨bT,0,none⟩) 1 cT) vP vE en st9) 130 (0,0))) {cu:Array Value} (hcu:cu[0]? =some (.pointer (some ⟨T,0,none⟩))) (hbT:w.heap[bT]? =some (.cells cu 137 (0,0))) (ht:w.heap[T]? =some (.cells (thC k aF 0 cF e) 140 (0,0))):
 Calls Tryz.prog 77 #[.pointer (some ⟨M,0,none⟩)] w fun r w'=>r=.returned (.int .i64 1)/\Below w.heap.size w w':=by
 have HR1:Hid (∀V,Below w.heap.size w V->Calls Tryz.prog 121 (#[.pointer (some ⟨T,0,none⟩)]++#[]) V fun r w'=>r=.returned (.bool false)/\Below V.heap.size V w'):=fun V hV=>by
  have HE:=mkHid (ended_any V T k aF 0 cF e ((hV.block _ (lt_of ht)).trans ht))
  have HB:=mkHid (Below.refl V.heap.size V)
  show Calls Tryz.prog 121 #[.pointer (some ⟨T,0,none⟩)] V _
  clear hm hbT ht
  go_enter Tryz.func121,Tryz.ntmps121
  go_wp2_with fail
  refine HE.out.mono ?_
  rintro r w1 ⟨rfl,hw1⟩
  rw [hw1]
  clear hw1 w1
  go_wp2_with fail
  go_ret
  exact ⟨rfl,HB.out⟩
 have HCF:Hid (Calls Tryz.prog 120 #[.slice (some ⟨bT,0,none⟩) 1 cT,.func (.func 121) #[] #[]] w fun r w'=>r=.returned (.bool false)/\Below w.heap.size w w'):=by
  have HI:=mkHid (ixT_any w _ _ callRest1 bT cT T (cell_of hbT 0 hcu) false HR1.out)
  show Calls _ _ _ _ _
  clear hm hbT ht HR1
  go_enter Tryz.func120,Tryz.ntmps120
  go_wp2_with fail
  refine HI.out.mono ?_
  rintro r w1 ⟨rfl,hb1⟩
  have HB1:=mkHid hb1
  clear hb1
  go_wp2_with fail
  go_ret
  exact ⟨rfl,HB1.out⟩
 have m24:=cell_of hm 24 (x:=.slice (some ⟨bT,0,none⟩) 1 cT) rfl
 clear hm hbT ht HR1
 go_enter Tryz.func77,Tryz.ntmps77
 go_wp2_with fail
 refine HCF.out.mono ?_
 rintro r w1 ⟨rfl,hb1⟩
 have HB1:=mkHid hb1
 clear hb1 m24
 go_wp2_with fail
 go_ret
 exact ⟨rfl,HB1.out⟩
theorem nil_RO (M:Nat->Prop) (w:World):SL 1 RO M w (.slice none 0 0) []:=⟨none,0,rfl,Nat.le_refl _,Nat.zero_le _,fun k hk=>by cases hk⟩
set_option maxRecDepth 100000 in
set_option maxHeartbeats 1000000 in
theorem told_none (w:World) (M:Nat) {vW kC kS kF kN kT vM vT vP vE:Value} {ot nx fu en st9:Int} (hm:w.heap[M]? =some (.cells (mcC vW ot nx kC kS kF kN kT vM fu vT vP vE en st9) 130 (0,0))):
 Calls Tryz.prog 78 #[.pointer (some ⟨M,0,none⟩)] w fun r w'=>r=.returned (.tuple #[])/\Below w.heap.size w w':=by
 have HC:Hid (∀W,Calls Tryz.prog 122 #[.slice none 0 0,.int .i64 st9] W fun r w'=>r=.returned (.bool false)/\w'=W):=fun W=>(containsInt_any W (fun _=>False) _ [] st9 (nil_RO _ _)).mono fun _ _ h=>h
 have HB:=mkHid (fun o=>(Below.refl w.heap.size w).alloc (Nat.le_refl _) o)
 have m15:=cell_of hm 15 (x:=.slice none 0 0) rfl
 have m16:=cell_of hm 16 (x:=.slice none 0 0) rfl
 have m30:=cell_of hm 30 (x:=.int .i64 st9) rfl
 have lM:=lt_of hm
 clear hm
 go_enter Tryz.func78,Tryz.ntmps78
 go_wp2_with fail
 refine (HC.out _).mono ?_
 rintro r w1 ⟨rfl,hw1⟩
 rw [hw1]
 clear hw1 w1
 go_wp2_with fail
 refine (HC.out _).mono ?_
 rintro r w1 ⟨rfl,hw1⟩
 rw [hw1]
 clear hw1 w1
 go_wp2_with fail
 go_end0
 exact ⟨rfl,HB.out _⟩
set_option maxHeartbeats 1000000 in
theorem pick_any (w:World) (vI vS vG:Value) (hI:∃z:Option Addr×Nat×Nat,vI=.slice z.1 z.2.1 z.2.2) (hS:∃z:Option Addr×Nat×Nat,vS=.slice z.1 z.2.1 z.2.2) (hG:∃z:Option Addr×Nat×Nat,vG=.slice z.1 z.2.1 z.2.2) (y o f a b:Int):
 Calls Tryz.prog 80 #[.agg #[vI,.slice none 0 0,vS,vG,.int .i64 y,.int .i64 o,.int .i64 f],.int .i64 a,.int .i64 b] w fun r w'=>r=.returned (.int .i64 0)/\Below w.heap.size w w':=by
 obtain ⟨⟨i1,i2,i3⟩,rfl⟩:=hI
 obtain ⟨⟨s1,s2,s3⟩,rfl⟩:=hS
 obtain ⟨⟨g1,g2,g3⟩,rfl⟩:=hG
 have HB:=mkHid (fun o=>(Below.refl w.heap.size w).alloc (Nat.le_refl _) o)
 go_enter Tryz.func80,Tryz.ntmps80
 go_wp2_with fail
 go_ret
 exact ⟨rfl,HB.out _⟩
end Go.Proofs.YtcddpmappmjilaaGreatDoor
namespace Go.Proofs.YtcddpmappmjilaaGreatDoor
open Go.RowKit Go.Maps
def opsB:List Cd.Op4:=[⟨0,1,7,0⟩,⟨3,31,0,0⟩,⟨4,27,0,0⟩]
structure RnV where
 M:Nat
 bT:Nat
 T:Nat
 bF:Nat
 F:Nat
 X:Nat
 gI:Nat
 cT:Nat
 cF:Nat
 cI:Nat
 cu:Array Value
 vW:Value
 kC:Value
 kS:Value
 kF:Value
 kN:Value
 kT:Value
 vM:Value
 vL:Value
 ot:Int
 nx:Int
 fu:Int
abbrev mA (v:RnV) (vP vE:Value) (en k:Int):Array Value:=mcC v.vW v.ot v.nx v.kC v.kS v.kF v.kN v.kT v.vM v.fu (.slice (some ⟨v.bT,0,none⟩) 1 v.cT) vP vE en k
structure Rn0 (B:Nat) (v:RnV) (w:World) (vP:Value) (k:Int):Prop where
 mB:w.heap[v.M]? =some (.cells (mA v vP (.slice none 0 0) 0 k) 130 (0,0))
 tT:w.heap[v.bT]? =some (.cells v.cu 137 (0,0))
 c0:v.cu[0]? =some (.pointer (some ⟨v.T,0,none⟩))
 fF:w.heap[v.bF]? =some (.cells #[.pointer (some ⟨v.F,0,none⟩)] 134 (0,0))
 x9:w.cell? ⟨v.X,9,none⟩=some (.slice (some ⟨v.gI,0,none⟩) opsB.length v.cI)
 x3:w.cell? ⟨v.X,3,none⟩=some (.int .i64 0)
 hh:Cd.Has w v.gI 0 opsB
 bX:v.X<B
 bG:v.gI<B
 bM:B<=v.M
 bT:B<=v.T
 bF:B<=v.F
 cT:1<=v.cT
 cF:1<=v.cF
 hB:B<=w.heap.size
structure Alv (B:Nat) (v:RnV) (w:World) (n:Nat) (st:List Int):Prop where
 tB:w.heap[v.T]? =some (.cells (thC 0 (some ⟨v.bF,0,none⟩) 1 v.cF (-2)) 140 (0,0))
 fB:∃vK,w.heap[v.F]? =some (.cells (frC v.X n v.vL vK) 168 (0,0))/\OwnI w B vK st
def LinR (w:World) (g:Nat):Prop:=w.cell? ⟨g,0,none⟩=some (.int .i64 0)/\w.cell? ⟨g,1,none⟩=some (.int .i64 7)/\∃cur,w.heap[g]? =some (.cells cur 48 (0,0))
def Stg (B:Nat) (v:RnV) (w:World) (k:Int):Nat->Prop
 | 0=>Rn0 B v w (.slice none 0 0) k/\Alv B v w 0 []
 | 1=>Rn0 B v w (.slice none 0 0) k/\Alv B v w 1 [7]
 | 2=>∃g c,Rn0 B v w (.slice (some ⟨g,0,none⟩) 1 c) k/\Alv B v w 2 []/\LinR w g/\B<=g
 | _=>∃g c,Rn0 B v w (.slice (some ⟨g,0,none⟩) 1 c) k/\w.heap[v.T]? =some (.cells (thC 0 (some ⟨v.bF,0,none⟩) 0 v.cF 0) 140 (0,0))/\LinR w g/\B<=g
theorem LinR.same {w w':World} {g:Nat} (h:LinR w g) (e:w'.heap[g]? =w.heap[g]?):LinR w' g:=
 ⟨(World.cell?_of_block (a:=⟨g,0,none⟩) e).trans h.1,(World.cell?_of_block (a:=⟨g,1,none⟩) e).trans h.2.1,h.2.2.imp fun _ hc=>e.trans hc⟩
theorem LinR.below {w w':World} {g:Nat} (h:LinR w g) (hb:Below w.heap.size w w'):LinR w' g:=h.same (hb.block _ (lt_of h.2.2.choose_spec))
theorem Rn0.next {B:Nat} {v:RnV} {w w':World} {vP vP':Value} {k k':Int} (h:Rn0 B v w vP k) (hb:Below B w w') (hm:w'.heap[v.M]? =some (.cells (mA v vP' (.slice none 0 0) 0 k') 130 (0,0))) (ht:w'.heap[v.bT]? =w.heap[v.bT]?) (hf:w'.heap[v.bF]? =w.heap[v.bF]?):Rn0 B v w' vP' k':=
 ⟨hm,ht.trans h.tT,h.c0,hf.trans h.fF,(hb.cell (p:=⟨v.X,9,none⟩) h.bX).trans h.x9,(hb.cell (p:=⟨v.X,3,none⟩) h.bX).trans h.x3,h.hh.below hb h.bG,h.bX,h.bG,h.bM,h.bT,h.bF,h.cT,h.cF,Nat.le_trans h.hB hb.size⟩
theorem Rn0.below {B:Nat} {v:RnV} {w w':World} {vP:Value} {k:Int} (h:Rn0 B v w vP k) (hb:Below w.heap.size w w'):Rn0 B v w' vP k:=
 h.next (hb.mono h.hB) ((hb.block _ (lt_of h.mB)).trans h.mB) (hb.block _ (lt_of h.tT)) (hb.block _ (lt_of h.fF))
theorem Alv.below {B:Nat} {v:RnV} {w w':World} {n:Nat} {st:List Int} (h:Alv B v w n st) (hb:Below w.heap.size w w'):Alv B v w' n st:=by
 obtain ⟨tB,vK,h1,h2⟩:=h
 exact ⟨(hb.block _ (lt_of tB)).trans tB,vK,(hb.block _ (lt_of h1)).trans h1,own_same h2 fun g e=>hb.block g (h2.lt g e).2⟩
theorem Stg.below {B:Nat} {v:RnV} {w w':World} {k:Int} {i:Nat} (h:Stg B v w k i) (hb:Below w.heap.size w w'):Stg B v w' k i:=by
 match i,h with
 | 0,h=>exact ⟨h.1.below hb,h.2.below hb⟩
 | 1,h=>exact ⟨h.1.below hb,h.2.below hb⟩
 | 2,⟨g,c,h1,h2,h3,h4⟩=>exact ⟨g,c,h1.below hb,h2.below hb,h3.below hb,h4⟩
 | n+3,⟨g,c,h1,h2,h3,h4⟩=>exact ⟨g,c,h1.below hb,(hb.block _ (lt_of h2)).trans h2,h3.below hb,h4⟩
theorem ty_ne {w:World} {a b s t:Nat} {cs ds:Array Value} (ha:w.heap[a]? =some (.cells cs s (0,0))) (hb:w.heap[b]? =some (.cells ds t (0,0))) (hst:s≠t):a≠b:=fun e=>by
 subst e
 rw [ha]at hb
 cases hb
 exact hst rfl
def Kt (w w':World):Prop:=∀(a s:Nat) (cs:Array Value),w.heap[a]? =some (.cells cs s (0,0))->s≠130->s≠140->s≠168->3≠s->w'.heap[a]? =w.heap[a]?
theorem Kt.trans {a b c:World} (h:Kt a b) (k:Kt b c):Kt a c:=fun x s cs e h1 h2 h3 h4=>(k x s cs ((h x s cs e h1 h2 h3 h4).trans e) h1 h2 h3 h4).trans (h x s cs e h1 h2 h3 h4)
theorem Kt.of {w w':World} (hb:Below w.heap.size w w'):Kt w w':=fun a _ _ e _ _ _ _=>hb.block a (lt_of e)
theorem stp_of {B:Nat} {v:RnV} {w:World} {vP:Value} {k:Int} (h:Rn0 B v w vP k) {n:Nat} {st:List Int} (ha:Alv B v w n st) (hn:n<3) (g:Nat) (hg:((Cd.get4 opsB n).op=1/\g=208)\/((Cd.get4 opsB n).op=31/\g=207)\/((Cd.get4 opsB n).op=27/\g=206)) (R:World->Prop)
 (hc:∀V,Below w.heap.size w V->Calls Tryz.prog g #[spV v.M v.T v.F (Cd.get4 opsB n)] V fun r w'=>r=.returned (.int .i64 0)/\R w'):
 Calls Tryz.prog 79 #[.pointer (some ⟨v.M,0,none⟩),.pointer (some ⟨v.T,0,none⟩)] w fun r w'=>r=.returned (.tuple #[])/\R w':=by
 obtain ⟨tB,vK,h1,h2⟩:=ha
 exact step_any w v.M v.T v.bF 0 0 v.cF v.F v.X n v.gI v.cI 0 (-2) (by decide) v.vL vK opsB R tB (cell_of h.fF 0 rfl) h1 h.x9 h.hh hn (fun V hV=>work_any V v.M v.T v.F _ R g hg (fun V' hV'=>hc V' (hV.trans (hV'.mono hV.size))))
theorem sgo0 {B:Nat} {v:RnV} {w:World} {k:Int} (h:Stg B v w k 0):Calls Tryz.prog 79 #[.pointer (some ⟨v.M,0,none⟩),.pointer (some ⟨v.T,0,none⟩)] w fun r w'=>r=.returned (.tuple #[])/\Stg B v w' k 1/\Below B w w'/\Kt w w':=by
 refine stp_of h.1 h.2 (by decide) 208 (Or.inl ⟨rfl,rfl⟩) _ fun V hV=>?_
 have hr:=h.1.below hV
 obtain ⟨tB,vK,f1,f2⟩:=h.2.below hV
 refine (shift1_any V v.M v.T B v.F v.X 0 v.vL vK [] (by simp) (by decide) _ rfl f1 f2 hr.hB).mono ?_
 rintro r w' ⟨rfl,vK',g1,g2,g3⟩
 have hb:Below B V w':=g3.below (fun b hb=>by
  rcases hb with rfl | hb
  ·
   exact hr.bF
  exact (f2.lt b hb).1) hr.hB
 have keep:∀ {a s:Nat} {cs:Array Value},V.heap[a]? =some (.cells cs s (0,0))->s≠168->3≠s->w'.heap[a]? =V.heap[a]? :=fun {a s cs} ha h1 h2=>g3.block a (lt_of ha) (fun hh=>by
  rcases hh with rfl | hh
  ·
   exact ty_ne ha f1 h1 rfl
  exact own_not f2 ha h2 hh)
 exact ⟨rfl,⟨hr.next hb ((keep hr.mB (by decide) (by decide)).trans hr.mB) (keep hr.tT (by decide) (by decide)) (keep hr.fF (by decide) (by decide)),(keep tB (by decide) (by decide)).trans tB,vK',g1,g2⟩,(hV.mono h.1.hB).trans hb,(Kt.of hV).trans fun _ _ _ e _ _ h3 h4=>keep e h3 h4⟩
theorem sgo1 {B:Nat} {v:RnV} {w:World} {k:Int} (h:Stg B v w k 1):Calls Tryz.prog 79 #[.pointer (some ⟨v.M,0,none⟩),.pointer (some ⟨v.T,0,none⟩)] w fun r w'=>r=.returned (.tuple #[])/\Stg B v w' k 2/\Below B w w'/\Kt w w':=by
 refine stp_of h.1 h.2 (by decide) 207 (Or.inr (Or.inl ⟨rfl,rfl⟩)) _ fun V hV=>?_
 have hr:=h.1.below hV
 obtain ⟨tB,vK,f1,f2⟩:=h.2.below hV
 obtain ⟨gK,cK,rfl⟩:∃gK cK,vK=.slice (some ⟨gK,0,none⟩) 1 cK:=by
  rcases f2.2 with ⟨-,h0⟩ | ⟨g,cap,cur,e,-⟩
  ·
   cases h0
  exact ⟨g,cap,e⟩
 refine (tell31_any V v.M v.T B v.F v.X 0 (-2) (some ⟨v.bF,0,none⟩) 1 v.cF 1 v.vL gK cK 7 (by decide) _ rfl hr.mB tB f1 f2 hr.hB).mono ?_
 rintro r w' ⟨rfl,⟨vK',g1,g2⟩,⟨g,c,m1,m2,m3,m5,m4⟩,g3⟩
 have hb:Below B V w':=g3.below (fun b hb=>by
  rcases hb with rfl | rfl | rfl
  ·
   exact hr.bF
  ·
   exact hr.bM
  exact (f2.lt _ rfl).1) hr.hB
 have keep:∀ {a s:Nat} {cs:Array Value},V.heap[a]? =some (.cells cs s (0,0))->s≠168->3≠s->s≠130->w'.heap[a]? =V.heap[a]? :=fun {a s cs} ha h1 h2 h3=>g3.block a (lt_of ha) (fun hh=>by
  rcases hh with rfl | rfl | rfl
  ·
   exact ty_ne ha f1 h1 rfl
  ·
   exact ty_ne ha hr.mB h3 rfl
  exact own_not f2 ha h2 rfl)
 exact ⟨rfl,⟨g,c,hr.next hb m1 (keep hr.tT (by decide) (by decide) (by decide)) (keep hr.fF (by decide) (by decide) (by decide)),⟨(keep tB (by decide) (by decide) (by decide)).trans tB,vK',g1,g2⟩,⟨m2,m3,m5⟩,Nat.le_trans hr.hB m4⟩,(hV.mono h.1.hB).trans hb,(Kt.of hV).trans fun _ _ _ e h1 _ h3 h4=>keep e h3 h4 h1⟩
theorem sgo2 {B:Nat} {v:RnV} {w:World} {k:Int} (h:Stg B v w k 2):Calls Tryz.prog 79 #[.pointer (some ⟨v.M,0,none⟩),.pointer (some ⟨v.T,0,none⟩)] w fun r w'=>r=.returned (.tuple #[])/\Stg B v w' k 3/\Below B w w'/\Kt w w':=by
 obtain ⟨g,c,h1,h2,h3,h4⟩:=h
 refine stp_of h1 h2 (by decide) 206 (Or.inr (Or.inr ⟨rfl,rfl⟩)) _ fun V hV=>?_
 have hr:=h1.below hV
 obtain ⟨tB,vK,f1,f2⟩:=h2.below hV
 have hl:=h3.below hV
 refine (leap27_any V v.M v.T v.F v.X 0 (-2) 2 (some ⟨v.bF,0,none⟩) v.cF hr.cF v.vL vK _ rfl hr.mB tB f1 hr.x3).mono ?_
 rintro r w' ⟨rfl,t1,m1,g3⟩
 have hb:Below B V w':=g3.below (fun b hb=>by
  rcases hb with rfl | rfl
  ·
   exact hr.bT
  exact hr.bM) hr.hB
 have keep:∀ {a s:Nat} {cs:Array Value},V.heap[a]? =some (.cells cs s (0,0))->s≠140->s≠130->w'.heap[a]? =V.heap[a]? :=fun {a s cs} ha h1 h3=>g3.block a (lt_of ha) (fun hh=>by
  rcases hh with rfl | rfl
  ·
   exact ty_ne ha tB h1 rfl
  exact ty_ne ha hr.mB h3 rfl)
 exact ⟨rfl,⟨g,c,hr.next hb m1 (keep hr.tT (by decide) (by decide)) (keep hr.fF (by decide) (by decide)),t1,hl.same (keep hl.2.2.choose_spec (by decide) (by decide)),h4⟩,(hV.mono h1.hB).trans hb,(Kt.of hV).trans fun _ _ _ e h1 h2 _ _=>keep e h2 h1⟩
end Go.Proofs.YtcddpmappmjilaaGreatDoor
namespace Go.Proofs.YtcddpmappmjilaaGreatDoor
open Go.RowKit Go.Maps
theorem Stg.rn {B:Nat} {v:RnV} {w:World} {k:Int} {i:Nat} (h:Stg B v w k i):∃vP,Rn0 B v w vP k:=by
 match i,h with
 | 0,h=>exact ⟨_,h.1⟩
 | 1,h=>exact ⟨_,h.1⟩
 | 2,⟨g,c,h1,_⟩=>exact ⟨_,h1⟩
 | n+3,⟨g,c,h1,_⟩=>exact ⟨_,h1⟩
theorem Stg.alv {B:Nat} {v:RnV} {w:World} {k:Int} {i:Nat} (h:Stg B v w k i) (hi:i<3):∃st,Alv B v w i st:=by
 match i,hi,h with
 | 0,_,h=>exact ⟨_,h.2⟩
 | 1,_,h=>exact ⟨_,h.2⟩
 | 2,_,⟨g,c,_,h2,_⟩=>exact ⟨_,h2⟩
theorem stI {B:Nat} {v:RnV} {w:World} {k:Int} {i:Nat} (h:Stg B v w k i) (hi:i<3):Calls Tryz.prog 79 #[.pointer (some ⟨v.M,0,none⟩),.pointer (some ⟨v.T,0,none⟩)] w fun r w'=>r=.returned (.tuple #[])/\Stg B v w' k (i+1)/\Below B w w'/\Kt w w':=by
 match i,hi,h with
 | 0,_,h=>exact sgo0 h
 | 1,_,h=>exact sgo1 h
 | 2,_,h=>exact sgo2 h
theorem Rn0.inc {B:Nat} {v:RnV} {w:World} {vP:Value} {k k':Int} (h:Rn0 B v w vP k):Rn0 B v (w.setCell ⟨v.M,30,none⟩ (.int .i64 k')) vP k'/\Below B w (w.setCell ⟨v.M,30,none⟩ (.int .i64 k'))/\∀ {a s:Nat} {cs:Array Value},w.heap[a]? =some (.cells cs s (0,0))->s≠130->(w.setCell ⟨v.M,30,none⟩ (.int .i64 k')).heap[a]? =w.heap[a]? :=by
 have hb:Below B w (w.setCell ⟨v.M,30,none⟩ (.int .i64 k')):=(Below.refl B w).setCell h.bM _
 have keep:∀ {a s:Nat} {cs:Array Value},w.heap[a]? =some (.cells cs s (0,0))->s≠130->(w.setCell ⟨v.M,30,none⟩ (.int .i64 k')).heap[a]? =w.heap[a]? :=fun {a s cs} ha hs=>Below.heap_setCell _ _ _ _ (ty_ne ha h.mB hs)
 exact ⟨h.next hb (heap_setR h.mB _) (keep h.tT (by decide)) (keep h.fF (by decide)),hb,keep⟩
theorem Alv.keep {B:Nat} {v:RnV} {w w':World} {n:Nat} {st:List Int} (h:Alv B v w n st) (hk:∀ {a s:Nat} {cs:Array Value},w.heap[a]? =some (.cells cs s (0,0))->s≠130->w'.heap[a]? =w.heap[a]?):Alv B v w' n st:=by
 obtain ⟨tB,vK,h1,h2⟩:=h
 refine ⟨(hk tB (by decide)).trans tB,vK,(hk h1 (by decide)).trans h1,own_same h2 fun g e=>?_⟩
 rcases h2.2 with ⟨e2,-⟩ | ⟨g',cap,cur,e2,-,hg,-⟩
 ·
  rw [e2]at e;cases e
 rw [e2]at e
 cases e
 exact hk hg (by decide)
theorem Stg.inc {B:Nat} {v:RnV} {w:World} {k k':Int} {i:Nat} (h:Stg B v w k i):Stg B v (w.setCell ⟨v.M,30,none⟩ (.int .i64 k')) k' i/\Below B w (w.setCell ⟨v.M,30,none⟩ (.int .i64 k')):=by
 match i,h with
 | 0,⟨h1,h2⟩=>exact ⟨⟨h1.inc.1,h2.keep h1.inc.2.2⟩,h1.inc.2.1⟩
 | 1,⟨h1,h2⟩=>exact ⟨⟨h1.inc.1,h2.keep h1.inc.2.2⟩,h1.inc.2.1⟩
 | 2,⟨g,c,h1,h2,h3,h4⟩=>exact ⟨⟨g,c,h1.inc.1,h2.keep h1.inc.2.2,h3.same (h1.inc.2.2 h3.2.2.choose_spec (by decide)),h4⟩,h1.inc.2.1⟩
 | n+3,⟨g,c,h1,h2,h3,h4⟩=>exact ⟨⟨g,c,h1.inc.1,(h1.inc.2.2 h2 (by decide)).trans h2,h3.same (h1.inc.2.2 h3.2.2.choose_spec (by decide)),h4⟩,h1.inc.2.1⟩
def stpN (M:Nat) (w:World):Nat:=match w.cell? ⟨M,30,none⟩with | some (.int _ n)=>n.toNat | _=>0
theorem Stg.stp {B:Nat} {v:RnV} {w:World} {k:Int} {i:Nat} (h:Stg B v w k i):stpN v.M w=k.toNat:=by
 obtain ⟨vP,h⟩:=h.rn
 unfold stpN
 rw [cell_of h.mB 30 (x:=.int .i64 k) rfl]
theorem noLock {n:Nat} (hn:n<3):¬(Cd.get4 opsB n).op=35:=by
 match n,hn with
 | 0,_=>decide
 | 1,_=>decide
 | 2,_=>decide
set_option maxRecDepth 100000 in
set_option maxHeartbeats 4000000 in
theorem stepOn_any {B:Nat} {v:RnV} {w:World} (h:Stg B v w 0 0):Calls Tryz.prog 52 #[.pointer (some ⟨v.M,0,none⟩)] w fun r w'=>r=.returned (.int .i64 1)/\Stg B v w' 3 3/\Below B w w'/\Kt w w':=by
 have H:=mkHid h
 clear h
 go_enter Tryz.func52,Tryz.ntmps52
 go_wp2_with fail
 go_loopw [3] (fun _ wr=>∃i:Nat,i<=3/\Hid (Stg B v wr i i/\Below B w wr/\Kt w wr)) (fun _ wr=>3 - stpN v.M wr)
 case atStart=>exact ⟨0,Nat.zero_le _,H.out,Below.refl _ _,fun _ _ _ _ _ _ _ _=>rfl⟩
 case round=>
  rename World=>wr
  obtain ⟨i,hi,HS⟩:=hrel
  obtain ⟨vP,hr⟩:=HS.out.1.rn
  have m30:=cell_of hr.mB 30 (x:=.int .i64 (i:Int)) rfl
  have m19:=cell_of hr.mB 19 (x:=.int .i64 10) rfl
  have HR:=mkHid hr
  have hlt:(i:Int)<10:=by omega
  clear hr
  go_wp2_with fail
  go_quiet (fail)
  obtain ⟨w1,hw1⟩:∃w1,w1=wr.drewN nq:=⟨_,rfl⟩
  have hb1:Below wr.heap.size wr w1:=by rw [hw1];exact below_dn (Below.refl _ _) _
  rw [<-hw1]
  have HS1:Hid (Stg B v w1 i i):=HS.out.1.below hb1
  have HBw1:Hid (Below B w w1/\Kt w w1):=⟨HS.out.2.1.trans (hb1.mono HR.out.hB),HS.out.2.2.trans (Kt.of hb1)⟩
  clear hw1 hb1 m30 m19 HR
  obtain ⟨vP1,hr1⟩:=HS1.out.rn
  have HR1:=mkHid hr1
  by_cases h3:i<3
  ·
   obtain ⟨st,ha⟩:=HS1.out.alv h3
   have HA:=mkHid ha
   obtain ⟨tB,vK,f1,f2⟩:=ha
   have HMS:=mkHid (may_step w1 v.M v.bT v.T v.cT 0 (-2) (some ⟨v.bF,0,none⟩) 1 v.cF hr1.cT hr1.mB hr1.c0 hr1.tT tB (fun _ V hV=>by
    have hrV:=hr1.below hV
    exact waits_any V v.M v.T v.bF 0 0 v.cF v.F v.X i v.gI v.cI 0 (-2) (by decide) v.vL vK opsB ((hV.block _ (lt_of tB)).trans tB) (cell_of hrV.fF 0 rfl) ((hV.block _ (lt_of f1)).trans f1) hrV.x9 hrV.hh h3 (noLock h3)))
   have H3:=mkHid h3
   clear tB f1 f2 hr1
   go_wp2_with fail
   refine HMS.out.mono ?_
   rintro r w2 ⟨hb2,⟨h0,-⟩ | ⟨-,g,c,rfl,hg⟩⟩
   ·
    cases h0
   have HB2:=mkHid hb2
   have HT2:=mkHid (told_none w2 v.M (HR1.out.below hb2).mB)
   have lg:g<w2.heap.size:=World.block_lt_of_cell? w2 _ hg
   have HG2:=mkHid hg
   clear hb2 hg
   go_wp2_with fail
   refine HT2.out.mono ?_
   rintro r w3 ⟨rfl,hb3⟩
   have HB3:Hid (Below w1.heap.size w1 w3):=HB2.out.trans (hb3.mono HB2.out.size)
   have HS3:=mkHid (HS1.out.below HB3.out)
   have HR3:=mkHid (HR1.out.below HB3.out)
   have g0:=(hb3.cell (p:=⟨g,0,none⟩) lg).trans HG2.out
   have lg3:g<w3.heap.size:=Nat.lt_of_lt_of_le lg hb3.size
   have lM3:=lt_of HR3.out.mB
   have c13:=cell_of HR3.out.mB 13 (x:=.slice none 0 0) rfl
   have c14:=cell_of HR3.out.mB 14 (x:=.slice none 0 0) rfl
   have c15:=cell_of HR3.out.mB 15 (x:=.slice none 0 0) rfl
   have c16:=cell_of HR3.out.mB 16 (x:=.slice none 0 0) rfl
   have c17:=cell_of HR3.out.mB 17 (x:=.int .i64 20) rfl
   have c18:=cell_of HR3.out.mB 18 (x:=.int .i64 20) rfl
   have c19:=cell_of HR3.out.mB 19 (x:=.int .i64 10) rfl
   have c30:=cell_of HR3.out.mB 30 (x:=.int .i64 (i:Int)) rfl
   clear hb3 lg HT2 HMS
   go_wp2_with fail
   refine wp_region_til (fun W'=>∀p:Addr,p.block<w3.heap.size->W'.cell? p=w3.cell? p) 13 (by kernel_rfl) (fun p hp=>rfl) fun hH=>?_
   refine til_pure 0 (.pointer (some ⟨v.M,0,none⟩)) rfl (by kernel_rfl) (by kernel_rfl) (fun _ _ _ h=>h) ?_ hH ?_
   ·
    intro w
    go_simp
   refine til_pure 1 (.slice (some ⟨g,0,none⟩) 1 c) rfl (by kernel_rfl) (by kernel_rfl) (fun _ _ _ h=>h) ?_ hH ?_
   ·
    intro w
    go_simp
   refine til_pure 2 (.pointer (some ⟨v.M,0,none⟩)) rfl (by kernel_rfl) (by kernel_rfl) (fun _ _ _ h=>h) ?_ hH ?_
   ·
    intro w
    go_simp
   refine til_pure 3 (.pointer (some ⟨v.M,0,none⟩)) rfl (by kernel_rfl) (by kernel_rfl) (fun _ _ _ h=>h) ?_ hH ?_
   ·
    intro w
    go_simp
   refine til_pure 4 (.pointer (some ⟨v.M,13,none⟩)) rfl (by kernel_rfl) (by kernel_rfl) (fun _ _ _ h=>h) ?_ hH ?_
   ·
    intro w
    go_simp
   refine til_take 5 (.agg #[.slice none 0 0,.slice none 0 0,.slice none 0 0,.slice none 0 0,.int .i64 20,.int .i64 20,.int .i64 10]) rfl (by kernel_rfl) (by kernel_rfl) (by kernel_rfl) (fun _ _ _ h=>h) ?_ hH ?_
   ·
    intro w hSw;go_simp
   refine til_pure 6 (.pointer (some ⟨v.M,0,none⟩)) rfl (by kernel_rfl) (by kernel_rfl) (fun _ _ _ h=>h) ?_ hH ?_
   ·
    intro w
    go_simp
   refine til_pure 7 (.pointer (some ⟨v.M,0,none⟩)) rfl (by kernel_rfl) (by kernel_rfl) (fun _ _ _ h=>h) ?_ hH ?_
   ·
    intro w
    go_simp
   refine til_pure 8 (.pointer (some ⟨v.M,27,none⟩)) rfl (by kernel_rfl) (by kernel_rfl) (fun _ _ _ h=>h) ?_ hH ?_
   ·
    intro w
    go_simp
   refine til_pure 9 (.pointer (some ⟨v.M,30,none⟩)) rfl (by kernel_rfl) (by kernel_rfl) (fun _ _ _ h=>h) ?_ hH ?_
   ·
    intro w
    go_simp
   refine til_take 10 (.int .i64 (i:Int)) rfl (by kernel_rfl) (by kernel_rfl) (by kernel_rfl) (fun _ _ _ h=>h) ?_ hH ?_
   ·
    intro w hSw;go_simp
   refine til_pure 11 (.slice (some ⟨g,0,none⟩) 1 c) rfl (by kernel_rfl) (by kernel_rfl) (fun _ _ _ h=>h) ?_ hH ?_
   ·
    intro w
    go_simp
   refine til_pure 12 (.int .i64 1) rfl (by kernel_rfl) (by kernel_rfl) (fun _ _ _ h=>h) ?_ hH ?_
   ·
    intro w
    go_simp
   refine til_ready (rs:=[13]) (by kernel_rfl) (by simp) ?_
   refine TilR.cons rfl (fun K13 hK13=>?_) TilR.nil
   go_simp
   refine (pick_any _ _ _ _ ⟨(none,0,0),rfl⟩ ⟨(none,0,0),rfl⟩ ⟨(none,0,0),rfl⟩ _ _ _ _ _).mono ?_
   rintro r u3 ⟨rfl,hu3⟩
   have HU3:Hid (Below w3.heap.size w3 u3):=(Below.refl _ _).drew.trans hu3
   have g3:=(HU3.out.cell (p:=⟨g,0,none⟩) lg3).trans g0
   refine hK13.out _ _ (fun h=>absurd rfl h) ?_
   clear hu3
   clear hH
   refine til_ready (rs:=[14]) (by kernel_rfl) (by simp) ?_
   refine TilR.cons rfl (fun K14 hK14=>?_) TilR.nil
   go_simp
   refine hK14.out _ _ (fun _ h=>absurd h (by simp)) ?_
   refine til_ready (rs:=[15]) (by kernel_rfl) (by simp) ?_
   refine TilR.cons rfl (fun K15 hK15=>?_) TilR.nil
   go_simp
   refine hK15.out _ _ (fun _ h=>absurd h (by simp)) ?_
   refine til_ready (rs:=[16]) (by kernel_rfl) (by simp) ?_
   refine TilR.cons rfl (fun K16 hK16=>?_) TilR.nil
   go_simp
   refine (stI (HS3.out.below HU3.out) H3.out).mono ?_
   rintro r w9 ⟨rfl,hs9,hb9,hk9⟩
   have HS9:=mkHid hs9
   have HB9:Hid (Below B w w9/\Kt w w9):=⟨(HBw1.out.1.trans ((HB3.out.trans (HU3.out.mono HB3.out.size)).mono HR1.out.hB)).trans hb9,(HBw1.out.2.trans (Kt.of (HB3.out.trans (HU3.out.mono HB3.out.size)))).trans hk9⟩
   clear hs9 hb9 hk9
   refine hK16.out _ _ (fun _ h=>absurd h (by simp)) ?_
   refine til_done (by kernel_rfl) ?_ _
   try simp only [Act.put,List.setIfInBounds_toArray,List.set_cons_zero,List.set_cons_succ,List.getElem_toArray,List.getElem_cons_zero,List.getElem_cons_succ]
   clear g0 lg3 lM3
   clear c13 c14 c15 c16 c17 c18 c19 c30
   obtain ⟨vP9,hr9⟩:=HS9.out.rn
   have m30:=cell_of hr9.mB 30 (x:=.int .i64 (i:Int)) rfl
   have mf:=frz_of hr9.mB
   have hwi:IntKind.i64.wrap ((i:Int)+1)=(i:Int)+1:=wrap_i64_small _ (by omega) (by omega)
   have HIN:=mkHid (HS9.out.inc (k':=(i:Int)+1))
   have HKI:Hid (Kt w9 (w9.setCell ⟨v.M,30,none⟩ (.int .i64 ((i:Int)+1)))):=fun _ _ _ e h1 _ _ _=>hr9.inc.2.2 e h1
   clear hr9
   go_wp2_with fail
   go_roundw
   case rel=>exact ⟨i+1,h3,HIN.out.1,HB9.out.1.trans HIN.out.2,HB9.out.2.trans HKI.out⟩
   case measure=>
    have h1:=HIN.out.1.stp
    have h2:=HS.out.1.stp
    have h4:=H3.out
    rw [h1,h2]
    omega
  obtain rfl:i=3:=by omega
  obtain ⟨g,c,q1,q2,q3,q4⟩:=HS1.out
  have HMS:=mkHid (may_step w1 v.M v.bT v.T v.cT 0 0 (some ⟨v.bF,0,none⟩) 0 v.cF q1.cT q1.mB q1.c0 q1.tT q2 (fun h=>absurd rfl h))
  clear h3 hr1
  clear q1 q2 q3 q4 g c
  go_wp2_with fail
  refine HMS.out.mono ?_
  rintro r w2 ⟨hb2,⟨-,a,c,rfl⟩ | ⟨h0,-⟩⟩
  rotate_left
  ·
   exact absurd rfl h0
  have HS2:=mkHid (HS1.out.below hb2)
  have HBw2:Hid (Below B w w2/\Kt w w2):=⟨HBw1.out.1.trans (hb2.mono HR1.out.hB),HBw1.out.2.trans (Kt.of hb2)⟩
  obtain ⟨g,c2,q1,q2,q3,q4⟩:=HS2.out
  have HRS:=mkHid (rest_any w2 v.M v.bT v.T v.cT 0 0 (some ⟨v.bF,0,none⟩) v.cF q1.mB q1.c0 q1.tT q2)
  have HHB:Hid (B<=w2.heap.size):=q1.hB
  clear q1 q2 q3 q4 hb2 HMS
  go_wp2_with fail
  refine HRS.out.mono ?_
  rintro r w3 ⟨rfl,hb3⟩
  have HS3:=mkHid (HS2.out.below hb3)
  have HBw3:Hid (Below B w w3/\Kt w w3):=⟨HBw2.out.1.trans (hb3.mono HHB.out),HBw2.out.2.trans (Kt.of hb3)⟩
  clear hb3
  go_wp2_with fail
  go_ret
  exact ⟨rfl,HS3.out,HBw3.out.1,HBw3.out.2⟩
end Go.Proofs.YtcddpmappmjilaaGreatDoor
namespace Go.Proofs.YtcddpmappmjilaaGreatDoor
open Go.RowKit Go.Maps
structure Ens (B:Nat) (v:RnV) (w0 w:World) (g c K:Nat) (vE:Value):Prop where
 mB:w.heap[v.M]? =some (.cells (mA v (.slice (some ⟨g,0,none⟩) 1 c) vE 1 3) 130 (0,0))
 tT:w.heap[v.bT]? =some (.cells v.cu 137 (0,0))
 c0:v.cu[0]? =some (.pointer (some ⟨v.T,0,none⟩))
 tB:w.heap[v.T]? =some (.cells (thC 0 (some ⟨v.bF,0,none⟩) 0 v.cF 0) 140 (0,0))
 ln:LinR w g
 kB:w.heap[K]? =some (.cells #[.slice none 0 0,.slice none 0 0,.int .i64 0,.int .i64 0,.bool false] 43 (0,0))
 bw:Below B w0 w
 bM:B<=v.M
 hB:B<=w.heap.size
theorem Ens.set {B:Nat} {v:RnV} {w0 w w':World} {g c K:Nat} {vE vE':Value} (h:Ens B v w0 w g c K vE) (hb:Below w.heap.size w w'):Ens B v w0 (w'.setCell ⟨v.M,28,none⟩ vE') g c K vE':=by
 have keep:∀ {a s:Nat} {cs:Array Value},w.heap[a]? =some (.cells cs s (0,0))->s≠130->(w'.setCell ⟨v.M,28,none⟩ vE').heap[a]? =w.heap[a]? :=fun {a s cs} ha hs=>(Below.heap_setCell _ _ _ _ (ty_ne ha h.mB hs)).trans (hb.block a (lt_of ha))
 exact ⟨heap_setR ((hb.block _ (lt_of h.mB)).trans h.mB) _,(keep h.tT (by decide)).trans h.tT,h.c0,(keep h.tB (by decide)).trans h.tB,h.ln.same (keep h.ln.2.2.choose_spec (by decide)),(keep h.kB (by decide)).trans h.kB,(h.bw.trans (hb.mono h.hB)).setCell h.bM _,h.bM,Nat.le_trans h.hB (by have:=hb.size;simpa [World.setCell]using this)⟩
set_option maxRecDepth 100000 in
set_option maxHeartbeats 4000000 in
theorem mrun_any {B:Nat} {v:RnV} {w:World} (h:Stg B v w 0 0):Calls Tryz.prog 29 #[.pointer (some ⟨v.M,0,none⟩)] w fun r w'=>(∃g c aE cE,r=.returned (.agg #[.slice (some ⟨g,0,none⟩) 1 c,.slice aE 1 cE,.int .i64 1,.int .i64 3,.bool false])/\LinR w' g/\B<=g)/\Below B w w':=by
 obtain ⟨iI,hiI,hzI0,hzI1,hzI2⟩:=info_parts Tryz.infoInt
 obtain ⟨W0,hW0,hB0,hs0,k0⟩:=boxes1 w #[.slice none 0 0,.slice none 0 0,.int .i64 0,.int .i64 0,.bool false] 43
 have HB:Hid (B<=w.heap.size):=h.1.hB
 have HSO:=mkHid (stepOn_any (h.below hB0))
 have HW0:=mkHid hW0
 have HB0:=mkHid hB0
 have HK0:=mkHid k0
 have HRT:Hid (w.heap.size<W0.heap.size):=lt_of k0
 clear h hW0 hB0 hs0 k0
 go_enter Tryz.func29,Tryz.ntmps29
 go_wp2_with fail
 rw [<-HW0.out]
 refine HSO.out.mono ?_
 rintro r w1 ⟨rfl,hs1,hb1,hk1⟩
 obtain ⟨g,c,q1,q2,q3,q4⟩:=hs1
 have c29:=cell_of q1.mB 29 (x:=.int .i64 0) rfl
 have cf:=frz_of q1.mB
 obtain ⟨w2,hw2⟩:∃w2,w2=w1.setCell ⟨v.M,29,none⟩ (.int .i64 1):=⟨_,rfl⟩
 have HE2:Hid (Ens B v w w2 g c w.heap.size (.slice none 0 0)):=by
  have keep:∀ {a s:Nat} {cs:Array Value},w1.heap[a]? =some (.cells cs s (0,0))->s≠130->w2.heap[a]? =w1.heap[a]? :=fun {a s cs} ha hs=>by rw [hw2];exact Below.heap_setCell _ _ _ _ (ty_ne ha q1.mB hs)
  have hk:=(hk1 _ _ _ HK0.out (by decide) (by decide) (by decide) (by decide)).trans HK0.out
  exact ⟨by rw [hw2];exact heap_setR q1.mB _,(keep q1.tT (by decide)).trans q1.tT,q1.c0,(keep q2 (by decide)).trans q2,q3.same (keep q3.2.2.choose_spec (by decide)),(keep hk (by decide)).trans hk,by rw [hw2];exact ((HB0.out.mono HB.out).trans hb1).setCell q1.bM _,q1.bM,by rw [hw2];simpa [World.setCell]using q1.hB⟩
 have HW2:=mkHid hw2
 have HGB:=mkHid q4
 have m24:=cell_of HE2.out.mB 24 (x:=.slice (some ⟨v.bT,0,none⟩) 1 v.cT) rfl
 rw [hw2]at m24
 clear hb1 hk1 q1 q2 q3 q4 hw2
 go_wp2_with fail
 rw [<-HW2.out]
 clear m24 c29 cf
 go_loopw [4,16] (fun _ i wr=>∃k:Nat,k<=1/\i=.int .i64 k/\Hid (∃vE,Ens B v w wr g c w.heap.size vE/\(k=0->vE=.slice none 0 0)/\(k=1->∃aE cE,vE=.slice aE 1 cE))) (fun _ i _=>1 - (intOf i).toNat)
 case atStart=>exact ⟨0,Nat.zero_le _,rfl,_,HE2.out,fun _=>rfl,fun h=>by cases h⟩
 case round=>
  rename World=>wr
  obtain ⟨k,hk,rfl,HS⟩:=hrel
  obtain ⟨vE,he,h1,h2⟩:=HS.out
  by_cases hk0:k=0
  ·
   subst hk0
   obtain rfl:=h1 rfl
   have HE:=mkHid he
   have t0:=cell_of he.tT 0 he.c0
   have t2:=cell_of he.tB 2 (x:=.int .i64 0) rfl
   have m28:=cell_of he.mB 28 (x:=.slice none 0 0) rfl
   have lM:=lt_of he.mB
   have lT:=lt_of he.tB
   clear he h1 h2
   go_wp2_with fail
   refine wp_region_til (fun W'=>∀p:Addr,p.block<wr.heap.size->W'.cell? p=wr.cell? p) 15 (by kernel_rfl) (fun p hp=>rfl) fun hH=>?_
   refine til_pure 0 (.pointer (some ⟨v.M,0,none⟩)) rfl (by kernel_rfl) (by kernel_rfl) (fun _ _ _ h=>h) ?_ hH ?_
   ·
    intro w
    go_simp
   refine til_pure 1 (.pointer (some ⟨v.M,0,none⟩)) rfl (by kernel_rfl) (by kernel_rfl) (fun _ _ _ h=>h) ?_ hH ?_
   ·
    intro w
    go_simp
   refine til_pure 2 (.pointer (some ⟨v.M,0,none⟩)) rfl (by kernel_rfl) (by kernel_rfl) (fun _ _ _ h=>h) ?_ hH ?_
   ·
    intro w
    go_simp
   refine til_pure 3 (.pointer (some ⟨v.M,27,none⟩)) rfl (by kernel_rfl) (by kernel_rfl) (fun _ _ _ h=>h) ?_ hH ?_
   ·
    intro w
    go_simp
   refine til_pure 4 (.pointer (some ⟨v.M,28,none⟩)) rfl (by kernel_rfl) (by kernel_rfl) (fun _ _ _ h=>h) ?_ hH ?_
   ·
    intro w
    go_simp
   refine til_take 5 (.slice none 0 0) rfl (by kernel_rfl) (by kernel_rfl) (by kernel_rfl) (fun _ _ _ h=>h) ?_ hH ?_
   ·
    intro w hSw;go_simp
   refine til_pure 6 (.pointer (some ⟨v.T,0,none⟩)) rfl (by kernel_rfl) (by kernel_rfl) (fun _ _ _ h=>h) ?_ hH ?_
   ·
    intro w
    go_simp
   refine til_pure 7 (.pointer (some ⟨v.T,0,none⟩)) rfl (by kernel_rfl) (by kernel_rfl) (fun _ _ _ h=>h) ?_ hH ?_
   ·
    intro w
    go_simp
   refine til_pure 8 (.pointer (some ⟨v.T,2,none⟩)) rfl (by kernel_rfl) (by kernel_rfl) (fun _ _ _ h=>h) ?_ hH ?_
   ·
    intro w
    go_simp
   refine til_take 9 (.int .i64 0) rfl (by kernel_rfl) (by kernel_rfl) (by kernel_rfl) (fun _ _ _ h=>h) ?_ hH ?_
   ·
    intro w hSw;go_simp
   refine til_ready (rs:=[10]) (by kernel_rfl) (by simp) ?_
   refine TilR.cons rfl (fun K10 hK10=>?_) TilR.nil
   go_simp
   obtain ⟨u5,hu5,hB5,hs5,hb5⟩:=boxes1 wr #[.int .i64 0] 3
   rw [<-hu5]
   obtain ⟨u6,hu6⟩:∃u6,u6=u5.drew:=⟨_,rfl⟩
   rw [<-hu6]
   have HU6:Hid (Below wr.heap.size wr u6):=by rw [hu6];exact hB5.drew
   have HY:Hid (u6.heap[wr.heap.size]? =some (.cells #[.int .i64 0] 3 (0,0))):=by rw [hu6];exact hb5
   refine hK10.out _ _ (fun _ _ p hp=>HU6.out.cell hp) ?_
   replace hH:∀p:Addr,p.block<wr.heap.size->u6.cell? p=wr.cell? p:=fun p hp=>HU6.out.cell hp
   clear hu5 hB5 hs5 hb5 hu6
   refine til_ready (rs:=[11]) (by kernel_rfl) (by simp) ?_
   refine TilR.cons rfl (fun K11 hK11=>?_) TilR.nil
   refine stp_append_nil u6 rfl (.tmp 25) (.tmp 30) 23 rfl 3 iI _ 1 8 Tryz.underlying23 hiI hzI0 hzI1 hzI2 rfl (by decide) (by go_simp) wr.heap.size 1 _ _ rfl (fun u hu=>by simp at hu;rw [hu];rfl) (by go_simp) HY.out (by decide) ?_
   intro cP u7 ho7 hb7 hl7
   have HU7:Hid (Below wr.heap.size wr u7):=HU6.out.trans (hb7.mono HU6.out.size)
   refine hK11.out _ _ (fun _ _ p hp=>HU7.out.cell hp) ?_
   replace hH:∀p:Addr,p.block<wr.heap.size->u7.cell? p=wr.cell? p:=fun p hp=>HU7.out.cell hp
   have z28:=(HU7.out.cell (p:=⟨v.M,28,none⟩) lM).trans m28
   have zf:=frz_of ((HU7.out.block _ lM).trans HE.out.mB)
   clear ho7 hb7 hl7
   refine til_pure 12 (.pointer (some ⟨v.M,0,none⟩)) rfl (by kernel_rfl) (by kernel_rfl) (fun _ _ _ h=>h) ?_ hH ?_
   ·
    intro w
    go_simp
   refine til_pure 13 (.pointer (some ⟨v.M,27,none⟩)) rfl (by kernel_rfl) (by kernel_rfl) (fun _ _ _ h=>h) ?_ hH ?_
   ·
    intro w
    go_simp
   refine til_pure 14 (.pointer (some ⟨v.M,28,none⟩)) rfl (by kernel_rfl) (by kernel_rfl) (fun _ _ _ h=>h) ?_ hH ?_
   ·
    intro w
    go_simp
   refine til_ready (rs:=[15]) (by kernel_rfl) (by simp) ?_
   refine TilR.cons rfl (fun K15 hK15=>?_) TilR.nil
   go_simp
   refine hK15.out _ _ (fun h=>absurd rfl h) ?_
   refine til_done (by kernel_rfl) ?_ _
   clear hH
   try simp only [Act.put,List.setIfInBounds_toArray,List.set_cons_zero,List.set_cons_succ,List.getElem_toArray,List.getElem_cons_zero,List.getElem_cons_succ]
   go_wp2_with fail
   go_roundw
   case rel=>exact ⟨1,Nat.le_refl _,rfl,_,HE.out.set HU7.out,fun h=>(by cases h),fun _=>⟨_,_,rfl⟩⟩
   case measure=>simp [intOf]
  obtain rfl:k=1:=by omega
  obtain ⟨aE,cE,rfl⟩:=h2 rfl
  have HE:=mkHid he
  have k0:=cell_of he.kB 0 (x:=.slice none 0 0) rfl
  have k1:=cell_of he.kB 1 (x:=.slice none 0 0) rfl
  have k2:=cell_of he.kB 2 (x:=.int .i64 0) rfl
  have k3:=cell_of he.kB 3 (x:=.int .i64 0) rfl
  have k4:=cell_of he.kB 4 (x:=.bool false) rfl
  have kf:=frz_of he.kB
  have e27:=cell_of he.mB 27 (x:=.slice (some ⟨g,0,none⟩) 1 c) rfl
  have e28:=cell_of he.mB 28 (x:=.slice aE 1 cE) rfl
  have e29:=cell_of he.mB 29 (x:=.int .i64 1) rfl
  have e30:=cell_of he.mB 30 (x:=.int .i64 3) rfl
  have e31:=cell_of he.mB 31 (x:=.bool false) rfl
  clear he h1 h2
  go_wp2_with fail
  have he:=HE.out
  have hX:=heap_setR (j:=4) (heap_setR (j:=3) (heap_setR (j:=2) (heap_setR (j:=1) (heap_setR (j:=0) he.kB (.slice (some ⟨g,0,none⟩) 1 c)) (.slice aE 1 cE)) (.int .i64 1)) (.int .i64 3)) (.bool false)
  obtain ⟨cg,hcg⟩:=he.ln.2.2
  have hgK:g≠w.heap.size:=ty_ne hcg he.kB (by decide)
  refine bodyPost_ret (results_cell_row rfl _ _ w.heap.size _ _ _ _ rfl hX Tryz.underlying43 rfl rfl) rfl ⟨⟨g,⟨c,aE,cE,rfl⟩,he.ln.same ?_,HGB.out⟩,(((((he.bw.setCell HB.out _).setCell HB.out _).setCell HB.out _).setCell HB.out _).setCell HB.out _)⟩
  repeat rw [Below.heap_setCell _ _ _ _ hgK]
end Go.Proofs.YtcddpmappmjilaaGreatDoor
namespace Go.Proofs.YtcddpmappmjilaaGreatDoor
open Go.RowKit Go.Maps
set_option maxRecDepth 100000 in
set_option maxHeartbeats 4000000 in
theorem newFrame_any {X:Nat} {w:World} (hX:w.cell? ⟨X,6,none⟩=some (.int .i64 0)):Calls Tryz.prog 51 #[.pointer (some ⟨X,0,none⟩),.slice none 0 0] w fun r w'=>(∃F vL,r=.returned (.pointer (some ⟨F,0,none⟩))/\w.heap.size<=F/\w'.heap[F]? =some (.cells (frC X 0 vL (.slice none 0 0)) 168 (0,0)))/\Below w.heap.size w w':=by
 obtain ⟨iI,hiI,hzI0,hzI1,hzI2⟩:=info_parts Tryz.infoInt
 have rI:∀V,(Instr.makeSlice 23 (.int .i64 0) (.int .i64 0)).run Tryz.prog V=.ok (.slice (some ⟨V.heap.size,0,none⟩) 0 0) (V.alloc (.cells #[] 3)):=fun V=>by
  have:=run_makeSlice (P:=Tryz.prog) V 23 3 iI (.int .i64 0) Tryz.underlying23 hiI hzI0 .i64 .i64 0 0 (by omega) (by omega) (by rw [hzI1];simp) (by rw [hzI2];omega) (by omega)
  rw [hzI1,show madeCells (Value.int .i64 0).cells (Int.toNat 0*1)=#[] from by kernel_rfl]at this
  simpa using this
 have rC:∀(V:World) (b:Addr),(Builtin.copy_ #[23,23] 3 #[.slice (some b) 0 0,.slice none 0 0]).run Tryz.prog V=.ok (.int .i64 0) V:=fun V b=>run_copy_nil Tryz.prog V _ _ _ 3 b 0 0 Tryz.underlying23 (by rw [hiI];rfl)
 go_enter Tryz.func51,Tryz.ntmps51
 go_wp2_with (first | rw [rI] | rw [rC])
 exact bodyPost_ret (results_tmp rfl _ _ _) rfl ⟨⟨_,_,rfl,Nat.le_succ _,heap_alloc2_new _ _ _⟩,((Below.refl _ w).alloc (Nat.le_refl _) _).alloc (by simp only [World.alloc,Array.size_push];omega) _⟩
set_option maxRecDepth 100000 in
set_option maxHeartbeats 4000000 in
theorem spawn_any {M F:Nat} {w:World} {cs:Array Value} (hM:w.heap[M]? =some (.cells cs 130 (0,0))) (h24:cs[24]? =some (.slice none 0 0)):Calls Tryz.prog 50 #[.pointer (some ⟨M,0,none⟩),.pointer (some ⟨F,0,none⟩)] w fun r w'=>r=.returned (.tuple #[])/\∃bT T bF cT cu,w'.heap[M]? =some (.cells (cs.setIfInBounds 24 (.slice (some ⟨bT,0,none⟩) 1 cT)) 130 (0,0))/\1<=cT
 /\w'.heap[bT]? =some (.cells cu 137 (0,0))/\cu[0]? =some (.pointer (some ⟨T,0,none⟩))/\w'.heap[T]? =some (.cells (thC 0 (some ⟨bF,0,none⟩) 1 1 (-2)) 140 (0,0))/\w'.heap[bF]? =some (.cells #[.pointer (some ⟨F,0,none⟩)] 134 (0,0))/\w.heap.size<=T/\w.heap.size<=bT/\w.heap.size<=bF
 /\Ky (· =M) w w':=by
 obtain ⟨iP,hiP,hzP0,hzP1,hzP2⟩:=info_parts Tryz.infoThr
 have m24:=cell_of hM 24 h24
 have lM:=lt_of hM
 have HM:=mkHid hM
 clear hM
 go_enter Tryz.func50,Tryz.ntmps50
 refine wp_region_til (fun W'=>∀p:Addr,p.block<w.heap.size->W'.cell? p=w.cell? p) 18 (by kernel_rfl) (fun p hp=>rfl) fun hH=>?_
 refine til_pure 0 (.pointer (some ⟨M,0,none⟩)) rfl (by kernel_rfl) (by kernel_rfl) (fun _ _ _ h=>h) ?_ hH ?_
 ·
  intro w
  go_simp
 refine til_pure 1 (.pointer (some ⟨M,0,none⟩)) rfl (by kernel_rfl) (by kernel_rfl) (fun _ _ _ h=>h) ?_ hH ?_
 ·
  intro w
  go_simp
 refine til_pure 2 (.pointer (some ⟨M,0,none⟩)) rfl (by kernel_rfl) (by kernel_rfl) (fun _ _ _ h=>h) ?_ hH ?_
 ·
  intro w
  go_simp
 refine til_pure 3 (.pointer (some ⟨M,24,none⟩)) rfl (by kernel_rfl) (by kernel_rfl) (fun _ _ _ h=>h) ?_ hH ?_
 ·
  intro w
  go_simp
 refine til_take 4 (.slice none 0 0) rfl (by kernel_rfl) (by kernel_rfl) (by kernel_rfl) (fun _ _ _ h=>h) ?_ hH ?_
 ·
  intro w hSw;go_simp
 refine til_pure 5 (.pointer (some ⟨M,0,none⟩)) rfl (by kernel_rfl) (by kernel_rfl) (fun _ _ _ h=>h) ?_ hH ?_
 ·
  intro w
  go_simp
 refine til_pure 6 (.pointer (some ⟨M,0,none⟩)) rfl (by kernel_rfl) (by kernel_rfl) (fun _ _ _ h=>h) ?_ hH ?_
 ·
  intro w
  go_simp
 refine til_pure 7 (.pointer (some ⟨M,24,none⟩)) rfl (by kernel_rfl) (by kernel_rfl) (fun _ _ _ h=>h) ?_ hH ?_
 ·
  intro w
  go_simp
 refine til_take 8 (.slice none 0 0) rfl (by kernel_rfl) (by kernel_rfl) (by kernel_rfl) (fun _ _ _ h=>h) ?_ hH ?_
 ·
  intro w hSw;go_simp
 refine til_pure 9 (.int .i64 0) rfl (by kernel_rfl) (by kernel_rfl) (fun _ _ _ h=>h) ?_ hH ?_
 ·
  intro w
  go_simp
 refine til_pure 10 (.pointer (some ⟨F,0,none⟩)) rfl (by kernel_rfl) (by kernel_rfl) (fun _ _ _ h=>h) ?_ hH ?_
 ·
  intro w
  go_simp
 refine til_ready (rs:=[11]) (by kernel_rfl) (by simp) ?_
 refine TilR.cons rfl (fun K11 hK11=>?_) TilR.nil
 go_simp
 obtain ⟨u1,hu1,hBu1,hsu1,hbu1⟩:=boxes1 w #[.pointer (some ⟨F,0,none⟩)] 134
 rw [<-hu1]
 have HU1:Hid (Below w.heap.size w u1):=hBu1
 have HF1:=mkHid hbu1
 have HB1:=mkHid hBu1
 refine hK11.out _ _ (fun _ _ p hp=>HU1.out.cell hp) ?_
 replace hH:∀p:Addr,p.block<w.heap.size->u1.cell? p=w.cell? p:=fun p hp=>HU1.out.cell hp
 clear hu1 hBu1 hsu1 hbu1
 refine til_pure 12 (.agg #[.int .i64 0,.slice (some ⟨w.heap.size,0,none⟩) 1 1,.int .i64 (-2)]) rfl (by kernel_rfl) (by kernel_rfl) (fun _ _ _ h=>h) ?_ hH ?_
 ·
  intro w
  go_simp
 refine til_ready (rs:=[13]) (by kernel_rfl) (by simp) ?_
 refine TilR.cons rfl (fun K13 hK13=>?_) TilR.nil
 go_simp
 obtain ⟨u2,hu2,hBu2,hsu2,hbu2⟩:=boxes1 u1 #[.int .i64 0,.slice (some ⟨w.heap.size,0,none⟩) 1 1,.int .i64 (-2)] 140
 rw [<-hu2]
 have HU2:Hid (Below w.heap.size w u2):=HU1.out.trans (hBu2.mono HU1.out.size)
 have HT2:=mkHid hbu2
 have HB2:=mkHid hBu2
 refine hK13.out _ _ (fun _ _ p hp=>HU2.out.cell hp) ?_
 replace hH:∀p:Addr,p.block<w.heap.size->u2.cell? p=w.cell? p:=fun p hp=>HU2.out.cell hp
 clear hu2 hBu2 hsu2 hbu2
 refine til_ready (rs:=[14]) (by kernel_rfl) (by simp) ?_
 refine TilR.cons rfl (fun K14 hK14=>?_) TilR.nil
 go_simp
 obtain ⟨u9,hu9,hB9,hs9,hb9⟩:=boxes1 u2 #[.pointer (some ⟨u1.heap.size,0,none⟩)] 137
 rw [<-hu9]
 obtain ⟨u3,hu3⟩:∃u3,u3=u9.drew:=⟨_,rfl⟩
 rw [<-hu3]
 have HB9:Hid (Below u2.heap.size u2 u3):=by rw [hu3];exact hB9.drew
 have HU3:Hid (Below w.heap.size w u3):=HU2.out.trans (HB9.out.mono HU2.out.size)
 have HP3:Hid (u3.heap[u2.heap.size]? =some (.cells #[.pointer (some ⟨u1.heap.size,0,none⟩)] 137 (0,0))):=by rw [hu3];exact hb9
 refine hK14.out _ _ (fun _ _ p hp=>HU3.out.cell hp) ?_
 replace hH:∀p:Addr,p.block<w.heap.size->u3.cell? p=w.cell? p:=fun p hp=>HU3.out.cell hp
 clear hu9 hB9 hs9 hb9 hu3
 refine til_ready (rs:=[15]) (by kernel_rfl) (by simp) ?_
 refine TilR.cons rfl (fun K15 hK15=>?_) TilR.nil
 refine stp_append_nil u3 rfl (.tmp 8) (.tmp 18) 127 rfl 137 iP _ 1 8 Tryz.underlying127 hiP hzP0 hzP1 hzP2 rfl (by decide) (by go_simp) u2.heap.size 1 _ _ rfl (fun u hu=>by simp at hu;rw [hu];rfl) (by go_simp) HP3.out (by decide) ?_
 intro cP u4 ho4 hb4 hl4
 have HU4:Hid (Below w.heap.size w u4):=HU3.out.trans (hb4.mono HU3.out.size)
 have HO4:=mkHid ho4
 have HB4:=mkHid hb4
 refine hK15.out _ _ (fun _ _ p hp=>HU4.out.cell hp) ?_
 replace hH:∀p:Addr,p.block<w.heap.size->u4.cell? p=w.cell? p:=fun p hp=>HU4.out.cell hp
 have z24:=(HU4.out.cell (p:=⟨M,24,none⟩) lM).trans m24
 have zf:=frz_of ((HU4.out.block _ lM).trans HM.out)
 clear ho4 hb4 hl4
 refine til_pure 16 (.pointer (some ⟨M,0,none⟩)) rfl (by kernel_rfl) (by kernel_rfl) (fun _ _ _ h=>h) ?_ hH ?_
 ·
  intro w
  go_simp
 refine til_pure 17 (.pointer (some ⟨M,24,none⟩)) rfl (by kernel_rfl) (by kernel_rfl) (fun _ _ _ h=>h) ?_ hH ?_
 ·
  intro w
  go_simp
 refine til_ready (rs:=[18]) (by kernel_rfl) (by simp) ?_
 refine TilR.cons rfl (fun K18 hK18=>?_) TilR.nil
 go_simp
 refine hK18.out _ _ (fun h=>absurd rfl h) ?_
 refine til_done (by kernel_rfl) ?_ _
 clear hH
 try simp only [Act.put,List.setIfInBounds_toArray,List.set_cons_zero,List.set_cons_succ,List.getElem_toArray,List.getElem_cons_zero,List.getElem_cons_succ]
 go_wp2_with fail
 obtain ⟨-,⟨h1,-⟩ | ⟨gq,cq,cu,h1,h2,h3,h4,-,h5,h6⟩⟩:=HO4.out
 ·
  cases h1
 cases h1
 have hw:=HU1.out.size
 have b2:=HB2.out
 have b9:=HB9.out
 have b4:=HB4.out
 have l1:=lt_of HF1.out
 have l2:=lt_of HT2.out
 have l3:=lt_of HP3.out
 have t2:=((b4.block _ (Nat.lt_of_lt_of_le l2 b9.size)).trans (b9.block _ l2)).trans HT2.out
 have f2:=((b4.block _ (Nat.lt_of_lt_of_le (Nat.lt_of_lt_of_le l1 b2.size) b9.size)).trans ((b9.block _ (Nat.lt_of_lt_of_le l1 b2.size)).trans (b2.block _ l1))).trans HF1.out
 have m2:=(HU4.out.block _ lM).trans HM.out
 have ne:∀ {b:Nat},w.heap.size<=b->b≠M:=fun h e=>by omega
 have n2:=HU2.out.size
 have n3:=HU3.out.size
 exact bodyPost_end (results_none rfl _ _ _) rfl ⟨rfl,u3.heap.size,u1.heap.size,w.heap.size,cP,heap_setR m2 _,h4,cu,(Below.heap_setCell _ _ _ _ (ne n3)).trans h3,by
  have e0:cu.toList[0]? =some (.pointer (some ⟨u1.heap.size,0,none⟩)):=by
   have:=congrArg (fun l=>l[0]?) h6
   simpa using this
  simpa using e0,(Below.heap_setCell _ _ _ _ (ne hw)).trans t2,(Below.heap_setCell _ _ _ _ (ne (Nat.le_refl _))).trans f2,hw,n3,Nat.le_refl _,(Ky.of (M:=(· =M)) HU4.out).set rfl _ _⟩
end Go.Proofs.YtcddpmappmjilaaGreatDoor
namespace Go.Proofs.YtcddpmappmjilaaGreatDoor
open Go.RowKit Go.Maps
theorem part20 (w:World):Calls Tryz.prog 71 #[.int .i64 20] w fun r w'=>r=.returned (.bool true)/\w'=w:=by
 go_enter Tryz.func71,Tryz.ntmps71
 go_wp2_with fail
 go_ret
 exact ⟨rfl,rfl⟩
set_option maxRecDepth 100000 in
set_option maxHeartbeats 4000000 in
theorem new20 (w:World):Calls Tryz.prog 47 #[.int .i64 20,.int .i64 20] w fun r w'=>(∃g,r=.returned (.tuple #[.agg #[.slice (some ⟨g,0,none⟩) 41 41,.int .i64 20,.int .i64 20,.int .i64 1,.int .i64 21,.slice none 0 0,.int .i64 1],.int .i64 0])/\w.heap.size<=g/\w'.heap[g]? =some (.cells (madeCells #[.int .i64 0] 41) 3 (0,0)))/\Below w.heap.size w w':=by
 obtain ⟨iI,hiI,hzI0,hzI1,hzI2⟩:=info_parts Tryz.infoInt
 obtain ⟨mk,hmk⟩:∃mk,mk=madeCells #[.int .i64 0] 41:=⟨_,rfl⟩
 have rI:∀V,(Instr.makeSlice 23 (.int .i64 41) (.int .i64 41)).run Tryz.prog V=.ok (.slice (some ⟨V.heap.size,0,none⟩) 41 41) (V.alloc (.cells mk 3)):=fun V=>by
  have:=run_makeSlice (P:=Tryz.prog) V 23 3 iI (.int .i64 0) Tryz.underlying23 hiI hzI0 .i64 .i64 41 41 (by omega) (by omega) (by rw [hzI1];decide) (by rw [hzI2];decide) (by decide)
  rw [hzI1,show (Value.int .i64 0).cells=#[.int .i64 0] from rfl,show Int.toNat 41*1=41 from rfl,<-hmk]at this
  exact this
 rw [<-hmk]
 clear hmk
 have HP:Hid (∀W,Calls Tryz.prog 71 #[.int .i64 20] W fun r w'=>r=.returned (.bool true)/\w'=W):=part20
 go_enter Tryz.func47,Tryz.ntmps47
 go_wp2_with fail
 refine (HP.out _).mono ?_
 rintro r _ ⟨rfl,rfl⟩
 go_wp2_with fail
 refine (HP.out _).mono ?_
 rintro r _ ⟨rfl,rfl⟩
 go_wp2_with (rw [rI])
 exact bodyPost_ret (v:=.tuple #[.agg #[.slice (some ⟨w.heap.size+1,0,none⟩) 41 41,.int .i64 20,.int .i64 20,.int .i64 1,.int .i64 21,.slice none 0 0,.int .i64 1],.int .i64 0]) (by simp [results,Tryz.results47,go_sem]) rfl ⟨⟨_,rfl,Nat.le_succ _,(heap_alloc_old _ _ (by simp only [World.alloc,Array.size_push];omega)).trans (heap_alloc2_new _ _ _)⟩,(((Below.refl _ w).alloc (Nat.le_refl _) _).alloc (by simp only [World.alloc,Array.size_push];omega) _).alloc (by simp only [World.alloc,Array.size_push];omega) _⟩
end Go.Proofs.YtcddpmappmjilaaGreatDoor
namespace Go.Proofs.YtcddpmappmjilaaGreatDoor
open Go.RowKit Go.Maps
theorem part_old (w:World) (M g:Nat) (h0:w.cell? ⟨M,0,none⟩=some (.slice (some ⟨g,0,none⟩) 41 41)):Calls Tryz.prog 72 #[.pointer (some ⟨M,0,none⟩),.bool true] w fun r w'=>r=.returned (.tuple #[.pointer (some ⟨M,4,none⟩),.int .i64 41])/\Below w.heap.size w w':=by
 have HB:=mkHid (Below.refl w.heap.size w)
 go_enter Tryz.func72,Tryz.ntmps72
 go_wp2_with fail
 go_region
 all_goals
  go_wp2_with fail
  exact bodyPost_ret (results_tmp2 rfl _ _ _) rfl ⟨rfl,HB.out.drew⟩
theorem word_21 (w:World) (a b c:Value) (n:Int) (hn:0<=n/\n<=1):Calls Tryz.prog 110 #[.agg #[.int .i64 21,a,b,c],.int .i64 n] w fun r w'=>r=.returned (.int .i64 (24+n))/\Below w.heap.size w w':=by
 have HB:=mkHid fun o=>(Below.refl w.heap.size w).alloc (Nat.le_refl _) o
 have hw:IntKind.i64.wrap (24+n)=24+n:=wrap_i64_small _ (by omega) (by omega)
 clear hn
 go_enter Tryz.func110,Tryz.ntmps110
 go_wp2_with fail
 exact bodyPost_ret (results_tmp rfl _ _ _) rfl ⟨rfl,HB.out _⟩
theorem end_21 (w:World) (a c:Value):Calls Tryz.prog 73 #[.agg #[.int .i64 21,a,.int .i64 1,c]] w fun r w'=>r=.returned (.int .i64 25)/\Below w.heap.size w w':=by
 obtain ⟨W0,hW0,hB0,hs0,k0⟩:=boxes1 w #[.int .i64 21,a,.int .i64 1,c] 164
 have HW:=mkHid (word_21 W0 a (.int .i64 1) c 1 (by omega))
 have HW0:=mkHid hW0
 have HB0:=mkHid hB0
 clear hW0 hB0 hs0 k0
 go_enter Tryz.func73,Tryz.ntmps73
 go_wp2_with fail
 rw [<-HW0.out]
 refine HW.out.mono ?_
 rintro r w1 ⟨rfl,hb⟩
 have HB1:=mkHid (HB0.out.trans (hb.mono HB0.out.size))
 clear hb
 go_wp2_with fail
 exact bodyPost_ret (results_tmp rfl _ _ _) rfl ⟨rfl,HB1.out⟩
set_option maxRecDepth 100000 in
set_option maxHeartbeats 4000000 in
theorem thing_21 (w:World) (M g:Nat) (x y z:Int) (h0:w.cell? ⟨M,0,none⟩=some (.slice (some ⟨g,0,none⟩) 41 41)) (g0:w.cell? ⟨g,21,none⟩=some (.int .i64 x)) (g1:w.cell? ⟨g,22,none⟩=some (.int .i64 y)) (g2:w.cell? ⟨g,23,none⟩=some (.int .i64 z)):
 Calls Tryz.prog 75 #[.pointer (some ⟨M,0,none⟩),.int .i64 21] w fun r w'=>r=.returned (.agg #[.int .i64 21,.int .i64 x,.int .i64 y,.int .i64 z])/\Below w.heap.size w w':=by
 have HB:=mkHid ((Below.refl w.heap.size w).alloc (Nat.le_refl _) (.cells #[.int .i64 21,.int .i64 x,.int .i64 y,.int .i64 z] 164))
 have lM:M<w.heap.size:=World.block_lt_of_cell? w _ h0
 have lg:g<w.heap.size:=World.block_lt_of_cell? w _ g0
 go_enter Tryz.func75,Tryz.ntmps75
 go_wp2_with fail
 go_region
 all_goals
  go_wp2_with fail
  exact bodyPost_ret (v:=.agg #[.int .i64 21,.int .i64 x,.int .i64 y,.int .i64 z]) (by simp [results,Tryz.results75,go_sem]) rfl ⟨rfl,HB.out.drew⟩
end Go.Proofs.YtcddpmappmjilaaGreatDoor
