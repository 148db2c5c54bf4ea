import Derived.Test.YtcddpmappmjilaaGreatDoorJLEvLAsk
import Derived.Test.YtcddpmappmjilaaGreatDoorCdPlace
import Derived.BigQuiet
import Derived.Test.YtcddpmappmjilaaGreatDoorJLDifLFld
import Derived.Test.YtcddpmappmjilaaGreatDoorJLSetSpo
import Derived.Deep.AppendLies
import Derived.Test.YtcddpmappmjilaaGreatDoorTil
import Derived.Test.YtcddpmappmjilaaGreatDoorVkB
namespace Go.Proofs.YtcddpmappmjilaaGreatDoor
open Go.RowKit Go.Maps
abbrev thC (k:Int) (aF:Option Addr) (nf cF:Nat) (e:Int):Array Value:=#[.int .i64 k,.slice aF nf cF,.int .i64 e]
abbrev frC (X:Nat) (n:Int) (vL vK:Value):Array Value:=#[.pointer (some ⟨X,0,none⟩),.int .i64 n,vL,vK]
theorem ended_any (w:World) (T:Nat) (k:Int) (aF:Option Addr) (nf cF:Nat) (e:Int) (ht:w.heap[T]? =some (.cells (thC k aF nf cF e) 140 (0,0))):
 Calls Tryz.prog 118 #[.pointer (some ⟨T,0,none⟩)] w fun r w'=>r=.returned (.bool (decide (nf=0)))/\w'=w:=by
 have c1:=cell_of ht 1 (x:=.slice aF nf cF) rfl
 clear ht
 go_enter Tryz.func118,Tryz.ntmps118
 go_wp2_with fail
 go_ret
 exact ⟨by by_cases h:nf=0<;>simp [h],rfl⟩
set_option maxHeartbeats 1000000 in
theorem upper_any (w:World) (T:Nat) (k:Int) (bF oF j cF:Nat) (e:Int) (hj:j<1000) (F:Nat) (ht:w.heap[T]? =some (.cells (thC k (some ⟨bF,oF,none⟩) (j+1) cF e) 140 (0,0))) (hf:w.cell? ⟨bF,oF+j,none⟩=some (.pointer (some ⟨F,0,none⟩))):
 Calls Tryz.prog 128 #[.pointer (some ⟨T,0,none⟩)] w fun r w'=>r=.returned (.pointer (some ⟨F,0,none⟩))/\Below w.heap.size w w':=by
 have c1:=cell_of ht 1 (x:=.slice (some ⟨bF,oF,none⟩) (j+1) cF) rfl
 have hw1:IntKind.i64.wrap (((j+1:Nat):Int) - 1)=(j:Int):=by rw [show ((j+1:Nat):Int) - 1=(j:Int) by omega];exact wrap_i64_small _ (by omega) (by omega)
 have h0:(0:Int)<=j:=by omega
 have h1:(j:Int)<((j+1:Nat):Int):=by omega
 have HB:=mkHid (Below.refl w.heap.size w)
 clear ht
 go_enter Tryz.func128,Tryz.ntmps128
 go_wp2_with fail
 go_quiet (fail)
 go_wp2_with fail
 go_ret
 exact ⟨rfl,below_dn HB.out _⟩
set_option maxHeartbeats 1000000 in
theorem op_any (w:World) (F X n gI cI:Nat) (vL vK:Value) (ops:List Cd.Op4) (hf:w.heap[F]? =some (.cells (frC X n vL vK) 168 (0,0))) (hx:w.cell? ⟨X,9,none⟩=some (.slice (some ⟨gI,0,none⟩) ops.length cI)) (hh:Cd.Has w gI 0 ops) (hn:n<ops.length):
 Calls Tryz.prog 129 #[.pointer (some ⟨F,0,none⟩)] w fun r w'=>r=.returned (.agg #[.int .i64 (Cd.get4 ops n).loc,.int .i64 (Cd.get4 ops n).op,.int .i64 (Cd.get4 ops n).a,.int .i64 (Cd.get4 ops n).b])/\Below w.heap.size w w':=by
 have HB:=mkHid ((Below.refl w.heap.size w).alloc (Nat.le_refl _) (.cells #[.int .i64 (Cd.get4 ops n).loc,.int .i64 (Cd.get4 ops n).op,.int .i64 (Cd.get4 ops n).a,.int .i64 (Cd.get4 ops n).b] 199))
 have c0:=cell_of hf 0 (x:=.pointer (some ⟨X,0,none⟩)) rfl
 have c1:=cell_of hf 1 (x:=.int .i64 (n:Int)) rfl
 have i0:=hh.c0 n hn
 have i1:=hh.c1 n hn
 have i2:=hh.c2 n hn
 have i3:=hh.c3 n hn
 rw [Nat.zero_add]at i0 i1 i2 i3
 have h0:(0:Int)<=n:=by omega
 have h1:(n:Int)<ops.length:=by omega
 have lF:=lt_of hf
 have lX:X<w.heap.size:=World.block_lt_of_cell? w _ hx
 have lG:=hh.lt
 clear hf hh
 go_enter Tryz.func129,Tryz.ntmps129
 go_wp2_with fail
 go_region
 all_goals
  go_wp2_with fail
  exact bodyPost_ret (v:=.agg #[.int .i64 (Cd.get4 ops n).loc,.int .i64 (Cd.get4 ops n).op,.int .i64 (Cd.get4 ops n).a,.int .i64 (Cd.get4 ops n).b]) (by simp [results,Tryz.results129,go_sem]) rfl ⟨rfl,HB.out.drew⟩
structure Ky (M:Nat->Prop) (w w':World):Prop where
 os:w'.os=w.os
 tape:w'.tape=w.tape
 output:w'.output=w.output
 size:w.heap.size<=w'.heap.size
 block:∀k,k<w.heap.size->¬M k->w'.heap[k]? =w.heap[k]?
theorem Ky.refl (M:Nat->Prop) (w:World):Ky M w w:=⟨rfl,rfl,rfl,Nat.le_refl _,fun _ _ _=>rfl⟩
theorem Ky.trans {M:Nat->Prop} {a b c:World} (h:Ky M a b) (k:Ky M b c):Ky M a c:=
 ⟨k.os.trans h.os,k.tape.trans h.tape,k.output.trans h.output,Nat.le_trans h.size k.size,fun i hi hM=>(k.block i (Nat.lt_of_lt_of_le hi h.size) hM).trans (h.block i hi hM)⟩
theorem Ky.of {M:Nat->Prop} {w w':World} (h:Below w.heap.size w w'):Ky M w w':=⟨h.os,h.tape,h.output,h.size,fun k hk _=>h.block k hk⟩
theorem Ky.mono {M M':Nat->Prop} {w w':World} (h:Ky M w w') (hM:∀b,M b->M' b):Ky M' w w':=⟨h.os,h.tape,h.output,h.size,fun k hk hk'=>h.block k hk fun hm=>hk' (hM k hm)⟩
theorem Ky.below {M:Nat->Prop} {w w':World} {B:Nat} (h:Ky M w w') (hM:∀b,M b->B<=b) (hB:B<=w.heap.size):Below B w w':=
 ⟨h.os,h.tape,h.output,h.size,fun k hk=>h.block k (by omega) fun hm=>by have:=hM k hm;omega⟩
theorem Ky.set {M:Nat->Prop} {w w':World} (h:Ky M w w') {b:Nat} (hM:M b) (j:Nat) (u:Value):Ky M w (w'.setCell ⟨b,j,none⟩ u):=
 ⟨h.os,h.tape,h.output,by have:=h.size;simpa [World.setCell]using this,fun k hk hk'=>(Below.heap_setCell _ _ _ _ (fun e=>hk' (by rw [e];exact hM))).trans (h.block k hk hk')⟩
theorem Ky.drew {M:Nat->Prop} {w w':World} (h:Ky M w w'):Ky M w w'.drew:=⟨h.os,h.tape,h.output,h.size,h.block⟩
theorem Ky.alloc {M:Nat->Prop} {w w':World} (h:Ky M w w') (o:Obj):Ky M w (w'.alloc o):=
 ⟨h.os,h.tape,h.output,Nat.le_trans h.size (by simp),fun k hk hk'=>(Below.heap_alloc _ _ _ (Nat.lt_of_lt_of_le hk h.size)).trans (h.block k hk hk')⟩
theorem heap_setR {W:World} {k j t:Nat} {cs:Array Value} {fr:Nat×Nat} (h:W.heap[k]? =some (.cells cs t fr)) (v:Value):(W.setCell ⟨k,j,none⟩ v).heap[k]? =some (.cells (cs.setIfInBounds j v) t fr):=by
 simp [World.setCell,Array.getElem?_modify,h]
theorem sliced0 (a:Option Addr) (h m s:Nat):sliced a 0 h m s=.slice a h m:=by
 unfold sliced
 rw [Nat.zero_mul]
 cases a with
 | none=>simp
 | some x=>simp [Addr.add]
set_option maxRecDepth 100000 in
set_option maxHeartbeats 1000000 in
theorem drop_any (w:World) (F X:Nat) (n:Int) (vL:Value) (aK:Option Addr) (nK cK k:Nat) (hk:k<=nK) (hc:nK<=cK) (hs:nK<=1000) (hf:w.heap[F]? =some (.cells (frC X n vL (.slice aK nK cK)) 168 (0,0))):
 Calls Tryz.prog 323 #[.pointer (some ⟨F,0,none⟩),.int .i64 (k:Int)] w fun r w'=>r=.returned (.tuple #[])/\w'.heap[F]? =some (.cells (frC X n vL (.slice aK (nK - k) cK)) 168 (0,0))/\Ky (· =F) w w':=by
 have c3:=cell_of hf 3 (x:=.slice aK nK cK) rfl
 have cf:=frz_of hf 3
 have lF:=lt_of hf
 have HF:=mkHid hf
 have hw1:IntKind.i64.wrap ((nK:Int) - (k:Int))=((nK - k:Nat):Int):=by rw [show (nK:Int) - (k:Int)=((nK - k:Nat):Int) by omega];exact wrap_i64_small _ (by omega) (by omega)
 have r9:∀V,(Instr.slice 23 (.slice aK nK cK) none (some (.int .i64 ((nK - k:Nat):Int))) none).run Tryz.prog V=.ok (.slice aK (nK - k) cK) V:=fun V=>by
  rw [run_slice_h V 23 _ _ _ Tryz.underlying23 .i64 ((nK - k:Nat):Int) (by omega) (by omega)]
  show Result.ok (sliced aK 0 (((nK - k:Nat):Int)).toNat cK 1) V=_
  rw [Int.toNat_natCast,sliced0]
 clear hf
 go_enter Tryz.func323,Tryz.ntmps323
 go_wp2_with fail
 go_region
 all_goals
  go_wp2_with fail
  go_end0
  exact ⟨rfl,heap_setR (W:=w) HF.out _,((Ky.refl (· =F) w).set rfl _ _).drew⟩
end Go.Proofs.YtcddpmappmjilaaGreatDoor
namespace Go.Proofs.YtcddpmappmjilaaGreatDoor
open Go.RowKit Go.Maps
def intV (ns:List Int):List Value:=ns.map fun x=>.int .i64 x
theorem intV_app (a b:List Int):intV (a++b)=intV a++intV b:=by simp [intV]
theorem intV_len (l:List Int):(intV l).length=l.length:=by simp [intV]
theorem SL.intV {M:Nat->Prop} {w:World} {b off len cap:Nat} {l:List Int} (h:SL 1 RI M w (.slice (some ⟨b,off,none⟩) len cap) l):∀j u,(intV l)[j]? =some u->w.cell? ((⟨b,off,none⟩:Addr).add j)=some u:=by
 intro j u hu
 have hj:j<l.length:=by rw [<-intV_len l];exact (List.getElem?_eq_some_iff.1 hu).1
 obtain ⟨b',off',e,-,e0⟩:=h.atI j hj
 cases e
 have:u=.int .i64 l[j]:=by
  rw [Go.Proofs.YtcddpmappmjilaaGreatDoor.intV,List.getElem?_map,List.getElem?_eq_getElem hj]at hu
  exact (Option.some.inj hu).symm
 rw [this,addr_add]
 exact e0
theorem wpList_append_ints {ops:Array Oper} {rest:List Oper} {o:Oper} {a:Act} {Q:Exit->Act->World->Prop} (w:World) (hgd:o.guard=none) (s x:Operand)
 (ho:o.op=.call { callee:=.builtin .append,args:=#[s,x],argTypes:=#[23,23] }) (base:Nat) (v:Value) (xs:List Int) (hs:a.eval s=v) (hown:w.ownsRow base 3 1 v xs.length (intV xs))
 (M:Nat->Prop) (u:Value) (l:List Int) (hx:a.eval x=u) (hu:SL 1 RI M w u l) (hb:xs.length+l.length<=1000000) (hbase:base<=w.heap.size)
 (h:∀v' w',w'.ownsRow base 3 1 v' (xs++l).length (intV (xs++l))->w.grownBy w' v.ownBlock->wpList Tryz.prog ops Q rest (a.put o.dst v') w'):wpList Tryz.prog ops Q (o::rest) a w:=by
 obtain ⟨iI,hiI,hzI0,hzI1,hzI2⟩:=info_parts Tryz.infoInt
 have HU:=hu
 obtain ⟨ao,cl,rfl,-,-,hel⟩:=hu
 cases l with
 | nil=>
   obtain ⟨av,cv,rfl⟩:=own_shape hown
   have hoa:=own_app hown
   refine wpList_append_none w hgd s x 23 ho 3 iI Tryz.underlying23 hiI av xs.length cv hs hoa.1 hoa.2 ao cl hx ?_
   exact h _ _ (by simpa using hown) (World.grownBy.refl _ _)
 | cons y l=>
   obtain ⟨b,off,cs,e,-⟩:=hel 0 (by simp)
   subst e
   refine wpList_append_lies w hgd s x 23 ho base 3 iI (.int .i64 0) 1 8 Tryz.underlying23 hiI hzI0 hzI1 hzI2 rfl (by decide) v xs.length (intV xs) hs hown ⟨b,off,none⟩ (y::l).length cl (intV (y::l)) hx (by rw [intV_len];simp) HU.intV (by
    intro u hu
    obtain ⟨z,-,rfl⟩:=List.mem_map.1 hu
    rfl) (by simp) (by unfold maxLen;omega) (by omega) hbase w.heap.size rfl ?_
   intro g cap w' h1 h2 _ _
   refine h _ _ ?_ h2
   rw [intV_app,List.length_append]
   exact h1
end Go.Proofs.YtcddpmappmjilaaGreatDoor
namespace Go.Proofs.YtcddpmappmjilaaGreatDoor
open Go.RowKit Go.Maps
abbrev OwnI (w:World) (B:Nat) (v:Value) (l:List Int):Prop:=w.ownsRow B 3 1 v l.length (intV l)
theorem own_cut {w:World} {B:Nat} {a:Option Addr} {c:Nat} {l:List Int} (h:OwnI w B (.slice a l.length c) l) (k:Nat) (hk:k<=l.length):OwnI w B (.slice a k c) (l.take k):=by
 have hl:(l.take k).length=k:=by simp;omega
 refine ⟨by simp [intV],?_⟩
 rw [hl]
 rcases h.2 with ⟨e,h0⟩ | ⟨g,cap,cur,e,hB,hg,hc,hm,hs,ht⟩
 ·
  obtain ⟨rfl,h1,rfl⟩:a=none/\l.length=0/\c=0:=by simpa using e
  have:k=0:=by omega
  subst this
  exact Or.inl ⟨rfl,rfl⟩
 cases e
 refine Or.inr ⟨g,c,cur,rfl,hB,hg,by omega,hm,hs,?_⟩
 have h1:=congrArg (List.take (k*1)) ht
 rw [List.take_take,Nat.min_eq_left (by omega)]at h1
 rw [h1,Nat.mul_one]
 simp [intV,List.map_take]
theorem own_same {w w':World} {B e n len:Nat} {v:Value} {xs:List Value} (h:w.ownsRow B e n v len xs) (he:∀g,v.ownBlock=some g->w'.heap[g]? =w.heap[g]?):w'.ownsRow B e n v len xs:=by
 refine ⟨h.1,?_⟩
 rcases h.2 with h2 | ⟨g,cap,cur,e2,hB,hg,h3⟩
 ·
  exact Or.inl h2
 exact Or.inr ⟨g,cap,cur,e2,hB,(he g (by rw [e2];rfl)).trans hg,h3⟩
theorem own_not {w:World} {B e n len F t:Nat} {v:Value} {xs:List Value} {cs:Array Value} (h:w.ownsRow B e n v len xs) (hf:w.heap[F]? =some (.cells cs t (0,0))) (hne:e≠t):v.ownBlock≠some F:=fun e1=>by
 rcases h.2 with ⟨e2,-⟩ | ⟨g,cap,cur,e2,-,hg,-⟩
 ·
  rw [e2]at e1;cases e1
 rw [e2]at e1
 cases e1
 rw [hg]at hf
 cases hf
 exact hne rfl
theorem Ky.grown {M:Nat->Prop} {w w' w'':World} {row:Option Nat} (h:Ky M w w') (hg:w'.grownBy w'' row) (hr:∀b,row=some b->M b\/w.heap.size<=b):Ky M w w'':=
 ⟨hg.os.trans h.os,hg.tape.trans h.tape,hg.output.trans h.output,Nat.le_trans h.size hg.size,fun k hk hM=>(hg.block k (Nat.lt_of_lt_of_le hk h.size) (fun e=>by
  rcases hr k e.symm with h1 | h1
  ·
   exact hM h1
  omega)).trans (h.block k hk hM)⟩
set_option maxRecDepth 100000 in
set_option maxHeartbeats 2000000 in
theorem goOn_any (w:World) (B F X:Nat) (n:Int) (vL vK:Value) (st ps:List Int) (k:Nat) (hk:k<=st.length) (hs:st.length<=100) (hp:ps.length<=100) (hn:0<=n/\n<=1000) (M:Nat->Prop) (vP:Value) (hP:SL 1 RI M w vP ps) (hM:∀b,M b->b≠F) (hf:w.heap[F]? =some (.cells (frC X n vL vK) 168 (0,0))) (ho:OwnI w B vK st) (hB:B<=w.heap.size):
 Calls Tryz.prog 272 #[.pointer (some ⟨F,0,none⟩),.int .i64 (k:Int),vP] w fun r w'=>r=.returned (.tuple #[])/\∃vK',w'.heap[F]? =some (.cells (frC X (n+1) vL vK') 168 (0,0))/\OwnI w' B vK' (st.take (st.length - k)++ps)/\Ky (fun b=>b=F\/vK.ownBlock=some b) w w':=by
 have hF:vK.ownBlock≠some F:=own_not ho hf (by decide)
 obtain ⟨aK,cK,rfl⟩:=own_shape ho
 have hoa:=own_app ho
 have HD:=mkHid (drop_any w F X n vL aK st.length cK k hk hoa.1 (by omega) hf)
 have HO:=mkHid ho
 have HP:=mkHid hP
 have HFN:=mkHid hF
 obtain ⟨aP,cP,rfl,-⟩:=hP
 have hwn:IntKind.i64.wrap (n+1)=n+1:=wrap_i64_small _ (by omega) (by omega)
 have lF:=lt_of hf
 clear ho hf hoa hF
 go_enter Tryz.func272,Tryz.ntmps272
 go_wp2_with fail
 refine HD.out.mono ?_
 rintro r w1 ⟨rfl,hf1,hk1⟩
 have c3:=cell_of hf1 3 (x:=.slice aK (st.length - k) cK) rfl
 have HF1:=mkHid hf1
 have HK1:=mkHid hk1
 have lF1:=lt_of hf1
 have HB1:Hid (B<=w1.heap.size):=Nat.le_trans hB hk1.size
 have HO1:Hid (OwnI w1 B (.slice aK (st.take (st.length - k)).length cK) (st.take (st.length - k))):=by
  have h9:=own_same (own_cut HO.out (st.length - k) (by omega)) (w':=w1) (fun g e=>hk1.block g ((HO.out.lt g (by cases aK<;>exact e)).2) (fun e2=>HFN.out (by rw [<-e2];cases aK<;>exact e)))
  have hl:(st.take (st.length - k)).length=st.length - k:=by simp
  rw [hl]
  exact h9
 have HP1:Hid (SL 1 RI M w1 (.slice aP ps.length cP) ps):=HP.out.keptI ⟨hk1.size,fun b hb hl=>hk1.block b hl (hM b hb)⟩
 have hl9:(st.take (st.length - k)).length=st.length - k:=by simp
 have HL9:=mkHid hl9
 obtain ⟨st1,hst1⟩:∃s,s=st.take (st.length - k):=⟨_,rfl⟩
 rw [<-hst1]at HO1 HL9
 have HST:=mkHid hst1
 rw [<-HL9.out]at c3
 have HSL:Hid (st1.length<=100):=by have:=HL9.out;show _<=_;omega
 obtain ⟨m,hm⟩:∃m,m=(st1++ps).length:=⟨_,rfl⟩
 have HMM:=mkHid hm
 clear hf1 hk1 hl9 hst1 hm
 go_wp2_with (at_builtin;refine wpList_append_ints _ rfl _ _ rfl B (.slice aK st1.length cK) st1 rfl HO1.out M (.slice aP ps.length cP) ps rfl HP1.out (by have:=HSL.out;omega) HB1.out ?_;intro v2 w2 ho2 hg2;have hf2:=(hg2.block F lF1 (fun e=>HFN.out (by cases aK<;>exact e.symm))).trans HF1.out;have d3:=cell_of hf2 3 (x:=.slice aK (st.length - k) cK) rfl;have d1:=cell_of hf2 1 (x:=.int .i64 n) rfl;have df:=frz_of hf2;obtain ⟨a9,c9,e9⟩:=own_shape ho2;rw [<-HMM.out]at e9;subst e9;have HO2:=mkHid ho2;have HG2:=mkHid hg2;have HF2:=mkHid hf2;clear ho2 hg2 hf2)
 go_end0
 have hky:Ky (fun b=>b=F\/(Value.slice aK st.length cK).ownBlock=some b) w w2:=(HK1.out.mono fun b h=>Or.inl h).grown HG2.out (fun b e=>Or.inl (Or.inr (by cases aK<;>exact e)))
 have hne:(Value.slice a9 m c9).ownBlock≠some F:=own_not HO2.out HF2.out (by decide)
 rw [<-HST.out]
 refine ⟨rfl,.slice a9 m c9,heap_setR (heap_setR HF2.out _) _,own_same HO2.out (fun g e=>?_),(hky.set (Or.inl rfl) _ _).set (Or.inl rfl) _ _⟩
 have hgF:g≠F:=fun e2=>hne (by rw [<-e2];exact e)
 exact (Below.heap_setCell _ _ _ _ hgF).trans (Below.heap_setCell _ _ _ _ hgF)
end Go.Proofs.YtcddpmappmjilaaGreatDoor
namespace Go.Proofs.YtcddpmappmjilaaGreatDoor
open Go.RowKit Go.Maps
abbrev mcC (vW:Value) (ot nx:Int) (kC kS kF kN kT vM:Value) (fu:Int) (vT vP vE:Value) (en st9:Int):Array Value:=#[vW,.int .i64 20,.int .i64 20,.int .i64 1,.int .i64 ot,.slice none 0 0,.int .i64 nx,kC,kS,kF,kN,kT,.slice none 0 0,.slice none 0 0,.slice none 0 0,.slice none 0 0,.slice none 0 0,.int .i64 20,.int .i64 20,.int .i64 10,vM,.int .i64 0,.int .i64 1,.int .i64 fu,vT,.slice none 0 0,.slice none 0 0,vP,vE,.int .i64 en,.int .i64 st9,.bool false]
abbrev spV (M T F:Nat) (x:Cd.Op4):Value:=.agg #[.pointer (some ⟨M,0,none⟩),.pointer (some ⟨T,0,none⟩),.pointer (some ⟨F,0,none⟩),.int .i64 x.loc,.int .i64 x.op,.int .i64 x.a,.int .i64 x.b]
set_option maxRecDepth 100000 in
set_option maxHeartbeats 1000000 in
theorem last1_any (w:World) (F X:Nat) (n:Int) (vL:Value) (aK:Option Addr) (cK:Nat) (hf:w.heap[F]? =some (.cells (frC X n vL (.slice aK 1 cK)) 168 (0,0))):
 Calls Tryz.prog 185 #[.pointer (some ⟨F,0,none⟩),.int .i64 1] w fun r w'=>r=.returned (.slice aK 1 cK)/\Below w.heap.size w w':=by
 have c3:=cell_of hf 3 (x:=.slice aK 1 cK) rfl
 have HB:=mkHid (Below.refl w.heap.size w)
 have r9:∀V,(Instr.slice 23 (.slice aK 1 cK) (some (.int .i64 0)) none none).run Tryz.prog V=.ok (.slice aK 1 cK) V:=fun V=>by
  rw [run_slice_l V 23 _ _ _ Tryz.underlying23 .i64 0 (by omega) (by omega)]
  show Result.ok (sliced aK 0 1 cK 1) V=_
  rw [sliced0]
 clear hf
 go_enter Tryz.func185,Tryz.ntmps185
 go_wp2_with fail
 go_quiet (fail)
 go_wp2_with fail
 go_ret
 exact ⟨rfl,below_dn HB.out _⟩
theorem one_RI {W:World} {X t:Nat} {a:Int} (h:W.heap[X]? =some (.cells #[.int .i64 a] t (0,0))):SL 1 RI (· =X) W (.slice (some ⟨X,0,none⟩) 1 1) [a]:=
 ⟨_,_,rfl,Nat.le_refl _,by unfold maxLen;simp,fun k hk=>⟨X,0,[.int .i64 a],rfl,rfl,lt_of h,rfl,fun j hj=>by
   have h0:k=0:=by simpa using hk
   have h1:j=0:=by omega
   subst h0
   subst h1
   exact cell_of h 0 rfl,by
   have h0:k=0:=by simpa using hk
   subst h0
   rfl⟩⟩
theorem nil_RI (M:Nat->Prop) (w:World):SL 1 RI M w (.slice none 0 0) []:=⟨none,0,rfl,Nat.le_refl _,Nat.zero_le _,fun k hk=>by cases hk⟩
set_option maxRecDepth 100000 in
set_option maxHeartbeats 1000000 in
theorem shift1_any (w:World) (M T B F X:Nat) (n:Int) (vL vK:Value) (st:List Int) (hs:st.length<=100) (hn:0<=n/\n<=1000) (x:Cd.Op4) (hop:x.op=1) (hf:w.heap[F]? =some (.cells (frC X n vL vK) 168 (0,0))) (ho:OwnI w B vK st) (hB:B<=w.heap.size):
 Calls Tryz.prog 208 #[spV M T F x] w fun r w'=>r=.returned (.int .i64 0)/\∃vK',w'.heap[F]? =some (.cells (frC X (n+1) vL vK') 168 (0,0))/\OwnI w' B vK' (st++ [x.a])/\Ky (fun b=>b=F\/vK.ownBlock=some b) w w':=by
 obtain ⟨W0,hW0,hB0,hs0,k0,k1⟩:=boxes2 w #[.pointer (some ⟨M,0,none⟩),.pointer (some ⟨T,0,none⟩),.pointer (some ⟨F,0,none⟩),.int .i64 x.loc,.int .i64 x.op,.int .i64 x.a,.int .i64 x.b] #[.int .i64 x.a] 202 3
 have lF:=lt_of hf
 have HG:=mkHid (goOn_any W0 B F X n vL vK st [x.a] 0 (Nat.zero_le _) hs (by simp) hn (· =w.heap.size+1) _ (one_RI k1) (fun b h=>by omega) ((hB0.block _ lF).trans hf) (own_same ho (fun g e=>hB0.block g (ho.lt g e).2)) (Nat.le_trans hB hB0.size))
 rw [Nat.sub_zero,List.take_length]at HG
 have HW:=mkHid hW0
 have HB0:=mkHid hB0
 clear hf ho hW0 hB0 hs0 k0 k1
 unfold spV
 rw [hop]at*
 clear hop
 go_enter Tryz.func208,Tryz.ntmps208
 go_wp2_with fail
 rw [<-HW.out]
 refine HG.out.mono ?_
 rintro r w1 ⟨rfl,vK1,h1,h2,h3⟩
 have HK:=mkHid (And.intro h1 (And.intro h2 ((Ky.of HB0.out).trans h3)))
 clear h1 h2 h3
 go_wp2_with fail
 go_ret
 exact ⟨rfl,vK1,HK.out⟩
end Go.Proofs.YtcddpmappmjilaaGreatDoor
namespace Go.Proofs.YtcddpmappmjilaaGreatDoor
open Go.RowKit Go.Maps
theorem stp_append_nil {ops:Array Oper} {o:Oper} {a:Act} {K:Act->World->Prop} {Q:Exit->Act->World->Prop} {E:Prop} (w:World) (hgd:o.guard=none) (s x:Operand) (t:TypeId)
 (ho:o.op=.call { callee:=.builtin .append,args:=#[s,x],argTypes:=#[t,t] }) (e:TypeId) (i:TypeInfo) (z:Value) (size bytes:Nat) (ht:Tryz.prog.underlying t=some (.slice e)) (hi:Tryz.prog.info? e=some i) (hz:i.zero=some z)
 (hsize:i.size=size) (hby:i.bytes=bytes) (hzs:z.cells.size=size) (hsz:0<size) (hs:a.eval s=.slice none 0 0) (Y c ty:Nat) (cs:Array Value) (hcs:cs.size=size) (h1:∀u∈cs.toList,u.oneCell'=true) (hx:a.eval x=.slice (some ⟨Y,0,none⟩) 1 c)
 (hY:w.heap[Y]? =some (.cells cs ty (0,0))) (hb:bytes<=1000)
 (h:∀cap w',w'.ownsRow w.heap.size e size (.slice (some ⟨w.heap.size,0,none⟩) 1 cap) 1 cs.toList->Below w.heap.size w w'->w.heap.size<w'.heap.size->K (a.put o.dst (.slice (some ⟨w.heap.size,0,none⟩) 1 cap)) w'):if Region.wanted o (yielded ops a.tmps)=true then Oper.wp Tryz.prog o a w K Q else E:=by
 refine step_append_lies w hgd s x t ho w.heap.size e i z size bytes ht hi hz hsize hby hzs hsz (.slice none 0 0) 0 [] hs ⟨by simp,Or.inl ⟨rfl,rfl⟩⟩ ⟨Y,0,none⟩ 1 c cs.toList hx (by simp [hcs]) (fun j u hu=>?_) h1 (by decide) (by decide) (by omega) (Nat.le_refl _) w.heap.size rfl ?_
 ·
  have hj:j<cs.toList.length:=(List.getElem?_eq_some_iff.1 hu).1
  rw [addr_add,Nat.zero_add]
  exact cell_of hY j (by rw [<-Array.getElem?_toList];exact hu)
 intro g cap w' h2 h3 h4 h5
 rcases h4 with h4 | rfl
 ·
  cases h4
 exact h cap w' h2 ((Below.refl _ _).grown h3 (Nat.le_refl _) (fun k e=>by cases e)) h5
theorem Tryz.infoLine:(Tryz.prog.info? 48).map (fun i=>(i.zero,i.size,i.bytes))=some (some (.agg #[.int .i64 0,.int .i64 0]),2,16):=by kernel_rfl
set_option maxRecDepth 100000 in
set_option maxHeartbeats 2000000 in
theorem tell31_any (w:World) (M T B F X:Nat) {vW kC kS kF kN kT vM vT vE:Value} {ot nx fu en st9:Int} (k e:Int) (aF:Option Addr) (nf cF:Nat) (n:Int) (vL:Value) (gK cK:Nat) (a:Int) (hn:0<=n/\n<=1000) (x:Cd.Op4) (hop:x.op=31) (hm:w.heap[M]? =some (.cells (mcC vW ot nx kC kS kF kN kT vM fu vT (.slice none 0 0) vE en st9) 130 (0,0)))
 (ht:w.heap[T]? =some (.cells (thC k aF nf cF e) 140 (0,0))) (hf:w.heap[F]? =some (.cells (frC X n vL (.slice (some ⟨gK,0,none⟩) 1 cK)) 168 (0,0))) (ho:OwnI w B (.slice (some ⟨gK,0,none⟩) 1 cK) [a]) (hB:B<=w.heap.size):
 Calls Tryz.prog 207 #[spV M T F x] w fun r w'=>r=.returned (.int .i64 0)/\(∃vK',w'.heap[F]? =some (.cells (frC X (n+1) vL vK') 168 (0,0))/\OwnI w' B vK' [])/\(∃g c,w'.heap[M]? =some (.cells (mcC vW ot nx kC kS kF kN kT vM fu vT (.slice (some ⟨g,0,none⟩) 1 c) vE en st9) 130 (0,0))/\w'.cell? ⟨g,0,none⟩=some (.int .i64 k)/\w'.cell? ⟨g,1,none⟩=some (.int .i64 a)/\(∃cur,w'.heap[g]? =some (.cells cur 48 (0,0)))/\w.heap.size<=g)/\Ky (fun b=>b=F\/b=M\/b=gK) w w':=by
 obtain ⟨iL,hiL,hzL0,hzL1,hzL2⟩:=info_parts Tryz.infoLine
 obtain ⟨W0,hW0,hB0,hs0,k0⟩:=boxes1 w #[.pointer (some ⟨M,0,none⟩),.pointer (some ⟨T,0,none⟩),.pointer (some ⟨F,0,none⟩),.int .i64 x.loc,.int .i64 x.op,.int .i64 x.a,.int .i64 x.b] 202
 have lMw:=lt_of hm
 have hm0:=(hB0.block _ (lt_of hm)).trans hm
 have ht0:=(hB0.block _ (lt_of ht)).trans ht
 have hf0:=(hB0.block _ (lt_of hf)).trans hf
 have ho0:=own_same ho (w':=W0) (fun g e=>hB0.block g (ho.lt g e).2)
 have a0:W0.cell? ⟨gK,0,none⟩=some (.int .i64 a):=by
  have:=ho0.cells (g:=gK) rfl 0 (.int .i64 a) rfl
  rw [addr_add]at this
  exact this
 have HW:=mkHid hW0
 have HB0:=mkHid hB0
 have HS0:=mkHid hs0
 have lM:=lt_of hm0
 have lT:=lt_of ht0
 have lF:=lt_of hf0
 have lS:=lt_of k0
 have lK:gK<W0.heap.size:=(ho0.lt gK rfl).2
 have hKM:gK≠M:=fun e=>own_not ho0 hm0 (by decide) (by rw [<-e];rfl)
 have hFM:F≠M:=fun e=>by rw [e,hm0]at hf0;cases hf0
 have s0:=cell_of k0 0 (x:=.pointer (some ⟨M,0,none⟩)) rfl
 have s1:=cell_of k0 1 (x:=.pointer (some ⟨T,0,none⟩)) rfl
 have s2:=cell_of k0 2 (x:=.pointer (some ⟨F,0,none⟩)) rfl
 have HK0:=mkHid k0
 have m27:=cell_of hm0 27 (x:=.slice none 0 0) rfl
 have t0:=cell_of ht0 0 (x:=.int .i64 k) rfl
 have HM0:=mkHid hm0
 have HF0:=mkHid hf0
 have HO0:=mkHid ho0
 have HLA:Hid (∀V,Below W0.heap.size W0 V->Calls Tryz.prog 185 #[.pointer (some ⟨F,0,none⟩),.int .i64 1] V fun r w'=>r=.returned (.slice (some ⟨gK,0,none⟩) 1 cK)/\Below V.heap.size V w'):=fun V hV=>last1_any V F X n vL _ cK ((hV.block _ lF).trans HF0.out)
 have hop':x.op=31:=hop
 clear hm ht hf ho hW0 hB0 hs0 k0 hm0 ht0 hf0 ho0
 unfold spV
 rw [hop]at*
 clear hop hop'
 go_enter Tryz.func207,Tryz.ntmps207
 go_wp2_with fail
 rw [<-HW.out]
 refine wp_region_til (fun W'=>∀p:Addr,p.block<W0.heap.size->W'.cell? p=W0.cell? p) 24 (by kernel_rfl) (fun p hp=>rfl) fun hH=>?_
 refine til_pure 0 (.pointer (some ⟨w.heap.size,0,none⟩)) rfl (by kernel_rfl) (by kernel_rfl) (fun _ _ _ h=>h) ?_ hH ?_
 ·
  intro w
  go_simp
 refine til_take 1 (.pointer (some ⟨M,0,none⟩)) rfl (by kernel_rfl) (by kernel_rfl) (by kernel_rfl) (fun _ _ _ h=>h) ?_ hH ?_
 ·
  intro w hSw;go_simp
 refine til_pure 2 (.pointer (some ⟨w.heap.size,0,none⟩)) rfl (by kernel_rfl) (by kernel_rfl) (fun _ _ _ h=>h) ?_ hH ?_
 ·
  intro w
  go_simp
 refine til_take 3 (.pointer (some ⟨M,0,none⟩)) rfl (by kernel_rfl) (by kernel_rfl) (by kernel_rfl) (fun _ _ _ h=>h) ?_ hH ?_
 ·
  intro w hSw;go_simp
 refine til_pure 4 (.pointer (some ⟨M,0,none⟩)) rfl (by kernel_rfl) (by kernel_rfl) (fun _ _ _ h=>h) ?_ hH ?_
 ·
  intro w
  go_simp
 refine til_pure 5 (.pointer (some ⟨M,27,none⟩)) rfl (by kernel_rfl) (by kernel_rfl) (fun _ _ _ h=>h) ?_ hH ?_
 ·
  intro w
  go_simp
 refine til_pure 6 (.pointer (some ⟨M,27,none⟩)) rfl (by kernel_rfl) (by kernel_rfl) (fun _ _ _ h=>h) ?_ hH ?_
 ·
  intro w
  go_simp
 refine til_take 7 (.slice none 0 0) rfl (by kernel_rfl) (by kernel_rfl) (by kernel_rfl) (fun _ _ _ h=>h) ?_ hH ?_
 ·
  intro w hSw;go_simp
 refine til_pure 8 (.pointer (some ⟨w.heap.size,1,none⟩)) rfl (by kernel_rfl) (by kernel_rfl) (fun _ _ _ h=>h) ?_ hH ?_
 ·
  intro w
  go_simp
 refine til_take 9 (.pointer (some ⟨T,0,none⟩)) rfl (by kernel_rfl) (by kernel_rfl) (by kernel_rfl) (fun _ _ _ h=>h) ?_ hH ?_
 ·
  intro w hSw;go_simp
 refine til_pure 10 (.pointer (some ⟨T,0,none⟩)) rfl (by kernel_rfl) (by kernel_rfl) (fun _ _ _ h=>h) ?_ hH ?_
 ·
  intro w
  go_simp
 refine til_pure 11 (.pointer (some ⟨T,0,none⟩)) rfl (by kernel_rfl) (by kernel_rfl) (fun _ _ _ h=>h) ?_ hH ?_
 ·
  intro w
  go_simp
 refine til_take 12 (.int .i64 k) rfl (by kernel_rfl) (by kernel_rfl) (by kernel_rfl) (fun _ _ _ h=>h) ?_ hH ?_
 ·
  intro w hSw;go_simp
 refine til_pure 13 (.pointer (some ⟨w.heap.size,2,none⟩)) rfl (by kernel_rfl) (by kernel_rfl) (fun _ _ _ h=>h) ?_ hH ?_
 ·
  intro w
  go_simp
 refine til_take 14 (.pointer (some ⟨F,0,none⟩)) rfl (by kernel_rfl) (by kernel_rfl) (by kernel_rfl) (fun _ _ _ h=>h) ?_ hH ?_
 ·
  intro w hSw;go_simp
 refine til_ready (rs:=[15]) (by kernel_rfl) (by simp) ?_
 refine TilR.cons rfl (fun K15 hK15=>?_) TilR.nil
 go_simp
 refine (HLA.out _ ((Below.refl _ _).drew)).mono ?_
 rintro r u5 ⟨rfl,hu5⟩
 have HU5:Hid (Below W0.heap.size W0 u5):=(Below.refl _ _).drew.trans hu5
 refine hK15.out _ _ (fun _ _ p hp=>HU5.out.cell hp) ?_
 replace hH:∀p:Addr,p.block<W0.heap.size->u5.cell? p=W0.cell? p:=fun p hp=>HU5.out.cell hp
 clear hu5
 refine til_pure 16 (.pointer (some ⟨gK,0,none⟩)) rfl (by kernel_rfl) (by kernel_rfl) (fun _ _ _ h=>h) ?_ hH ?_
 ·
  intro w
  go_simp
 refine til_take 17 (.int .i64 a) rfl (by kernel_rfl) (by kernel_rfl) (by kernel_rfl) (fun _ _ _ h=>h) ?_ hH ?_
 ·
  intro w hSw;go_simp
 refine til_pure 18 (.agg #[.int .i64 k,.int .i64 a]) rfl (by kernel_rfl) (by kernel_rfl) (fun _ _ _ h=>h) ?_ hH ?_
 ·
  intro w
  go_simp
 refine til_ready (rs:=[19]) (by kernel_rfl) (by simp) ?_
 refine TilR.cons rfl (fun K19 hK19=>?_) TilR.nil
 go_simp
 obtain ⟨u6,hu6,hB6,hs6,hb6⟩:=boxes1 u5 #[.int .i64 k,.int .i64 a] 48
 rw [<-hu6]
 have HU6:Hid (Below W0.heap.size W0 u6):=HU5.out.trans (hB6.mono HU5.out.size)
 have HY:=mkHid hb6
 refine hK19.out _ _ (fun _ _ p hp=>HU6.out.cell hp) ?_
 replace hH:∀p:Addr,p.block<W0.heap.size->u6.cell? p=W0.cell? p:=fun p hp=>HU6.out.cell hp
 clear hu6 hB6 hs6 hb6
 refine til_ready (rs:=[20]) (by kernel_rfl) (by simp) ?_
 refine TilR.cons rfl (fun K20 hK20=>?_) TilR.nil
 refine stp_append_nil u6 rfl (.tmp 15) (.tmp 27) 41 rfl 48 iL _ 2 16 Tryz.underlying41 hiL hzL0 hzL1 hzL2 rfl (by decide) (by go_simp) u5.heap.size 1 _ _ rfl (fun u hu=>by simp at hu;rcases hu with rfl | rfl<;>rfl) (by go_simp) HY.out (by decide) ?_
 intro cP u7 ho7 hb7 hl7
 have HU7:Hid (Below W0.heap.size W0 u7):=HU6.out.trans (hb7.mono HU6.out.size)
 have HO7:=mkHid ho7
 refine hK20.out _ _ (fun _ _ p hp=>HU7.out.cell hp) ?_
 replace hH:∀p:Addr,p.block<W0.heap.size->u7.cell? p=W0.cell? p:=fun p hp=>HU7.out.cell hp
 have z27:=(HU7.out.cell (p:=⟨M,27,none⟩) lM).trans m27
 have zf:=frz_of ((HU7.out.block _ lM).trans HM0.out)
 clear ho7 hb7
 refine til_pure 21 (.pointer (some ⟨M,0,none⟩)) rfl (by kernel_rfl) (by kernel_rfl) (fun _ _ _ h=>h) ?_ hH ?_
 ·
  intro w
  go_simp
 refine til_pure 22 (.pointer (some ⟨M,27,none⟩)) rfl (by kernel_rfl) (by kernel_rfl) (fun _ _ _ h=>h) ?_ hH ?_
 ·
  intro w
  go_simp
 refine til_pure 23 (.pointer (some ⟨M,27,none⟩)) rfl (by kernel_rfl) (by kernel_rfl) (fun _ _ _ h=>h) ?_ hH ?_
 ·
  intro w
  go_simp
 refine til_ready (rs:=[24]) (by kernel_rfl) (by simp) ?_
 refine TilR.cons rfl (fun K24 hK24=>?_) TilR.nil
 go_simp
 refine hK24.out _ _ (fun h=>absurd rfl h) ?_
 refine til_done (by kernel_rfl) ?_ _
 clear hH
 try simp only [Act.put,List.setIfInBounds_toArray,List.set_cons_zero,List.set_cons_succ,List.getElem_toArray,List.getElem_cons_zero,List.getElem_cons_succ]
 obtain ⟨w8,hw8⟩:∃w8,w8=u7.setCell ⟨M,27,none⟩ (.slice (some ⟨u6.heap.size,0,none⟩) 1 cP):=⟨_,rfl⟩
 rw [<-hw8]
 have HW8:=mkHid hw8
 have hoth:∀b,b≠M->w8.heap[b]? =u7.heap[b]? :=fun b hb=>by rw [hw8];exact Below.heap_setCell _ _ _ _ hb
 have hsz:w8.heap.size=u7.heap.size:=by rw [hw8];simp [World.setCell]
 have hm8:w8.heap[M]? =some (.cells (mcC vW ot nx kC kS kF kN kT vM fu vT (.slice (some ⟨u6.heap.size,0,none⟩) 1 cP) vE en st9) 130 (0,0)):=by rw [hw8];exact heap_setR ((HU7.out.block _ lM).trans HM0.out) _
 have hf8:=(hoth F hFM).trans ((HU7.out.block _ lF).trans HF0.out)
 have ho8:=own_same HO0.out (w':=w8) (fun g e=>by cases e;exact (hoth gK hKM).trans (HU7.out.block _ lK))
 have k8:=(hoth w.heap.size (by intro e;omega)).trans ((HU7.out.block _ lS).trans HK0.out)
 have s82:=cell_of k8 2 (x:=.pointer (some ⟨F,0,none⟩)) rfl
 have hgM:u6.heap.size≠M:=by have:=HU6.out.size;omega
 have hz7:=(HO7.out.lt u6.heap.size rfl).2
 have hP8:=own_same HO7.out (w':=w8) (fun g e=>by cases e;exact hoth _ hgM)
 have HG:=mkHid (goOn_any w8 B F X n vL _ [a] [] 1 (by simp) (by simp) (by simp) hn (fun _=>False) _ (nil_RI _ _) (fun _ h=>h.elim) hf8 ho8 (by have:=HB0.out.size;have:=HU7.out.size;omega))
 have HP8:=mkHid hP8
 have HM8:=mkHid hm8
 have HKY:Hid (Ky (fun b=>b=F\/b=M\/b=gK) w w8):=by
  have h1:Ky (fun b=>b=F\/b=M\/b=gK) w u7:=Ky.of (HB0.out.trans (HU7.out.mono HB0.out.size))
  have:=h1.set (b:=M) (Or.inr (Or.inl rfl)) 27 (.slice (some ⟨u6.heap.size,0,none⟩) 1 cP)
  rw [<-hw8]at this
  exact this
 have HGE:Hid (w.heap.size<=u6.heap.size/\u6.heap.size<w8.heap.size/\u6.heap.size≠F/\u6.heap.size≠gK/\M<w8.heap.size):=by
  have:=HU6.out.size
  have:=HB0.out.size
  have:=HU7.out.size
  refine ⟨?_,?_,?_,?_,?_⟩<;>omega
 clear hw8 hoth hm8 hf8 ho8 k8 hP8 z27 zf s0 s1 s2 m27 t0 a0
 go_wp2_with fail
 refine HG.out.mono ?_
 rintro r w9 ⟨rfl,vK9,hf9,ho9,hk9⟩
 have hb9:∀b,b<w8.heap.size->b≠F->b≠gK->w9.heap[b]? =w8.heap[b]? :=fun b hl h1 h2=>hk9.block b hl (fun h=>by
  rcases h with h | h
  ·
   exact h1 h
  cases h;exact h2 rfl)
 have HM9:=mkHid ((hb9 M HGE.out.2.2.2.2 (fun e=>hFM e.symm) (fun e=>hKM e.symm)).trans HM8.out)
 have HP9:=mkHid (own_same HP8.out (w':=w9) (fun g e=>by cases e;exact hb9 _ HGE.out.2.1 HGE.out.2.2.1 HGE.out.2.2.2.1))
 have HF9:=mkHid hf9
 have HO9:=mkHid ho9
 have HK9:Hid (Ky (fun b=>b=F\/b=M\/b=gK) w w9):=HKY.out.trans (hk9.mono fun b h=>by
  rcases h with h | h
  ·
   exact Or.inl h
  cases h;exact Or.inr (Or.inr rfl))
 clear hf9 ho9 hk9 hb9
 go_wp2_with fail
 go_ret
 refine ⟨rfl,⟨vK9,HF9.out,HO9.out⟩,⟨u6.heap.size,cP,HM9.out,?_,?_,?_,HGE.out.1⟩,HK9.out⟩
 ·
  have:=HP9.out.cells (g:=u6.heap.size) rfl 0 (.int .i64 k) rfl
  rw [addr_add]at this
  exact this
 ·
  have:=HP9.out.cells (g:=u6.heap.size) rfl 1 (.int .i64 a) rfl
  rw [addr_add]at this
  exact this
 rcases HP9.out.2 with ⟨-,h0⟩ | ⟨g,cap,cur,e,-,hg,-⟩
 ·
  cases h0
 cases e
 exact ⟨cur,hg⟩
end Go.Proofs.YtcddpmappmjilaaGreatDoor
namespace Go.Proofs.YtcddpmappmjilaaGreatDoor
open Go.RowKit Go.Maps
set_option maxRecDepth 100000 in
set_option maxHeartbeats 1000000 in
theorem leave_any (w:World) (T:Nat) (k:Int) (aF:Option Addr) (j cF:Nat) (e:Int) (hj:j+1<=cF) (hl:j<=1000) (ht:w.heap[T]? =some (.cells (thC k aF (j+1) cF e) 140 (0,0))):
 Calls Tryz.prog 211 #[.pointer (some ⟨T,0,none⟩)] w fun r w'=>r=.returned (.tuple #[])/\w'.heap[T]? =some (.cells (thC k aF j cF e) 140 (0,0))/\Ky (· =T) w w':=by
 have c1:=cell_of ht 1 (x:=.slice aF (j+1) cF) rfl
 have cf:=frz_of ht 1
 have lT:=lt_of ht
 have HT:=mkHid ht
 have hw1:IntKind.i64.wrap (((j+1:Nat):Int) - 1)=(j:Int):=by rw [show ((j+1:Nat):Int) - 1=(j:Int) by omega];exact wrap_i64_small _ (by omega) (by omega)
 have r9:∀V,(Instr.slice 138 (.slice aF (j+1) cF) none (some (.int .i64 (j:Int))) none).run Tryz.prog V=.ok (.slice aF j cF) V:=fun V=>by
  rw [run_slice_h V 138 _ _ _ Tryz.underlying138 .i64 (j:Int) (by omega) (by omega)]
  show Result.ok (sliced aF 0 ((j:Int)).toNat cF 1) V=_
  rw [Int.toNat_natCast,sliced0]
 clear ht
 go_enter Tryz.func211,Tryz.ntmps211
 go_wp2_with fail
 go_region
 all_goals
  go_wp2_with fail
  go_end0
  exact ⟨rfl,heap_setR (W:=w) HT.out _,((Ky.refl (· =T) w).set rfl _ _).drew⟩
theorem ixLock_any (w:World) (f:Value) (hf:∃g c,f=.func (.func g) #[] c):Calls Tryz.prog 261 #[.slice none 0 0,f] w fun r w'=>r=.returned (.int .i64 (-1))/\w'=w:=by
 obtain ⟨g,c,rfl⟩:=hf
 go_enter Tryz.func261,Tryz.ntmps261
 go_wp2_with fail
 go_loopw [8] (fun i wr=>i=.int .i64 0/\wr=w) (fun _ _=>0)
 case atStart=>exact ⟨rfl,rfl⟩
 case round=>
  obtain ⟨rfl,rfl⟩:=hrel
  go_wp2_with fail
  go_ret
  exact ⟨rfl,rfl⟩
theorem delLock_any (w:World) (f:Value) (hf:∃g c,f=.func (.func g) #[] c):Calls Tryz.prog 286 #[.slice none 0 0,f] w fun r w'=>r=.returned (.slice none 0 0)/\w'=w:=by
 have HI:=mkHid (ixLock_any w f hf)
 obtain ⟨g,c,rfl⟩:=hf
 go_enter Tryz.func286,Tryz.ntmps286
 go_wp2_with fail
 refine HI.out.mono ?_
 rintro r w1 ⟨rfl,hw1⟩
 rw [hw1]
 clear hw1 w1 HI
 go_wp2_with fail
 go_ret
 exact ⟨rfl,rfl⟩
set_option maxRecDepth 100000 in
set_option maxHeartbeats 1000000 in
theorem finish_any (w:World) (M T:Nat) {vW kC kS kF kN kT vM vT vP vE:Value} {ot nx fu en st9:Int} (k e y:Int) (aF:Option Addr) (nf cF:Nat) (hm:w.heap[M]? =some (.cells (mcC vW ot nx kC kS kF kN kT vM fu vT vP vE en st9) 130 (0,0))) (ht:w.heap[T]? =some (.cells (thC k aF nf cF e) 140 (0,0))):
 Calls Tryz.prog 212 #[.pointer (some ⟨M,0,none⟩),.pointer (some ⟨T,0,none⟩),.int .i64 y] w fun r w'=>r=.returned (.tuple #[])/\w'.heap[T]? =some (.cells (thC k aF nf cF y) 140 (0,0))/\w'.heap[M]? =some (.cells (mcC vW ot nx kC kS kF kN kT vM fu vT vP vE en st9) 130 (0,0))/\Ky (fun b=>b=T\/b=M) w w':=by
 have hmf:∀(fn:Fn) (first cap:Array Value) (w:World),(Instr.makeFunc fn first cap).run Tryz.prog w=.ok (.func fn first cap) w:=fun _ _ _ _=>rfl
 have hTM:T≠M:=fun e=>by rw [e,hm]at ht;cases ht
 obtain ⟨W1,hW1⟩:∃W1,W1=(w.setCell ⟨T,2,none⟩ (.int .i64 y)).alloc (.cells #[.pointer (some ⟨T,0,none⟩)] 137):=⟨_,rfl⟩
 have hz:(w.setCell ⟨T,2,none⟩ (.int .i64 y)).heap.size=w.heap.size:=by simp [World.setCell]
 have ht1:W1.heap[T]? =some (.cells (thC k aF nf cF y) 140 (0,0)):=by rw [hW1];exact (Below.heap_alloc _ _ _ (by rw [hz];exact lt_of ht)).trans (heap_setR ht _)
 have hm1:W1.heap[M]? =some (.cells (mcC vW ot nx kC kS kF kN kT vM fu vT vP vE en st9) 130 (0,0)):=by rw [hW1];exact (Below.heap_alloc _ _ _ (by rw [hz];exact lt_of hm)).trans ((Below.heap_setCell _ _ _ _ (fun e=>hTM e.symm)).trans hm)
 have HKY:Hid (Ky (fun b=>b=T\/b=M) w W1):=by rw [hW1];exact ((Ky.refl _ w).set (Or.inl rfl) _ _).alloc _
 have HT1:=mkHid ht1
 have HM1:=mkHid hm1
 have c2:=cell_of ht 2 (x:=.int .i64 e) rfl
 have cf:=frz_of ht
 have lT:=lt_of ht
 have c25:=cell_of hm 25 (x:=.slice none 0 0) rfl
 have lM:=lt_of hm
 have HW1:=mkHid hW1
 have hTM':¬T=M:=hTM
 have hMT':¬M=T:=fun e=>hTM e.symm
 clear hm ht hz hW1 ht1 hm1 hTM
 go_enter Tryz.func212,Tryz.ntmps212
 go_wp2_with fail
 rw [<-HW1.out]
 refine (delLock_any W1 _ ⟨_,_,rfl⟩).mono ?_
 rintro r w1 ⟨rfl,hw1⟩
 rw [hw1]
 have m25:=cell_of HM1.out 25 (x:=.slice none 0 0) rfl
 have mf:=frz_of HM1.out
 clear hw1 w1 c2 cf c25 lT lM
 go_wp2_with fail
 go_end0
 exact ⟨rfl,(Below.heap_setCell _ _ _ _ hTM').trans HT1.out,heap_setR HM1.out _,HKY.out.set (Or.inr rfl) _ _⟩
set_option maxRecDepth 100000 in
set_option maxHeartbeats 2000000 in
theorem leap27_any (w:World) (M T F X:Nat) {vW kC kS kF kN kT vM vT vP vE:Value} {ot nx fu en st9:Int} (k e n:Int) (aF:Option Addr) (cF:Nat) (hc:1<=cF) (vL vK:Value) (x:Cd.Op4) (hop:x.op=27) (hm:w.heap[M]? =some (.cells (mcC vW ot nx kC kS kF kN kT vM fu vT vP vE en st9) 130 (0,0))) (ht:w.heap[T]? =some (.cells (thC k aF 1 cF e) 140 (0,0)))
 (hf:w.heap[F]? =some (.cells (frC X n vL vK) 168 (0,0))) (hx:w.cell? ⟨X,3,none⟩=some (.int .i64 0)):
 Calls Tryz.prog 206 #[spV M T F x] w fun r w'=>r=.returned (.int .i64 0)/\w'.heap[T]? =some (.cells (thC k aF 0 cF 0) 140 (0,0))/\w'.heap[M]? =some (.cells (mcC vW ot nx kC kS kF kN kT vM fu vT vP vE en st9) 130 (0,0))/\Ky (fun b=>b=T\/b=M) w w':=by
 have HGB:Hid (∀(V:World),Below w.heap.size w V->Calls Tryz.prog 282 #[spV M T F x] V fun r w'=>r=.returned (.tuple #[])/\w'.heap[T]? =some (.cells (thC k aF 0 cF 0) 140 (0,0))/\w'.heap[M]? =some (.cells (mcC vW ot nx kC kS kF kN kT vM fu vT vP vE en st9) 130 (0,0))/\Ky (fun b=>b=T\/b=M) V w'):=fun V hV=>by
  obtain ⟨W0,hW0,hB0,hs0,k0⟩:=boxes1 V #[.pointer (some ⟨M,0,none⟩),.pointer (some ⟨T,0,none⟩),.pointer (some ⟨F,0,none⟩),.int .i64 x.loc,.int .i64 x.op,.int .i64 x.a,.int .i64 x.b] 202
  have hb:=hV.trans (hB0.mono hV.size)
  have hm0:=(hb.block _ (lt_of hm)).trans hm
  have ht0:=(hb.block _ (lt_of ht)).trans ht
  have hf0:=(hb.block _ (lt_of hf)).trans hf
  have lXw:X<w.heap.size:=World.block_lt_of_cell? w _ hx
  have x3:V.cell? ⟨X,3,none⟩=some (.int .i64 0):=(hV.cell (p:=⟨X,3,none⟩) lXw).trans hx
  have f0:=cell_of ((hV.block _ (lt_of hf)).trans hf) 0 (x:=.pointer (some ⟨X,0,none⟩)) rfl
  have lXV:=Nat.lt_of_lt_of_le lXw hV.size
  have lFV:=Nat.lt_of_lt_of_le (lt_of hf) hV.size
  have hTM:T≠M:=fun e=>by rw [e,hm0]at ht0;cases ht0
  have HLV:=mkHid (leave_any W0 T k aF 0 cF e hc (by decide) ht0)
  have HM0:=mkHid hm0
  have HK0:=mkHid k0
  have HW:=mkHid hW0
  have HB0:=mkHid hB0
  have lMW:M<W0.heap.size:=lt_of hm0
  have lTV:T<V.heap.size:=Nat.lt_of_lt_of_le (lt_of ht) hV.size
  have lMV:M<V.heap.size:=Nat.lt_of_lt_of_le (lt_of hm) hV.size
  have lS:V.heap.size<W0.heap.size:=lt_of k0
  clear hb hm0 ht0 hf0 hW0 hB0 hs0 k0 hop
  unfold spV
  go_enter Tryz.func282,Tryz.ntmps282
  go_wp2_with fail
  rw [<-HW.out]
  refine HLV.out.mono ?_
  rintro r w1 ⟨rfl,ht1,hk1⟩
  have k1:=(hk1.block V.heap.size lS (by omega)).trans HK0.out
  have HM1:=mkHid ((hk1.block M lMW (fun e=>hTM e.symm)).trans HM0.out)
  have HE1:=mkHid (ended_any w1 T k aF 0 cF e ht1)
  have HFI:=mkHid (finish_any w1 M T k e 0 aF 0 cF HM1.out ht1)
  have HKY:Hid (Ky (fun b=>b=T\/b=M) V w1):=(Ky.of HB0.out).trans (hk1.mono fun b h=>Or.inl h)
  clear f0 x3
  have s0:=cell_of k1 0 (x:=.pointer (some ⟨M,0,none⟩)) rfl
  have s1:=cell_of k1 1 (x:=.pointer (some ⟨T,0,none⟩)) rfl
  clear k1 ht1 hk1
  go_wp2_with fail
  refine HE1.out.mono ?_
  rintro r w2 ⟨rfl,hw2⟩
  rw [hw2]
  clear hw2 w2
  go_wp2_with fail
  refine HFI.out.mono ?_
  rintro r w3 ⟨rfl,h1,h2,h3⟩
  have H3:=mkHid (And.intro h1 (And.intro h2 (HKY.out.trans h3)))
  clear h1 h2 h3
  go_wp2_with fail
  exact bodyPost_ret (results_none rfl _ _ _) rfl ⟨rfl,H3.out⟩
 obtain ⟨W0,hW0,hB0,hs0,k0⟩:=boxes1 w #[.pointer (some ⟨M,0,none⟩),.pointer (some ⟨T,0,none⟩),.pointer (some ⟨F,0,none⟩),.int .i64 x.loc,.int .i64 x.op,.int .i64 x.a,.int .i64 x.b] 202
 have HW:=mkHid hW0
 have HB0:=mkHid hB0
 have HG0:=mkHid (HGB.out W0 hB0)
 clear hm ht hf hx hW0 hB0 hs0 k0 HGB
 unfold spV at*
 rw [hop]at*
 clear hop
 go_enter Tryz.func206,Tryz.ntmps206
 go_wp2_with fail
 rw [<-HW.out]
 refine HG0.out.mono ?_
 rintro r w1 ⟨rfl,h1,h2,h3⟩
 have H3:=mkHid (And.intro h1 (And.intro h2 ((Ky.of HB0.out).trans h3)))
 clear h1 h2 h3
 go_wp2_with fail
 go_ret
 exact ⟨rfl,H3.out⟩
end Go.Proofs.YtcddpmappmjilaaGreatDoor
