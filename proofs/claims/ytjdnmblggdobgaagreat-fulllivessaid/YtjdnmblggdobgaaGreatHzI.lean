import Derived.Test.YtjdnmblggdobgaaGreatJTk2Dies
import Derived.Test.YtjdnmblggdobgaaGreatHzH
set_option maxHeartbeats 2000000
set_option maxRecDepth 100000
namespace Go.Proofs.YtjdnmblggdobgaaGreat
open Go.RowKit Go.Maps
structure Ot (b B:Nat) (w:World) (G:Nat) (nR nW nO kC kS kF kN kT:Value) (h:HeapD) (d:LinkD):Prop where
 blk:w.heap[G]? =some (.cells #[nW,.int .i64 h.young,.int .i64 h.old,.int .i64 h.ytop,.int .i64 h.otop,nO,.int .i64 h.next,kC,kS,kF,kN,kT,nR] 131 (0,0))
 ov:OwnV b w nW nO h
 lk:RLk (· <B) w kC kS kF kN kT d
 le:B<=b
 gb:b<=G
 neW:nW.ownBlock≠some G
 neO:nO.ownBlock≠some G
theorem Ot.below {b B G:Nat} {w w':World} {nR nW nO kC kS kF kN kT:Value} {h:HeapD} {d:LinkD} (o:Ot b B w G nR nW nO kC kS kF kN kT h d) (hb:Below w.heap.size w w'):Ot b B w' G nR nW nO kC kS kF kN kT h d:=
 have hl:=lt0 o.blk
 ⟨(hb.block _ hl).trans o.blk,o.ov.below hb,o.lk.kept (Kp.below (hb.mono (by have:=o.le;have:=o.gb;omega))),o.le,o.gb,o.neW,o.neO⟩
theorem Ot.gd {b B G:Nat} {w:World} {nR nW nO kC kS kF kN kT:Value} {h:HeapD} {d:LinkD} (o:Ot b B w G nR nW nO kC kS kF kN kT h d) (h1:h.words.length<=1000000) (h2:h.noted.length<=1000000):Gd w.heap.size w G nW nO kC kS kF kN kT h d:=
 have hl:=lt0 o.blk
 have hm:∀k,k<B->k<w.heap.size:=fun k hk=>by have:=o.le;have:=o.gb;omega
 ⟨hl,Nat.le_refl _,cl0 o.blk 0 rfl,cl0 o.blk 1 rfl,cl0 o.blk 2 rfl,cl0 o.blk 3 rfl,cl0 o.blk 4 rfl,cl0 o.blk 5 rfl,cl0 o.blk 6 rfl,cl0 o.blk 7 rfl,cl0 o.blk 8 rfl,cl0 o.blk 9 rfl,cl0 o.blk 10 rfl,cl0 o.blk 11 rfl,(zfb o.ov.rW h1).monoI fun k hk=>hk.lt,(zfb o.ov.rO h2).monoI fun k hk=>hk.lt,o.lk.mono hm⟩
theorem zxy (w:World) (b B G:Nat) (nR:Value) (nW nO kC kS kF kN kT:Value) (h:HeapD) (d:LinkD) (og:Ot b B w G nR nW nO kC kS kF kN kT h d) (tag len:Int) (hy:0<=h.young/\h.young<=1000000) (h1:h.words.length<=1000000) (h2:h.noted.length<=1000000)
 (ht:0<=h.ytop) (hn:0<=len) (hr:h.ytop+3+len<=h.words.length):
 Calls Tryz.prog 124 #[.pointer (some ⟨G,0,none⟩),.int .i64 tag,.int .i64 len,.bool false] w fun r w'=>r=.returned (.int .i64 h.ytop)/\Ot b B w' G nR nW nO kC kS kF kN kT (makeD h tag len false) d/\Mvd w.heap.size G G G nW (.slice none 0 0) w (.slice none 0 0) w':=by
 have HPA:=mk0 (zmi w w.heap.size G _ _ _ _ _ _ _ h d (og.gd h1 h2) false hy)
 rw [show topCell false=3 from rfl]at HPA
 have hbl:b<=w.heap.size:=by have:=og.gb;have:=lt0 og.blk;omega
 obtain ⟨gW,dW,hnW,hdW⟩:∃gW dW,nW=.slice (some ⟨gW,0,none⟩) h.words.length dW/\h.words.length<=dW:=by
  rcases og.ov.rW.2 with ⟨e,h0⟩ | ⟨g,cap,cur,e,-,-,hc,-⟩
  ·
   omega
  exact ⟨g,cap,e,hc⟩
 subst hnW
 have hgG:¬G=gW:=fun e=>og.neW (by rw [e];rfl)
 have hgw:gW<w.heap.size:=(og.ov.rW.lt gW rfl).2
 have hgb:b<=gW:=(og.ov.rW.lt gW rfl).1
 obtain ⟨aO,cO,hnO⟩:=zfz og.ov.rO
 subst hnO
 have HOG:=mk0 og
 have r7:∀V,(Instr.slice 22 (.slice (some ⟨gW,0,none⟩) h.words.length dW) (some (.int .i64 h.ytop)) none none).run Tryz.prog V=.ok (.slice (some ⟨gW,h.ytop.toNat,none⟩) (h.words.length - h.ytop.toNat) (dW - h.ytop.toNat)) V:=fun V=>by
  rw [run_slice_l V 22 _ _ _ Tryz.underlying22 .i64 h.ytop (by omega) (by omega)]
  show Result.ok (sliced (some ⟨gW,0,none⟩) h.ytop.toNat h.words.length dW 1) V=_
  unfold sliced
  rw [if_neg (by omega),Option.map_some,zg1,Nat.mul_one,Nat.zero_add]
 generalize endOf h false=en at*
 obtain ⟨aC,cC,aS,cS,aF,cF,aN,cN,aT,cT,rfl,rfl,rfl,rfl,rfl⟩:=og.lk.agg
 clear og
 go_enter Tryz.func124,Tryz.ntmps124
 go_wp2_with fail
 refine HPA.out.mono ?_
 rintro r w1 ⟨rfl,q,hq⟩
 have hb1:Below w.heap.size w w1:=hq ▸ zdq (Below.refl _ _) q
 have hs1:=hb1.size
 have ho1:=HOG.out.below hb1
 have HO1:=mk0 ho1
 have HB1:Hid (Mvd w.heap.size G G G (.slice (some ⟨gW,0,none⟩) h.words.length dW) (.slice none 0 0) w (.slice none 0 0) w1):=Mvd.ofBelow hb1
 have hl1:=lt0 ho1.blk
 have m0:=cl0 ho1.blk 0 (x:=.slice (some ⟨gW,0,none⟩) h.words.length dW) rfl
 have m1:=cl0 ho1.blk 1 (x:=.int .i64 h.young) rfl
 have m2:=cl0 ho1.blk 2 (x:=.int .i64 h.old) rfl
 have m3:=cl0 ho1.blk 3 (x:=.int .i64 h.ytop) rfl
 have m4:=cl0 ho1.blk 4 (x:=.int .i64 h.otop) rfl
 have m5:=cl0 ho1.blk 5 (x:=.slice aO h.noted.length cO) rfl
 have m6:=cl0 ho1.blk 6 (x:=.int .i64 h.next) rfl
 have m7:=cl0 ho1.blk 7 (x:=.slice aC d.classes.length cC) rfl
 have m8:=cl0 ho1.blk 8 (x:=.slice aS d.supers.length cS) rfl
 have m9:=cl0 ho1.blk 9 (x:=.slice aF d.fields.length cF) rfl
 have m10:=cl0 ho1.blk 10 (x:=.slice aN d.names.length cN) rfl
 have m11:=cl0 ho1.blk 11 (x:=.slice aT d.targets.length cT) rfl
 have hgT:¬w1.heap.size=gW:=by omega
 clear hb1 ho1 hq HPA
 go_wp2_with fail
 refine wp_region_held_drew (S:=fun W'=>∀p:Addr,p.block<w1.heap.size->W'.cell? p=w1.cell? p) (by kernel_rfl) (fun p hp=>rfl) fun hH=>?_
 refine ta 0 (.pointer (some ⟨G,3,none⟩)) rfl hH ?_
 refine ta 1 (.pointer (some ⟨G,3,none⟩)) rfl hH ?_
 refine ta 2 (.int .i64 h.ytop) rfl hH ?_
 refine ta 3 (.int .i64 tag) rfl hH ?_
 refine ta 4 (.int .i64 len) rfl hH ?_
 refine ta 5 (.pointer (some ⟨G,0,none⟩)) rfl hH ?_
 refine ta 6 (.pointer (some ⟨G,0,none⟩)) rfl hH ?_
 refine ta 7 (.pointer (some ⟨G,0,none⟩)) rfl hH ?_
 refine ta 8 (.pointer (some ⟨G,6,none⟩)) rfl hH ?_
 refine ta 9 (.int .i64 h.next) rfl hH ?_
 refine ta 10 (.agg #[.int .i64 h.ytop,.int .i64 tag,.int .i64 len,.int .i64 h.next]) rfl hH ?_
 refine wpAnyH_ready (rs:=[11]) (by kernel_rfl) (by simp) ?_
 refine AllReadyH.cons rfl (fun K11 hK11=>?_) AllReadyH.nil
 go_simp
 refine hK11.out _ _ (fun p hp=>Below.cell (B:=w1.heap.size) (w:=w1) ((Below.refl _ _).drew.alloc (Nat.le_refl _) _) hp) fun hH=>?_
 refine wpAnyH_ready (rs:=[12]) (by kernel_rfl) (by simp) ?_
 refine AllReadyH.cons rfl (fun K12 hK12=>?_) AllReadyH.nil
 go_simp
 refine hK12.out _ _ (fun p hp=>Below.cell (B:=w1.heap.size) (w:=w1) ((Below.refl _ _).drew.alloc (Nat.le_refl _) _) hp) fun hH=>?_
 refine wpAnyH_done (by kernel_rfl) ?_ _
 clear hH
 try simp only [Act.put,List.setIfInBounds_toArray,List.set_cons_zero,List.set_cons_succ,List.getElem_toArray,List.getElem_cons_zero,List.getElem_cons_succ]
 obtain ⟨W2,hW2⟩:∃W2,(w1.alloc (.cells #[.int .i64 h.ytop,.int .i64 tag,.int .i64 len,.int .i64 h.next] 101)).drew=W2:=⟨_,rfl⟩
 rw [hW2]
 have hA2:Below w1.heap.size w1 W2:=hW2 ▸ ((Below.refl _ _).alloc (Nat.le_refl _) _).drew
 have hT2:W2.heap[w1.heap.size]? =some (.cells #[.int .i64 h.ytop,.int .i64 tag,.int .i64 len,.int .i64 h.next] 101 (0,0)):=by rw [<-hW2];exact heap_alloc_new w1 _
 have ho2:=HO1.out.below hA2
 have hs2:=hA2.size
 have HB2:Hid (Mvd w.heap.size G G G (.slice (some ⟨gW,0,none⟩) h.words.length dW) (.slice none 0 0) w (.slice none 0 0) W2):=HB1.out.trans (Mvd.ofBelow (hA2.mono (by omega)))
 have HO2:=mk0 ho2
 have HT2:=mk0 hT2
 have hl2:=lt0 ho2.blk
 have lT2:=lt0 hT2
 have n0:=cl0 ho2.blk 0 (x:=.slice (some ⟨gW,0,none⟩) h.words.length dW) rfl
 have n1:=cl0 ho2.blk 1 (x:=.int .i64 h.young) rfl
 have n2:=cl0 ho2.blk 2 (x:=.int .i64 h.old) rfl
 have n3:=cl0 ho2.blk 3 (x:=.int .i64 h.ytop) rfl
 have n4:=cl0 ho2.blk 4 (x:=.int .i64 h.otop) rfl
 have n5:=cl0 ho2.blk 5 (x:=.slice aO h.noted.length cO) rfl
 have n6:=cl0 ho2.blk 6 (x:=.int .i64 h.next) rfl
 have n7:=cl0 ho2.blk 7 (x:=.slice aC d.classes.length cC) rfl
 have n8:=cl0 ho2.blk 8 (x:=.slice aS d.supers.length cS) rfl
 have n9:=cl0 ho2.blk 9 (x:=.slice aF d.fields.length cF) rfl
 have n10:=cl0 ho2.blk 10 (x:=.slice aN d.names.length cN) rfl
 have n11:=cl0 ho2.blk 11 (x:=.slice aT d.targets.length cT) rfl
 have t0:=cl0 hT2 0 (x:=.int .i64 h.ytop) rfl
 have t1:=cl0 hT2 1 (x:=.int .i64 tag) rfl
 have t2:=cl0 hT2 2 (x:=.int .i64 len) rfl
 have t3:=cl0 hT2 3 (x:=.int .i64 h.next) rfl
 have HOW:Hid ((W2.drew.alloc (.cells #[.int .i64 tag,.int .i64 len,.int .i64 h.next] 3)).ownsRow b 3 1 (.slice (some ⟨gW,0,none⟩) h.words.length dW) h.words.length (intV h.words)):=zhj ho2.ov.rW ((Below.refl _ _).drew.alloc (Nat.le_refl _) _)
 have HSR:Hid ((W2.drew.alloc (.cells #[.int .i64 tag,.int .i64 len,.int .i64 h.next] 3)).heap[W2.heap.size]? =some (.cells #[.int .i64 tag,.int .i64 len,.int .i64 h.next] 3 (0,0))):=heap_alloc_new W2.drew _
 clear m0 m1 m2 m3 m4 m5 m6 m7 m8 m9 m10 m11 hA2 hT2 ho2 hW2
 go_wp2_with fail
 refine wp_region_held_drew (S:=fun W'=>∀p:Addr,p.block<W2.heap.size->p.block≠gW->W'.cell? p=W2.cell? p) (by kernel_rfl) (fun p hp _=>rfl) fun hH=>?_
 refine ta 0 (.pointer (some ⟨G,0,none⟩)) rfl hH ?_
 refine ta 1 (.pointer (some ⟨G,0,none⟩)) rfl hH ?_
 refine ta 2 (.pointer (some ⟨G,0,none⟩)) rfl hH ?_
 refine ta 3 (.pointer (some ⟨G,0,none⟩)) rfl hH ?_
 refine ta 4 (.slice (some ⟨gW,0,none⟩) h.words.length dW) rfl hH ?_
 refine ta 5 (.pointer (some ⟨w1.heap.size,0,none⟩)) rfl hH ?_
 refine ta 6 (.int .i64 h.ytop) rfl hH ?_
 refine ta 7 (.slice (some ⟨gW,h.ytop.toNat,none⟩) (h.words.length - h.ytop.toNat) (dW - h.ytop.toNat)) rfl hH ?_
 refine ta 8 (.pointer (some ⟨w1.heap.size,1,none⟩)) rfl hH ?_
 refine ta 9 (.int .i64 tag) rfl hH ?_
 refine ta 10 (.pointer (some ⟨w1.heap.size,2,none⟩)) rfl hH ?_
 refine ta 11 (.int .i64 len) rfl hH ?_
 refine ta 12 (.pointer (some ⟨w1.heap.size,3,none⟩)) rfl hH ?_
 refine ta 13 (.int .i64 h.next) rfl hH ?_
 refine wpAnyH_ready (rs:=[14]) (by kernel_rfl) (by simp) ?_
 refine AllReadyH.cons rfl (fun K14 hK14=>?_) AllReadyH.nil
 go_simp
 refine hK14.out _ _ (fun p hp _=>Below.cell (B:=W2.heap.size) (w:=W2) ((Below.refl _ _).drew.alloc (Nat.le_refl _) _) hp) fun hH=>?_
 refine wpAnyH_ready (rs:=[15]) (by kernel_rfl) (by simp) ?_
 refine AllReadyH.cons rfl (fun K15 hK15=>?_) AllReadyH.nil
 refine zmp rfl (.tmp 36) (.tmp 43) rfl b gW h.ytop.toNat (h.words.length - h.ytop.toNat) (dW - h.ytop.toNat) dW h.words HOW.out rfl W2.heap.size rfl tag len h.next HSR.out (by omega) (by omega) ?_
 intro w4 hg4 ho4
 refine hK15.out _ _ (fun p hp hne=>(World.cell?_of_block (a:=p) (hg4.block p.block (Nat.lt_of_lt_of_le hp (by show W2.heap.size<=(W2.alloc _).heap.size;simp)) (fun e=>hne (Option.some.inj e)))).trans (Below.cell (B:=W2.heap.size) (w:=W2) ((Below.refl _ _).drew.alloc (Nat.le_refl _) _) hp)) fun hH=>?_
 refine wpAnyH_done (by kernel_rfl) ?_ _
 clear hH
 try simp only [Act.put,List.setIfInBounds_toArray,List.set_cons_zero,List.set_cons_succ,List.getElem_toArray,List.getElem_cons_zero,List.getElem_cons_succ]
 have hg4:(W2.drew.alloc (.cells #[.int .i64 tag,.int .i64 len,.int .i64 h.next] 3)).grownBy w4 (some gW):=hg4
 have hA3:Below W2.heap.size W2 (W2.drew.alloc (.cells #[.int .i64 tag,.int .i64 len,.int .i64 h.next] 3)):=(Below.refl _ _).drew.alloc (Nat.le_refl _) _
 have hk4:∀k,k<W2.heap.size->k≠gW->w4.heap[k]? =W2.heap[k]? :=fun k hk hne=>(hg4.block k (Nat.lt_of_lt_of_le hk hA3.size) (fun e=>hne (Option.some.inj e))).trans (hA3.block k hk)
 have hs4:W2.heap.size<=w4.heap.size:=Nat.le_trans hA3.size hg4.size
 have kG:=(hk4 G hl2 hgG).trans HO2.out.blk
 have kT:=(hk4 w1.heap.size lT2 hgT).trans HT2.out
 have hB4:Mvd w.heap.size G G G (.slice (some ⟨gW,0,none⟩) h.words.length dW) (.slice none 0 0) w (.slice none 0 0) w4:=(HB2.out.trans (Mvd.ofBelow (hA3.mono (by omega)))).trans (Mvd.ofGrown hg4 (Or.inr (Or.inr (Or.inr (Or.inl rfl)))))
 have rO4:=((zhj HO2.out.ov.rO hA3).kept hg4 (Or.inr (HO2.out.ov.ne gW rfl)))
 have lk4:RLk (· <B) w4 (.slice aC d.classes.length cC) (.slice aS d.supers.length cS) (.slice aF d.fields.length cF) (.slice aN d.names.length cN) (.slice aT d.targets.length cT) d:=HO2.out.lk.kept ⟨hs4,fun k hk hl=>hk4 k hl (by have:=HO2.out.le;have:=hk;omega)⟩
 have g6:=cl0 kG 6 (x:=.int .i64 h.next) rfl
 have z6:=zcf kG 6
 have lG:=lt0 kG
 have lT:=lt0 kT
 have hTG:¬w1.heap.size=G:=by omega
 have hGT:¬G=w1.heap.size:=by omega
 have v0:=cl0 kT 0 (x:=.int .i64 h.ytop) rfl
 have v1:=cl0 kT 1 (x:=.int .i64 tag) rfl
 have v2:=cl0 kT 2 (x:=.int .i64 len) rfl
 have v3:=cl0 kT 3 (x:=.int .i64 h.next) rfl
 obtain ⟨nx,hnx⟩:∃nx,IntKind.i64.wrap (h.next+1)=nx:=⟨_,rfl⟩
 have HNX:=mk0 hnx
 have hg5:w4.grownBy (w4.setCell ⟨G,6,none⟩ (.int .i64 nx)) (some G):=za8 (World.grownBy.refl _ _) _ _ (Or.inl rfl)
 obtain ⟨W5,hW5⟩:∃W5,w4.setCell ⟨G,6,none⟩ (.int .i64 nx)=W5:=⟨_,rfl⟩
 rw [hW5]at hg5
 have b5:W5.heap[G]? =some (.cells #[.slice (some ⟨gW,0,none⟩) h.words.length dW,.int .i64 h.young,.int .i64 h.old,.int .i64 h.ytop,.int .i64 h.otop,.slice aO h.noted.length cO,.int .i64 nx,.slice aC d.classes.length cC,.slice aS d.supers.length cS,.slice aF d.fields.length cF,.slice aN d.names.length cN,.slice aT d.targets.length cT,nR] 131 (0,0)):=hW5 ▸ zg6 kG _
 have t5:=(hg5.block w1.heap.size lT (by intro e;injection e;omega)).trans kT
 have H5:Hid (Mvd w.heap.size G G G (.slice (some ⟨gW,0,none⟩) h.words.length dW) (.slice none 0 0) w (.slice none 0 0) W5/\W5.ownsRow b 3 1 (.slice (some ⟨gW,0,none⟩) h.words.length dW) h.words.length (intV (put3 h.words h.ytop.toNat tag len h.next))/\W5.ownsRow b 3 1 (.slice aO h.noted.length cO) h.noted.length (intV h.noted)/\RLk (· <B) W5 (.slice aC d.classes.length cC) (.slice aS d.supers.length cS) (.slice aF d.fields.length cF) (.slice aN d.names.length cN) (.slice aT d.targets.length cT) d):=by
  have hGb:=HO2.out.gb
  refine ⟨hB4.trans (Mvd.ofGrown hg5 (Or.inl rfl)),ho4.kept hg5 (Or.inr fun e=>hgG (Option.some.inj e).symm),rO4.kept hg5 (Or.inr HO2.out.neO),lk4.kept ⟨hg5.size,fun k hk hl=>hg5.block k hl (by have:=HO2.out.le;have:=hk;intro e;injection e;omega)⟩⟩
 have HW5:=mk0 hW5
 have HB5:=mk0 (And.intro b5 t5)
 have HEN:Hid (∀W,Calls Tryz.prog 72 #[.agg #[.int .i64 h.ytop,.int .i64 tag,.int .i64 len,.int .i64 h.next]] W fun r w'=>r=.returned (.int .i64 (h.ytop+3+len))/\Below W.heap.size W w'):=fun W=>ze2 W ⟨h.ytop,tag,len,h.next⟩ ⟨by show -1000000000<=h.ytop;omega,by show h.ytop<=1000000000;omega⟩ ⟨by show -1000000000<=len;omega,by show len<=1000000000;omega⟩
 clear hg4 hA3 hk4 kG kT hB4 rO4 lk4 ho4 hg5 hW5 b5 t5 n0 n1 n2 n3 n4 n5 n6 n7 n8 n9 n10 n11 t0 t1 t2 t3 HOW HSR
 go_wp2_with fail
 refine (HEN.out _).mono ?_
 rw [HW5.out]
 rintro r w6 ⟨rfl,hb6⟩
 have b6:=(hb6.block G (lt0 HB5.out.1)).trans HB5.out.1
 have t6:=(hb6.block w1.heap.size (lt0 HB5.out.2)).trans HB5.out.2
 have hs6:=hb6.size
 have s5:=H5.out.1.size
 have gt:=cl0 b6 3 (x:=.int .i64 h.ytop) rfl
 have zt:=zcf b6 3
 have lG6:=lt0 b6
 have lT6:=lt0 t6
 have x0:=cl0 t6 0 (x:=.int .i64 h.ytop) rfl
 have hg7:w6.grownBy (w6.setCell ⟨G,3,none⟩ (.int .i64 (h.ytop+3+len))) (some G):=za8 (World.grownBy.refl _ _) _ _ (Or.inl rfl)
 have b7:(w6.setCell ⟨G,3,none⟩ (.int .i64 (h.ytop+3+len))).heap[G]? =some (.cells #[.slice (some ⟨gW,0,none⟩) h.words.length dW,.int .i64 h.young,.int .i64 h.old,.int .i64 (h.ytop+3+len),.int .i64 h.otop,.slice aO h.noted.length cO,.int .i64 nx,.slice aC d.classes.length cC,.slice aS d.supers.length cS,.slice aF d.fields.length cF,.slice aN d.names.length cN,.slice aT d.targets.length cT,nR] 131 (0,0)):=zg6 b6 _
 have HF:Hid (Ot b B (w6.setCell ⟨G,3,none⟩ (.int .i64 (h.ytop+3+len))) G nR (.slice (some ⟨gW,0,none⟩) h.words.length dW) (.slice aO h.noted.length cO) (.slice aC d.classes.length cC) (.slice aS d.supers.length cS) (.slice aF d.fields.length cF) (.slice aN d.names.length cN) (.slice aT d.targets.length cT) (makeD h tag len false) d/\Mvd w.heap.size G G G (.slice (some ⟨gW,0,none⟩) h.words.length dW) (.slice none 0 0) w (.slice none 0 0) (w6.setCell ⟨G,3,none⟩ (.int .i64 (h.ytop+3+len)))):=by
  obtain ⟨p1,p2,p3,p4⟩:=H5.out
  have hGb:=HO2.out.gb
  have hpl:=zmn tag len h.next (ws:=h.words) (off:=h.ytop.toNat) (by omega)
  refine ⟨⟨?_,⟨?_,(zhj p3 hb6).kept hg7 (Or.inr HO2.out.neO),HO2.out.ov.ne⟩,(p4.kept (Kp.below (hb6.mono (by have:=HO2.out.le;have:=s5;omega)))).kept ⟨hg7.size,fun k hk hl=>hg7.block k hl (by have:=HO2.out.le;have:=hk;intro e;injection e;omega)⟩,HO2.out.le,hGb,HO2.out.neW,HO2.out.neO⟩,(p1.trans (Mvd.ofBelow (hb6.mono (by omega)))).trans (Mvd.ofGrown hg7 (Or.inl rfl))⟩
  ·
   rw [b7,<-HNX.out]
   rfl
  show World.ownsRow _ b 3 1 _ (put3 h.words h.ytop.toNat tag len h.next).length (intV (put3 h.words h.ytop.toNat tag len h.next))
  rw [hpl]
  exact (zhj p2 hb6).kept hg7 (Or.inr fun e=>hgG (Option.some.inj e).symm)
 clear b6 t6 hb6 hg7 b7 H5 HB5 HEN
 go_wp2_with fail
 go_ret
 exact ⟨rfl,HF.out.1,HF.out.2⟩
theorem Tsk.ot {b B T:Nat} {w:World} {nW nO nR kC kS kF kN kT:Value} {h:HeapD} {rs:List Int} {d:LinkD} (o:Tsk b B w T nW nO nR kC kS kF kN kT h rs d):Ot b B w T nR nW nO kC kS kF kN kT h d:=
 ⟨o.blk,⟨o.rW,o.rO,fun k e e2=>zu6 o.sep (i:=1) (j:=2) (by decide) (congrArg some e) (congrArg some e2)⟩,o.lk,o.le,o.bT,fun e=>zu6 o.sep (i:=0) (j:=1) (by decide) rfl (congrArg some e),fun e=>zu6 o.sep (i:=0) (j:=2) (by decide) rfl (congrArg some e)⟩
theorem zxz (w:World) (b B T:Nat) (nW nO nR kC kS kF kN kT:Value) (h:HeapD) (rs:List Int) (d:LinkD) (o:Tsk b B w T nW nO nR kC kS kF kN kT h rs d) (tag len:Int) (hy:0<=h.young/\h.young<=1000000) (h1:h.words.length<=1000000) (h2:h.noted.length<=1000000) (ht:0<=h.ytop) (hn:0<=len) (hr:h.ytop+3+len<=h.words.length):
 Calls Tryz.prog 124 #[.pointer (some ⟨T,0,none⟩),.int .i64 tag,.int .i64 len,.bool false] w fun r w'=>r=.returned (.int .i64 h.ytop)/\Tsk b B w' T nW nO nR kC kS kF kN kT (makeD h tag len false) rs d/\Below b w w':=by
 refine (zxy w b B T nR _ _ _ _ _ _ _ h d o.ot tag len hy h1 h2 ht hn hr).mono ?_
 rintro r w' ⟨rfl,q,m⟩
 have lT:=lt0 o.blk
 have bb:b<=w.heap.size:=by have:=o.bT;omega
 have hB:Below b w w':=⟨m.os,m.tape,m.output,m.size,fun j hj=>m.block j (by omega) (by omega) (by have:=o.bT;omega) (by have:=o.bT;omega) (by have:=o.bT;omega) (fun e=>by have:=(o.rW.lt j e).1;omega) (fun e=>by cases e)⟩
 refine ⟨rfl,⟨q.blk,q.ov.rW,q.ov.rO,zvf o.rR m (fun j e hj=>⟨hj,fun e2=>?_,fun e2=>?_,fun e2=>?_,fun e2=>?_,fun e2=>by cases e2⟩),q.lk,o.le,o.bT,o.sep⟩,hB⟩
 ·
  exact zu6 o.sep (i:=0) (j:=3) (by decide) rfl (congrArg some (e2 ▸ e))
 ·
  exact zu6 o.sep (i:=0) (j:=3) (by decide) rfl (congrArg some (e2 ▸ e))
 ·
  exact zu6 o.sep (i:=0) (j:=3) (by decide) rfl (congrArg some (e2 ▸ e))
 exact zu6 o.sep (i:=1) (j:=3) (by decide) (congrArg some e2) (congrArg some e)
end Go.Proofs.YtjdnmblggdobgaaGreat
