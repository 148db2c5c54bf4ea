import Derived.Test.YtjdnmblggdobgaaGreatChecked
import Derived.Ground.Names2Prog
import Derived.Shelf.Lays2
import Derived.Test.YtjdnmblggdobgaaGreatJHpQHpU
import Derived.Shelf.Slices.SearchI
import Derived.Shelf.Slices.Empties
import Derived.Test.YtjdnmblggdobgaaGreatJTk2Dies
import Derived.Test.YtjdnmblggdobgaaGreatJLNoneLSaD
import Derived.Lib.AppendZeros
set_option maxHeartbeats 4000000
set_option maxRecDepth 100000
namespace Go.Proofs.YtjdnmblggdobgaaGreat
open Go.Shelf
def Tryz.laysSearch_ren:Go.Shelf.Ren:=⟨fun | 25=>180 | 31=>222 | 32=>223 | 37=>195 | n=>n,fun | 22=>22 | 3=>3 | 4=>4 | 40=>254 | 0=>0 | n=>n,fun | n=>n⟩
theorem Tryz.laysSearch:Go.Proofs.Lays2.n25 Tryz.prog Tryz.laysSearch_ren:={
 mixed:=by kernel_rfl
 f25:=Tryz.func180.trans (congrArg some (by kernel_rfl))
 f31:=Tryz.func222.trans (congrArg some (by kernel_rfl))
 f32:=Tryz.func223.trans (congrArg some (by kernel_rfl))
 f37:=Tryz.func195.trans (congrArg some (by kernel_rfl))
 t0:=Tryz.underlying0
 a0:=Tryz.isAgg0
 z0:=Tryz.sizeOf0
 v0:=Tryz.zeroValue0
 t3:=Tryz.underlying3
 a3:=Tryz.isAgg3
 z3:=Tryz.sizeOf3
 v3:=Tryz.zeroValue3
 t4:=Tryz.underlying4
 a4:=Tryz.isAgg4
 z4:=Tryz.sizeOf4
 v4:=Tryz.zeroValue4
 t22:=Tryz.underlying22
 a22:=Tryz.isAgg22
 z22:=Tryz.sizeOf22
 v22:=Tryz.zeroValue22
 t40:=Tryz.underlying254
 a40:=Tryz.isAgg254
 z40:=Tryz.sizeOf254
 v40:=Tryz.zeroValue254 }
end Go.Proofs.YtjdnmblggdobgaaGreat
namespace Go.Proofs.YtjdnmblggdobgaaGreat
open Go.RowKit Go.Maps Go.Shelf Go.Lib
theorem zil (w:World) (B:Nat) (v:Value) (l:List Int) (hv:SL 1 RI (· <B) w v l) (hl:l.length<=1000000) (hs:l.Pairwise (· <= ·)) (x:Int):
 Calls Tryz.prog 180 #[v,.int .i64 x] w fun r w'=>(∃k:Nat,r=.returned (.tuple #[.int .i64 (k:Int),.bool (l.contains x)]))/\∃q,w'=w.drewN q:=by
 have HV:=mk0 hv
 obtain ⟨ao,cap,rfl,-⟩:=hv
 cases l with
 | nil=>
   refine (Any.slices_BinarySearch_int_empty Tryz.laysSearch ao cap x w).mono ?_
   rintro r w' ⟨rfl,rfl⟩
   exact ⟨⟨0,rfl⟩,0,rfl⟩
 | cons y l=>
   obtain ⟨b,off,rfl,-,-⟩:=HV.out.atI 0 (by simp)
   have:=Any.slices_BinarySearch_int Tryz.laysSearch b off (y::l).length cap (y::l) x w (Nat.le_refl _) (by omega) (fun j hj=>by
    obtain ⟨b',off',e,-,e0⟩:=HV.out.atI j hj
    cases e
    rw [e0,List.getD_eq_getElem?_getD,List.getElem?_eq_getElem hj]
    rfl) (by rw [List.take_length];exact hs)
   rw [List.take_length]at this
   refine this.mono ?_
   rintro r w' ⟨rfl,hq⟩
   exact ⟨⟨_,rfl⟩,hq⟩
end Go.Proofs.YtjdnmblggdobgaaGreat
namespace Go.Proofs.YtjdnmblggdobgaaGreat
open Go.RowKit Go.Maps
def unnoted (d:LinkD) (h:HeapD) (x:ThD):Bool:=decide (h.young<x.loc)&& !h.noted.contains x.loc&&hasRefB d.fields h.words x (youngB h)
theorem zim {l:List Int} (h:riseTo l l.length):l.Pairwise (· <= ·):=by
 have key:∀(b a:Nat),a<=b->b<l.length->wd l a<=wd l b:=by
  intro b
  induction b with
  | zero=>intro a ha _;rw [show a=0 by omega];exact Int.le_refl _
  | succ b ih=>
    intro a ha hb
    by_cases e:a=b+1
    ·
     subst e;exact Int.le_refl _
    have h1:=ih a (by omega) (by omega)
    have h2:=h (b+1) (by omega) hb
    rw [show ((b+1:Nat):Int) - 1=(b:Int) by omega]at h2
    omega
 rw [List.pairwise_iff_getElem]
 intro i j hi hj hij
 have:=key j i (by omega) hj
 rwa [zen hi,zen hj]at this
theorem zin (W:World) (X B:Nat) (vW vO kC kS kF kN kT vA:Value) (h:HeapD) (d:LinkD) (ts:List ThD) (hc:Cht X B W vW vO kC kS kF kN kT vA h d ts) (hl:Lain d h ts) (hnl:h.noted.length<=1000000) (hrs:riseTo h.noted h.noted.length) (P:Nat) (hP:W.cell? ⟨P,0,none⟩=some (.pointer (some ⟨X+1,0,none⟩))) (x:ThD) (hx:x∈ts):
 Calls Tryz.prog 179 #[.agg #[.int .i64 x.loc,.int .i64 x.tag,.int .i64 x.len,.int .i64 x.hash],.pointer (some ⟨P,0,none⟩)] W fun r W'=>r=.returned (.bool (unnoted d h x))/\Below W.heap.size W W':=by
 have hPl:P<W.heap.size:=World.block_lt_of_cell? W _ hP
 obtain ⟨W0,hW⟩:∃W0,W0=W.alloc (.cells #[.int .i64 x.loc,.int .i64 x.tag,.int .i64 x.len,.int .i64 x.hash] 101):=⟨_,rfl⟩
 have hB0:Below W.heap.size W W0:=hW ▸ (Below.refl _ _).alloc (Nat.le_refl _) _
 have hbx:W0.heap[W.heap.size]? =some (.cells #[.int .i64 x.loc,.int .i64 x.tag,.int .i64 x.len,.int .i64 x.hash] 101 (0,0)):=hW ▸ heap_alloc_new W _
 have hc0:=hc.below hB0
 have HBS:Hid (∀V,Below W0.heap.size W0 V->Calls Tryz.prog 180 #[vO,.int .i64 x.loc] V fun r w'=>(∃k:Nat,r=.returned (.tuple #[.int .i64 (k:Int),.bool (h.noted.contains x.loc)]))/\Below V.heap.size V w'):=fun V hV=>(zil V B vO h.noted (hc0.below hV).sO hnl (zim hrs) x.loc).mono fun r w' ⟨hk,q,hq⟩=>⟨hk,hq ▸ zdq (Below.refl _ _) q⟩
 have gl:=lt0 hc0.blk
 have m5:=cl0 hc0.blk 5 (x:=vO) rfl
 have b0:=cl0 hbx 0 (x:=.int .i64 x.loc) rfl
 have p0:W0.cell? ⟨P,0,none⟩=some (.pointer (some ⟨X+1,0,none⟩)):=(hB0.cell (p:=⟨P,0,none⟩) hPl).trans hP
 have lb:=lt0 hbx
 obtain ⟨aO,cO,rfl,-⟩:=hc0.sO
 obtain ⟨hf,h1,h2⟩:=hl.fit x hx
 have HL:=mk0 (And.intro hl.words (And.intro hf (And.intro h1 h2)))
 have HUN:Hid (unnoted d h x=(decide (h.young<x.loc)&& !h.noted.contains x.loc&&hasRefB d.fields h.words x (youngB h))):=rfl
 have HC0:=mk0 hc0
 have HB0:=mk0 hB0
 have HBX:=mk0 hbx
 have HW:=mk0 hW
 have HP0:=mk0 p0
 have hp00:P<W0.heap.size:=by have:=hB0.size;omega
 clear hc hc0 hl hP hB0 hbx hW hf h1 h2 hx hrs
 go_enter Tryz.func179,Tryz.ntmps179
 go_wp2_with fail
 rw [<-HW.out]
 generalize h.noted.contains x.loc=ct at*
 refine wp_region_held_drew (S:=fun W'=>∀p:Addr,p.block<W0.heap.size->W'.cell? p=W0.cell? p) (by kernel_rfl) (fun p hp=>rfl) fun hH=>?_
 refine ta 0 (.pointer (some ⟨P,0,none⟩)) rfl hH ?_
 refine ta 1 (.pointer (some ⟨X+1,0,none⟩)) rfl hH ?_
 refine ta 2 (.pointer (some ⟨X+1,0,none⟩)) rfl hH ?_
 refine ta 3 (.pointer (some ⟨X+1,0,none⟩)) rfl hH ?_
 refine ta 4 (.pointer (some ⟨X+1,0,none⟩)) rfl hH ?_
 refine ta 5 (.pointer (some ⟨X+1,5,none⟩)) rfl hH ?_
 refine ta 6 (.slice aO h.noted.length cO) rfl hH ?_
 refine ta 7 (.pointer (some ⟨W.heap.size,0,none⟩)) rfl hH ?_
 refine ta 8 (.int .i64 x.loc) rfl hH ?_
 refine wpAnyH_ready (rs:=[9]) (by kernel_rfl) (by simp) ?_
 refine AllReadyH.cons rfl (fun K9 hK9=>?_) AllReadyH.nil
 go_simp
 refine (HBS.out _ (Below.refl _ _).drew).mono ?_
 rintro r w2 ⟨⟨kk,rfl⟩,hb2⟩
 have hb3:Below W0.heap.size W0 w2:=(Below.refl W0.heap.size W0).drew.trans hb2
 refine hK9.out _ _ (fun p hp=>hb3.cell hp) fun hH=>?_
 refine ta 10 (.tuple #[.int .i64 (kk:Int),.bool ct]) rfl hH ?_
 refine ta 11 (.int .i64 (kk:Int)) rfl hH ?_
 refine ta 12 (.bool ct) rfl hH ?_
 refine ta 13 (.int .i64 (kk:Int)) rfl hH ?_
 refine ta 14 (.bool ct) rfl hH ?_
 refine wpAnyH_done (by kernel_rfl) ?_ _
 clear hH
 simp only [Act.put,List.setIfInBounds_toArray,List.set_cons_zero,List.set_cons_succ,List.getElem_toArray,List.getElem_cons_zero,List.getElem_cons_succ]
 have hs2:=hb3.size
 have p2:=(hb3.cell (p:=⟨P,0,none⟩) (by show P<_;omega)).trans HP0.out
 have hb8:=(hb3.block W.heap.size lb).trans HBX.out
 have s0:=cl0 hb8 0 (x:=.int .i64 x.loc) rfl
 have s1:=cl0 hb8 1 (x:=.int .i64 x.tag) rfl
 have s2:=cl0 hb8 2 (x:=.int .i64 x.len) rfl
 have s3:=cl0 hb8 3 (x:=.int .i64 x.hash) rfl
 have l8:=lt0 hb8
 have g2:X+1<w2.heap.size:=by omega
 have hp2:P<w2.heap.size:=by omega
 have HC2:=mk0 (HC0.out.below hb3)
 have HB2:Hid (Below W.heap.size W w2):=HB0.out.trans (hb3.mono HB0.out.size)
 have HIO:Hid (∀V,Below w2.heap.size w2 V->Calls Tryz.prog 177 #[.pointer (some ⟨X+1,0,none⟩),.int .i64 x.loc] V fun r w'=>r=.returned (.bool (decide (h.young<x.loc)))/\w'=V):=fun V hV=>zez V B (X+1) _ _ _ _ _ _ _ h d (HC2.out.below hV).gd x.loc
 have HHR:Hid (∀V,Below w2.heap.size w2 V->Calls Tryz.prog 172 #[.pointer (some ⟨X+1,0,none⟩),.agg #[.int .i64 x.loc,.int .i64 x.tag,.int .i64 x.len,.int .i64 x.hash],.func (.func 153) #[.pointer (some ⟨X+1,0,none⟩)] #[]] V fun r w'=>r=.returned (.bool (hasRefB d.fields h.words x (youngB h)))/\Below V.heap.size V w'):=fun V hV=>by
  have hcV:=HC2.out.below hV
  refine zh3 V B (X+1) _ _ _ _ _ _ _ h d hcV.gd x HL.out.2.1 HL.out.2.2.1 HL.out.2.2.2 HL.out.1 153 _ _ (youngB h) (fun args w=>by kernel_rfl) ?_
  intro a ha V2 hV2
  exact (ze0 V2 B (X+1) _ _ _ _ _ _ _ h d (hcV.below hV2).gd _).mono fun r w' ⟨e1,e2⟩=>⟨e1,e2 ▸ Below.refl _ _⟩
 have hmf:=mkf Tryz.prog
 generalize hasRefB d.fields h.words x (youngB h)=hr at*
 clear hb3 hb8 HC0 HB0 HBX HP0 HBS b0 p0 m5 hb2 hK9
 by_cases hy:h.young<x.loc
 ·
  have hd:decide (h.young<x.loc)=true:=by simp [hy]
  rw [hd]at HIO HUN
  cases ct with
  | true=>
    go_wp2_with fail
    refine wp_region_held_drew (S:=fun W'=>∀p:Addr,p.block<w2.heap.size->W'.cell? p=w2.cell? p) (by kernel_rfl) (fun p hp=>rfl) fun hH=>?_
    refine ta 0 (.pointer (some ⟨P,0,none⟩)) rfl hH ?_
    refine ta 1 (.pointer (some ⟨X+1,0,none⟩)) rfl hH ?_
    refine ta 2 (.pointer (some ⟨X+1,0,none⟩)) rfl hH ?_
    refine ta 3 (.pointer (some ⟨X+1,0,none⟩)) rfl hH ?_
    refine ta 4 (.pointer (some ⟨W.heap.size,0,none⟩)) rfl hH ?_
    refine ta 5 (.int .i64 x.loc) rfl hH ?_
    refine wpAnyH_ready (rs:=[6]) (by kernel_rfl) (by simp) ?_
    refine AllReadyH.cons rfl (fun K6 hK6=>?_) AllReadyH.nil
    go_simp
    refine (HIO.out _ (Below.refl _ _).drew).mono ?_
    rintro r _ ⟨rfl,rfl⟩
    refine hK6.out _ _ (fun p hp=>rfl) fun hH=>?_
    refine ta 7 (.bool true) rfl hH ?_
    refine ta 8 (.bool true) rfl hH ?_
    refine ta 9 (.bool false) rfl hH ?_
    refine ta 10 (.bool false) rfl hH ?_
    refine ta 11 (.bool false) rfl hH ?_
    refine tan 12 rfl hH ?_
    refine tan 13 rfl hH ?_
    refine tan 14 rfl hH ?_
    refine tan 15 rfl hH ?_
    refine tan 16 rfl hH ?_
    refine tan 17 rfl hH ?_
    refine tan 18 rfl hH ?_
    refine tan 19 rfl hH ?_
    refine tan 20 rfl hH ?_
    refine tan 21 rfl hH ?_
    refine tan 22 rfl hH ?_
    refine ta 23 (.bool false) rfl hH ?_
    refine ta 24 (.bool false) rfl hH ?_
    refine wpAnyH_done (by kernel_rfl) ?_ _
    clear hH
    simp only [Act.put,List.setIfInBounds_toArray,List.set_cons_zero,List.set_cons_succ,List.getElem_toArray,List.getElem_cons_zero,List.getElem_cons_succ]
    go_wp2_with fail
    go_ret
    exact ⟨by rw [HUN.out];rfl,HB2.out.drew⟩
  | false=>
    go_wp2_with fail
    refine wp_region_held_drew (S:=fun W'=>∀p:Addr,p.block<w2.heap.size->W'.cell? p=w2.cell? p) (by kernel_rfl) (fun p hp=>rfl) fun hH=>?_
    refine ta 0 (.pointer (some ⟨P,0,none⟩)) rfl hH ?_
    refine ta 1 (.pointer (some ⟨X+1,0,none⟩)) rfl hH ?_
    refine ta 2 (.pointer (some ⟨X+1,0,none⟩)) rfl hH ?_
    refine ta 3 (.pointer (some ⟨X+1,0,none⟩)) rfl hH ?_
    refine ta 4 (.pointer (some ⟨W.heap.size,0,none⟩)) rfl hH ?_
    refine ta 5 (.int .i64 x.loc) rfl hH ?_
    refine wpAnyH_ready (rs:=[6]) (by kernel_rfl) (by simp) ?_
    refine AllReadyH.cons rfl (fun K6 hK6=>?_) AllReadyH.nil
    go_simp
    refine (HIO.out _ (Below.refl _ _).drew).mono ?_
    rintro r _ ⟨rfl,rfl⟩
    refine hK6.out _ _ (fun p hp=>rfl) fun hH=>?_
    refine ta 7 (.bool true) rfl hH ?_
    refine ta 8 (.bool false) rfl hH ?_
    refine ta 9 (.bool true) rfl hH ?_
    refine ta 10 (.bool true) rfl hH ?_
    refine ta 11 (.bool true) rfl hH ?_
    refine ta 12 (.pointer (some ⟨P,0,none⟩)) rfl hH ?_
    refine ta 13 (.pointer (some ⟨X+1,0,none⟩)) rfl hH ?_
    refine ta 14 (.pointer (some ⟨X+1,0,none⟩)) rfl hH ?_
    refine ta 15 (.pointer (some ⟨X+1,0,none⟩)) rfl hH ?_
    refine ta 16 (.agg #[.int .i64 x.loc,.int .i64 x.tag,.int .i64 x.len,.int .i64 x.hash]) rfl hH ?_
    refine ta 17 (.pointer (some ⟨P,0,none⟩)) rfl hH ?_
    refine ta 18 (.pointer (some ⟨X+1,0,none⟩)) rfl hH ?_
    refine ta 19 (.pointer (some ⟨X+1,0,none⟩)) rfl hH ?_
    refine ta 20 (.pointer (some ⟨X+1,0,none⟩)) rfl hH ?_
    refine wpAnyH_ready (rs:=[21]) (by kernel_rfl) (by simp) ?_
    refine AllReadyH.cons rfl (fun K21 hK21=>?_) AllReadyH.nil
    go_simp
    refine hK21.out _ _ (fun p hp=>rfl) fun hH=>?_
    refine wpAnyH_ready (rs:=[22]) (by kernel_rfl) (by simp) ?_
    refine AllReadyH.cons rfl (fun K22 hK22=>?_) AllReadyH.nil
    go_simp
    refine (HHR.out _ (Below.refl _ _).drew).mono ?_
    rintro r w5 ⟨rfl,hb5⟩
    have hb6:Below w2.heap.size w2 w5:=(Below.refl w2.heap.size w2).drew.trans hb5
    refine hK22.out _ _ (fun p hp=>hb6.cell hp) fun hH=>?_
    refine ta 23 (.bool hr) rfl hH ?_
    refine ta 24 (.bool hr) rfl hH ?_
    refine wpAnyH_done (by kernel_rfl) ?_ _
    clear hH
    simp only [Act.put,List.setIfInBounds_toArray,List.set_cons_zero,List.set_cons_succ,List.getElem_toArray,List.getElem_cons_zero,List.getElem_cons_succ]
    go_wp2_with fail
    go_ret
    exact ⟨by rw [HUN.out];rfl,HB2.out.trans (hb6.mono HB2.out.size)⟩
 have hd:decide (h.young<x.loc)=false:=by simp [hy]
 rw [hd]at HIO HUN
 go_wp2_with fail
 refine wp_region_held_drew (S:=fun W'=>∀p:Addr,p.block<w2.heap.size->W'.cell? p=w2.cell? p) (by kernel_rfl) (fun p hp=>rfl) fun hH=>?_
 refine ta 0 (.pointer (some ⟨P,0,none⟩)) rfl hH ?_
 refine ta 1 (.pointer (some ⟨X+1,0,none⟩)) rfl hH ?_
 refine ta 2 (.pointer (some ⟨X+1,0,none⟩)) rfl hH ?_
 refine ta 3 (.pointer (some ⟨X+1,0,none⟩)) rfl hH ?_
 refine ta 4 (.pointer (some ⟨W.heap.size,0,none⟩)) rfl hH ?_
 refine ta 5 (.int .i64 x.loc) rfl hH ?_
 refine wpAnyH_ready (rs:=[6]) (by kernel_rfl) (by simp) ?_
 refine AllReadyH.cons rfl (fun K6 hK6=>?_) AllReadyH.nil
 go_simp
 refine (HIO.out _ (Below.refl _ _).drew).mono ?_
 rintro r _ ⟨rfl,rfl⟩
 refine hK6.out _ _ (fun p hp=>rfl) fun hH=>?_
 refine ta 7 (.bool false) rfl hH ?_
 refine tan 8 rfl hH ?_
 refine tan 9 rfl hH ?_
 refine ta 10 (.bool false) rfl hH ?_
 refine ta 11 (.bool false) rfl hH ?_
 refine tan 12 rfl hH ?_
 refine tan 13 rfl hH ?_
 refine tan 14 rfl hH ?_
 refine tan 15 rfl hH ?_
 refine tan 16 rfl hH ?_
 refine tan 17 rfl hH ?_
 refine tan 18 rfl hH ?_
 refine tan 19 rfl hH ?_
 refine tan 20 rfl hH ?_
 refine tan 21 rfl hH ?_
 refine tan 22 rfl hH ?_
 refine ta 23 (.bool false) rfl hH ?_
 refine ta 24 (.bool false) rfl hH ?_
 refine wpAnyH_done (by kernel_rfl) ?_ _
 clear hH
 simp only [Act.put,List.setIfInBounds_toArray,List.set_cons_zero,List.set_cons_succ,List.getElem_toArray,List.getElem_cons_zero,List.getElem_cons_succ]
 go_wp2_with fail
 go_ret
 exact ⟨by rw [HUN.out];rfl,HB2.out.drew⟩
theorem zio (w:World) (X B:Nat) (vW vO kC kS kF kN kT vA:Value) (h:HeapD) (d:LinkD) (ts:List ThD) (hc:Cht X B w vW vO kC kS kF kN kT vA h d ts) (hl:Lain d h ts) (hnl:h.noted.length<=1000000) (hrs:riseTo h.noted h.noted.length):
 Calls Tryz.prog 116 #[.agg #[.pointer (some ⟨X+1,0,none⟩)]] w fun r w'=>r=.returned (.bool (!ts.any (unnoted d h)))/\Below w.heap.size w w':=by
 have hmf:=mkf Tryz.prog
 obtain ⟨W0,hW⟩:∃W0,W0=w.alloc (.cells #[.pointer (some ⟨X+1,0,none⟩)] 88):=⟨_,rfl⟩
 have hB0:Below w.heap.size w W0:=hW ▸ (Below.refl _ _).alloc (Nat.le_refl _) _
 have hsz:W0.heap.size=w.heap.size+1:=by rw [hW];simp
 have hc1:=hc.below hB0
 have hp:W0.cell? ⟨w.heap.size,0,none⟩=some (.pointer (some ⟨X+1,0,none⟩)):=by rw [hW];simp [go_sem]
 have HCC:Hid (Calls Tryz.prog 168 #[vA,.func (.func 179) #[] #[.pointer (some ⟨w.heap.size,0,none⟩)]] W0 fun r w'=>r=.returned (.bool (ts.any (unnoted d h)))/\Below W0.heap.size W0 w'):=by
  refine zh0 _ _ vA ts (hc1.all hl.len) (Nat.le_refl _) 179 #[] _ (unnoted d h) (fun args w=>by kernel_rfl) ?_
  intro x hx V hV
  exact zin V X B _ _ _ _ _ _ _ vA h d ts (hc1.below hV) hl hnl hrs w.heap.size ((hV.cell (p:=⟨w.heap.size,0,none⟩) (by show w.heap.size<_;omega)).trans hp) x hx
 have gl:=lt0 hc1.blk
 have m12:=cl0 hc1.blk 12 (x:=vA) rfl
 have HB0:=mk0 hB0
 obtain ⟨a,q,rfl⟩:=hc.len
 rw [hW]at HCC m12 gl
 clear hc hc1 hB0 hp hl hrs
 generalize ts.any (unnoted d h)=b at*
 go_enter Tryz.func116,Tryz.ntmps116
 go_wp2_with fail
 refine HCC.out.mono ?_
 rintro r w1 ⟨rfl,hb1⟩
 rw [<-hW]at hb1
 have HB1:Hid (Below w.heap.size w w1):=HB0.out.trans (hb1.mono HB0.out.size)
 clear hb1 HCC
 go_wp2_with fail
 go_ret
 exact ⟨rfl,HB1.out⟩
theorem zip (l m:List Int):intV (l++m)=intV l++intV m:=by simp [intV]
theorem ziq (l:List Int):(intV l).length=l.length:=by simp [intV]
theorem SL.intV {M:Nat->Prop} {w:World} {b off len cap:Nat} {l:List Int} (h:SL 1 RI M w (.slice (some ⟨b,off,none⟩) len cap) l):∀j u,(intV l)[j]? =some u->w.cell? ((⟨b,off,none⟩:Addr).add j)=some u:=by
 intro j u hu
 have hj:j<l.length:=by rw [<-ziq l];exact (List.getElem?_eq_some_iff.1 hu).1
 obtain ⟨b',off',e,-,e0⟩:=h.atI j hj
 cases e
 have:u=.int .i64 l[j]:=by
  rw [Go.Proofs.YtjdnmblggdobgaaGreat.intV,List.getElem?_map,List.getElem?_eq_getElem hj]at hu
  exact (Option.some.inj hu).symm
 rw [this,zg1]
 exact e0
theorem zir {ops:Array Oper} {rest:List Oper} {o:Oper} {a:Act} {Q:Exit->Act->World->Prop} (w:World) (hgd:o.guard=none) (s x:Operand)
 (ho:o.op=.call { callee:=.builtin .append,args:=#[s,x],argTypes:=#[22,22] }) (base:Nat) (v:Value) (xs:List Int) (hs:a.eval s=v) (hown:w.ownsRow base 3 1 v xs.length (intV xs))
 (M:Nat->Prop) (u:Value) (l:List Int) (hx:a.eval x=u) (hu:SL 1 RI M w u l) (hb:xs.length+l.length<=1000000) (hbase:base<=w.heap.size)
 (h:∀v' w',w'.ownsRow base 3 1 v' (xs++l).length (intV (xs++l))->w.grownBy w' v.ownBlock->wpList Tryz.prog ops Q rest (a.put o.dst v') w'):wpList Tryz.prog ops Q (o::rest) a w:=by
 obtain ⟨iI,hiI,hzI0,hzI1,hzI2⟩:=info_parts Tryz.infoInt
 have HU:=hu
 obtain ⟨ao,cl,rfl,-,-,hel⟩:=hu
 cases l with
 | nil=>
   obtain ⟨av,cv,rfl⟩:=zfz hown
   have hoa:=zga hown
   refine zf9 w hgd s x 22 ho 3 iI Tryz.underlying22 hiI av xs.length cv hs hoa.1 hoa.2 ao cl hx ?_
   exact h _ _ (by simpa using hown) (World.grownBy.refl _ _)
 | cons y l=>
   obtain ⟨b,off,cs,e,-⟩:=hel 0 (by simp)
   subst e
   refine wpList_append_lies w hgd s x 22 ho base 3 iI (.int .i64 0) 1 8 Tryz.underlying22 hiI hzI0 hzI1 hzI2 rfl (by decide) v xs.length (intV xs) hs hown ⟨b,off,none⟩ (y::l).length cl (intV (y::l)) hx (by rw [ziq];simp) HU.intV (by
    intro u hu
    obtain ⟨z,-,rfl⟩:=List.mem_map.1 hu
    rfl) (by simp) (by unfold maxLen;omega) (by omega) hbase w.heap.size rfl ?_
   intro g cap w' h1 h2 _ _
   refine h _ _ ?_ h2
   rw [zip,List.length_append]
   exact h1
theorem zis (w:World) (n:Nat) (hn:n<=1000000):
 Calls Tryz.prog 220 #[.slice none 0 0,.int .i64 (n:Int)] w fun r w'=>Below w.heap.size w w'/\∃v,r=.returned v/\w'.ownsRow w.heap.size 3 1 v 0 []:=by
 obtain ⟨iI,hiI,hzI0,hzI1,hzI2⟩:=info_parts Tryz.infoInt
 by_cases h0:n=0
 ·
  subst h0
  have h1:¬((0:Int)<0):=by omega
  go_enter Tryz.func220,Tryz.ntmps220
  go_wp2_with fail
  go_ret
  exact ⟨Below.refl _ _,_,rfl,World.ownsRow_nil _ _ _ _⟩
 have hrz:∀ty,(Builtin.append_ #[22,3] ty #[.slice none 0 0,.int .i64 (n:Int)]).run Tryz.prog w=
  .ok (.slice (some ⟨w.heap.size,0,none⟩) n (grownCap w n 0 3)) (w.drew.alloc (.cells (Builtin.zeroCells (Value.int .i64 0).cells n++Builtin.zeroCells (Value.int .i64 0).cells (grownCap w n 0 3 - n)) 3)):=fun ty=>
  Lib.run_append_nil_zeros w _ _ ty _ iI (.int .i64 0) .i64 .i64 Tryz.underlying22 Tryz.underlying3 hiI hzI0 n (by omega) (by rw [hzI1];omega) (by omega) (by rw [hzI2];omega)
 have hGn:n<=grownCap w n 0 3:=grownCap_ge w _ _ _
 have hGm:grownCap w n 0 3<=maxLen:=grownCap_le_maxLen w n 0 _ (by unfold maxLen;omega)
 obtain ⟨G,hG⟩:∃G,G=grownCap w n 0 3:=⟨_,rfl⟩
 rw [<-hG]at hrz hGn hGm
 have HOW:Hid ((w.drew.alloc (.cells (Builtin.zeroCells (Value.int .i64 0).cells n++Builtin.zeroCells (Value.int .i64 0).cells (G - n)) 3)).ownsRow w.heap.size 3 1 (.slice (some ⟨w.heap.size,0,none⟩) 0 G) 0 []):=by
  refine World.ownsRow_made w.drew _ G (Nat.le_refl _) hGm ?_
  simp [Builtin.zeroCells,Value.cells]
  omega
 have HBL:Hid (Below w.heap.size w (w.drew.alloc (.cells (Builtin.zeroCells (Value.int .i64 0).cells n++Builtin.zeroCells (Value.int .i64 0).cells (G - n)) 3))):=(Below.refl _ _).drew.alloc (Nat.le_refl _) _
 generalize (Obj.cells (Builtin.zeroCells (Value.int .i64 0).cells n++Builtin.zeroCells (Value.int .i64 0).cells (G - n)) 3)=ob at*
 have h1:¬((n:Int)<0):=by omega
 have h4:(0:Int)<n:=by omega
 have hG63:G<=9223372036854775807:=by unfold maxLen at hGm;omega
 clear hG hGm
 go_enter Tryz.func220,Tryz.ntmps220
 go_wp2_with (at_builtin;refine Lib.wpList_append_run _ rfl _ _ _ _ rfl _ _ rfl rfl _ _ (hrz _) ?_)
 go_ret
 exact ⟨HBL.out,_,rfl,HOW.out⟩
def cat (ps:List (List Int)):List Int:=ps.flatten
theorem zit (ps:List (List Int)) (k:Nat) (hk:k<ps.length):cat (ps.take (k+1))=cat (ps.take k)++ps[k]:=by
 unfold cat
 rw [List.take_succ_eq_append_getElem hk,List.flatten_append]
 simp
theorem ziu (ps:List (List Int)) (k:Nat):(cat (ps.take k)).length<=(cat ps).length:=by
 have:(cat ps).length=(cat (ps.take k)).length+(cat (ps.drop k)).length:=by unfold cat;rw [<-List.length_append,<-List.flatten_append,List.take_append_drop]
 omega
theorem ziv (w:World) (B:Nat) (v:Value) (ps:List (List Int)) (hv:SL 1 (RSl 1 RI) (· <B) w v ps) (hB:B<=w.heap.size) (hl:(cat ps).length<=500000):
 Calls Tryz.prog 173 #[v] w fun r w'=>Below w.heap.size w w'/\∃v',r=.returned v'/\w'.ownsRow w.heap.size 3 1 v' (cat ps).length (intV (cat ps)):=by
 have HV:=mk0 hv
 obtain ⟨ao,cl,rfl,-,hm,-⟩:=hv
 unfold maxLen at hm
 have HL:∀k,(cat (ps.take k)).length<=500000:=fun k=>Nat.le_trans (ziu ps k) hl
 go_enter Tryz.func173,Tryz.ntmps173
 go_wp2_with fail
 go_loopw [3,11] (fun s i wr=>∃k:Nat,k<=ps.length/\i=.int .i64 k/\s=.int .i64 ((cat (ps.take k)).length:Nat)/\w=wr) (fun _ i _=>ps.length - (intOf i).toNat)
 case atStart=>exact ⟨0,Nat.zero_le _,rfl,rfl,rfl⟩
 case round=>
  obtain ⟨k,hk,rfl,rfl,rfl⟩:=hrel
  have hl0:=HL k
  by_cases hlt:k<ps.length
  ·
   obtain ⟨b,off,a1,c1,rfl,hb,e1,s1⟩:=HV.out.atSl k hlt
   have hl1:=HL (k+1)
   rw [zit ps k hlt,List.length_append]at hl1
   have HFT:Hid ((cat (ps.take (k+1))).length=(cat (ps.take k)).length+ps[k].length):=by show _=_;rw [zit ps k hlt,List.length_append]
   have q1:(0:Int)<=k:=by omega
   have q2:(k:Int)<ps.length:=by omega
   clear s1
   generalize (cat (ps.take k)).length=n at*
   generalize ps[k].length=m at*
   have q3:¬((n:Int)+(m:Int)<0):=by omega
   go_wp2_with fail
   go_roundw
   case rel=>exact ⟨k+1,by omega,by go_num,by rw [HFT.out];go_num,trivial⟩
   case measure=>simp [intOf];omega
  have hke:k=ps.length:=by omega
  rw [hke,List.take_length]at hl0 ⊢
  clear hke hlt hk
  have HGW:=mk0 (zis w (cat ps).length (by omega))
  go_wp2_with fail
  refine HGW.out.mono ?_
  rintro r w1 ⟨hb1,v1,rfl,hown1⟩
  have HS1:Hid (w.heap.size<=w1.heap.size):=hb1.size
  have HO1:=mk0 (And.intro hown1 hb1)
  obtain ⟨a1,c1,rfl⟩:=zfz hown1
  clear hown1 hb1 HGW
  go_wp2_with fail
  go_loopw [6,27] (fun u i wr=>∃k:Nat,k<=ps.length/\i=.int .i64 k/\Hid (wr.ownsRow w.heap.size 3 1 u (cat (ps.take k)).length (intV (cat (ps.take k)))/\Below w.heap.size w wr)) (fun _ i _=>ps.length - (intOf i).toNat)
  case atStart=>exact ⟨0,Nat.zero_le _,rfl,HO1.out⟩
  case round=>
   obtain ⟨k,hk,rfl,HI⟩:=hrel
   by_cases hlt:k<ps.length
   ·
    have hsz:=HI.out.2.size
    have HV2:=HV.out.keptSl (Kp.below (HI.out.2.mono hB)) (fun _ _ h=>h)
    obtain ⟨b,off,a2,c2,rfl,hb,e1,s1⟩:=HV2.atSl k hlt
    have q1:(0:Int)<=k:=by omega
    have q2:(k:Int)<ps.length:=by omega
    have hl1:=HL (k+1)
    rw [zit ps k hlt,List.length_append]at hl1
    have HFT:=mk0 (zit ps k hlt)
    obtain ⟨a3,c3,rfl⟩:=zfz HI.out.1
    have HOW:=mk0 HI.out.1
    have HS1:=mk0 s1
    have HB2:=mk0 HI.out.2
    have HLL:Hid ((cat (ps.take k)).length+ps[k].length<=1000000):=by show _<=_;omega
    clear s1 HV2 HI
    generalize hpk:ps[k]=pk at*
    generalize hpt:(cat (ps.take k))=pt at*
    clear hpk hpt
    go_wp2_with (at_builtin;refine zir _ rfl _ _ rfl w.heap.size (.slice a3 pt.length c3) pt rfl HOW.out (· <B) (.slice a2 pk.length c2) pk rfl HS1.out HLL.out hsz ?_)
    intro v' w3 hown3 hgr3
    have hB3:Below w.heap.size w w3:=HB2.out.grown hgr3 hsz (fun k e=>(HOW.out.lt k e).1)
    have HF:Hid (w3.ownsRow w.heap.size 3 1 v' (cat (ps.take (k+1))).length (intV (cat (ps.take (k+1))))/\Below w.heap.size w w3):=by
     show _/\_
     rw [HFT.out,List.length_append]
     exact ⟨hown3,hB3⟩
    clear hown3 hgr3 hB3
    go_wp2_with fail
    go_roundw
    case rel=>exact ⟨k+1,by omega,by go_num,HF.out⟩
    case measure=>simp [intOf];omega
   have hke:k=ps.length:=by omega
   have HF:=HI.out
   rw [hke,List.take_length]at HF
   have HF:=mk0 HF
   clear HI
   go_wp2_with fail
   go_ret
   exact ⟨HF.out.2,_,rfl,HF.out.1⟩
theorem SL.sub {M:Nat->Prop} {w:World} {b off n cap:Nat} {l:List Int} (h:SL 1 RI M w (.slice (some ⟨b,off,none⟩) n cap) l) (lo hi:Nat) (h1:lo<=hi) (h2:hi<=l.length):SL 1 RI M w (sliced (some ⟨b,off,none⟩) lo hi cap 1) ((l.take hi).drop lo):=by
 obtain ⟨ao,cp,e,hc,hm,hel⟩:=h
 cases e
 have hlen:((l.take hi).drop lo).length=hi - lo:=by simp;omega
 refine ⟨(if cap=lo then some ⟨b,off,none⟩ else (some (⟨b,off,none⟩:Addr)).map (·.add (lo*1))),cap - lo,?_,by omega,by omega,fun k hk=>?_⟩
 ·
  rw [hlen]
  rfl
 rw [hlen]at hk
 obtain ⟨b',off',cs,e,hM,hb,hn,hcell,hr⟩:=hel (lo+k) (by omega)
 cases e
 refine ⟨b,off+lo,cs,?_,hM,hb,hn,fun j hj=>?_,?_⟩
 ·
  rw [if_neg (by omega),Option.map_some,zg1,Nat.mul_one]
 ·
  have:=hcell j hj
  rw [<-this]
  congr 1
  congr 1
  omega
 have:((l.take hi).drop lo)[k]=l[lo+k]:=by simp
 rw [this]
 exact hr
def restL (h:HeapD):List Int:=h.words.take 1++((h.words.take (h.young+1).toNat).drop h.ytop.toNat++h.words.drop h.otop.toNat)
theorem ziw (w:World) (n:Int):Calls Tryz.prog 175 #[.int .i64 n] w fun r w'=>r=.returned (.bool (n != 0))/\Below w.heap.size w w':=by
 go_enter Tryz.func175,Tryz.ntmps175
 go_wp2_with fail
 go_ret
 exact ⟨rfl,Below.refl _ _⟩
theorem zix (w:World) (X B:Nat) (vW vO kC kS kF kN kT vA:Value) (h:HeapD) (d:LinkD) (ts:List ThD) (hc:Cht X B w vW vO kC kS kF kN kT vA h d ts) (hz:Sized d h):
 Calls Tryz.prog 113 #[.agg #[.pointer (some ⟨X+1,0,none⟩)]] w fun r w'=>r=.returned (.bool (!(restL h).any (· != 0)))/\Below w.heap.size w w':=by
 obtain ⟨W0,hW⟩:∃W0,W0=w.alloc (.cells #[.pointer (some ⟨X+1,0,none⟩)] 88):=⟨_,rfl⟩
 have hB0:Below w.heap.size w W0:=hW ▸ (Below.refl _ _).alloc (Nat.le_refl _) _
 have hsz:W0.heap.size=w.heap.size+1:=by rw [hW];simp
 have hc1:=hc.below hB0
 have hp:W0.cell? ⟨w.heap.size,0,none⟩=some (.pointer (some ⟨X+1,0,none⟩)):=by rw [hW];simp [go_sem]
 have gl:=lt0 hc1.blk
 have m0:=cl0 hc1.blk 0 (x:=vW) rfl
 have m1:=cl0 hc1.blk 1 (x:=.int .i64 h.young) rfl
 have m3:=cl0 hc1.blk 3 (x:=.int .i64 h.ytop) rfl
 have m4:=cl0 hc1.blk 4 (x:=.int .i64 h.otop) rfl
 have hz1:=hz.young
 have hz2:=hz.old
 have hz3:=hz.len
 have hz4:=hz.ytop
 have hz5:=hz.otop
 have HS:=mk0 hc1.sW
 obtain ⟨aW,cW,rfl,hcap,hmx,hel⟩:=hc1.sW
 obtain ⟨bW,oW,cs,rfl,hbB,hbl,-⟩:=hel 0 (by omega)
 unfold maxLen at hmx
 have hBX:=hc.le
 obtain ⟨s1,hs1⟩:∃s,s=sliced (some ⟨bW,oW,none⟩) 0 1 cW 1:=⟨_,rfl⟩
 obtain ⟨s2,hs2⟩:∃s,s=sliced (some ⟨bW,oW,none⟩) h.ytop.toNat (h.young+1).toNat cW 1:=⟨_,rfl⟩
 obtain ⟨s3,hs3⟩:∃s,s=sliced (some ⟨bW,oW,none⟩) h.otop.toNat h.words.length cW 1:=⟨_,rfl⟩
 have r1:∀V,(Instr.slice 22 (.slice (some ⟨bW,oW,none⟩) h.words.length cW) none (some (.int .i64 1)) none).run Tryz.prog V=.ok s1 V:=fun V=>by
  rw [hs1,run_slice_h V 22 _ _ _ Tryz.underlying22 .i64 1 (by omega) (by omega)]
  rfl
 have r2:∀V,(Instr.slice 22 (.slice (some ⟨bW,oW,none⟩) h.words.length cW) (some (.int .i64 h.ytop)) (some (.int .i64 (h.young+1))) none).run Tryz.prog V=.ok s2 V:=fun V=>by
  rw [hs2,run_slice_lh V 22 _ _ _ Tryz.underlying22 .i64 .i64 h.ytop (h.young+1) (by omega) (by omega) (by omega)]
  rfl
 have r3:∀V,(Instr.slice 22 (.slice (some ⟨bW,oW,none⟩) h.words.length cW) (some (.int .i64 h.otop)) none none).run Tryz.prog V=.ok s3 V:=fun V=>by
  rw [hs3,run_slice_l V 22 _ _ _ Tryz.underlying22 .i64 h.otop (by omega) (by omega)]
  rfl
 have t1:SL 1 RI (· <B) W0 s1 (h.words.take 1):=hs1 ▸ HS.out.sub 0 1 (by omega) (by omega)
 have t2:SL 1 RI (· <B) W0 s2 ((h.words.take (h.young+1).toNat).drop h.ytop.toNat):=hs2 ▸ HS.out.sub h.ytop.toNat (h.young+1).toNat (by omega) (by omega)
 have t3:SL 1 RI (· <B) W0 s3 (h.words.drop h.otop.toNat):=by
  have:=HS.out.sub h.otop.toNat h.words.length (by omega) (Nat.le_refl _)
  rw [List.take_length]at this
  exact hs3 ▸ this
 have HBW:Hid (Below W0.heap.size W0 (W0.drew.alloc (.cells #[s1,s2,s3] 22))):=(Below.refl _ _).drew.alloc (Nat.le_refl _) _
 have hBW0:B<=W0.heap.size:=by omega
 have HCC:Hid (Calls Tryz.prog 173 #[.slice (some ⟨W0.heap.size,0,none⟩) 3 3] (W0.drew.alloc (.cells #[s1,s2,s3] 22)) fun r w'=>Below (W0.drew.alloc (.cells #[s1,s2,s3] 22)).heap.size (W0.drew.alloc (.cells #[s1,s2,s3] 22)) w'/\∃v',r=.returned v'/\w'.ownsRow (W0.drew.alloc (.cells #[s1,s2,s3] 22)).heap.size 3 1 v' (restL h).length (intV (restL h))):=by
  have hk:=Kp.below (HBW.out.mono hBW0)
  have hblk:(W0.drew.alloc (.cells #[s1,s2,s3] 22)).heap[W0.heap.size]? =some (.cells #[s1,s2,s3] 22 (0,0)):=heap_alloc_new W0.drew _
  have hll:=lt0 hblk
  have hsl:SL 1 (RSl 1 RI) (· <W0.heap.size+1) (W0.drew.alloc (.cells #[s1,s2,s3] 22)) (.slice (some ⟨W0.heap.size,0,none⟩) 3 3) [h.words.take 1,(h.words.take (h.young+1).toNat).drop h.ytop.toNat,h.words.drop h.otop.toNat]:=by
   refine ⟨_,3,rfl,by simp,by unfold maxLen;simp,fun k hk'=>?_⟩
   have hmo:∀b,b<B->b<W0.heap.size+1:=fun b hb=>by omega
   match k,hk' with
   | 0,_=>exact ⟨_,_,[s1],rfl,Nat.lt_succ_self _,hll,rfl,(fun j hj=>by rw [Nat.lt_one_iff.1 hj];exact cl0 hblk 0 rfl),s1,rfl,(t1.keptI hk).monoI hmo⟩
   | 1,_=>exact ⟨_,_,[s2],rfl,Nat.lt_succ_self _,hll,rfl,(fun j hj=>by rw [Nat.lt_one_iff.1 hj];exact cl0 hblk 1 rfl),s2,rfl,(t2.keptI hk).monoI hmo⟩
   | 2,_=>exact ⟨_,_,[s3],rfl,Nat.lt_succ_self _,hll,rfl,(fun j hj=>by rw [Nat.lt_one_iff.1 hj];exact cl0 hblk 2 rfl),s3,rfl,(t3.keptI hk).monoI hmo⟩
  have hfl:cat [h.words.take 1,(h.words.take (h.young+1).toNat).drop h.ytop.toNat,h.words.drop h.otop.toNat]=restL h:=by simp [restL,cat]
  have:=ziv (W0.drew.alloc (.cells #[s1,s2,s3] 22)) (W0.heap.size+1) _ _ hsl (by omega) (by rw [hfl];simp [restL];omega)
  rw [hfl]at this
  exact this
 have wy:IntKind.i64.wrap (h.young+1)=h.young+1:=ws0 _ (by omega) (by omega)
 have HB0:=mk0 hB0
 have HW:=mk0 hW
 have HRL:Hid ((restL h).length<=1000000):=by show (restL h).length<=1000000;simp [restL];omega
 obtain ⟨a1,n1,c1,e1⟩:∃a n c,s1=.slice a n c:=by obtain ⟨a,c,e,-⟩:=t1;exact ⟨a,_,c,e⟩
 obtain ⟨a2,n2,c2,e2⟩:∃a n c,s2=.slice a n c:=by obtain ⟨a,c,e,-⟩:=t2;exact ⟨a,_,c,e⟩
 obtain ⟨a3,n3,c3,e3⟩:∃a n c,s3=.slice a n c:=by obtain ⟨a,c,e,-⟩:=t3;exact ⟨a,_,c,e⟩
 have HSZ:=mk0 hsz
 have lw:w.heap.size<W0.heap.size:=by omega
 clear hsz
 clear hc hc1 hB0 hel t1 t2 t3 hs1 hs2 hs3 HS hz hW hbB
 subst e1 e2 e3
 generalize restL h=rl at*
 obtain ⟨b,hb⟩:∃b,(rl.any (· != 0))=b:=⟨_,rfl⟩
 rw [hb]
 have HBB:=mk0 hb
 clear hb
 go_enter Tryz.func113,Tryz.ntmps113
 go_wp2_with fail
 rw [<-HW.out]
 refine wp_region_held_drew (S:=fun W'=>∀p:Addr,p.block<W0.heap.size->W'.cell? p=W0.cell? p) (by kernel_rfl) (fun p hp=>rfl) fun hH=>?_
 refine ta 0 (.pointer (some ⟨w.heap.size,0,none⟩)) rfl hH ?_
 refine ta 1 (.pointer (some ⟨X+1,0,none⟩)) rfl hH ?_
 refine ta 2 (.pointer (some ⟨X+1,0,none⟩)) rfl hH ?_
 refine ta 3 (.pointer (some ⟨X+1,0,none⟩)) rfl hH ?_
 refine ta 4 (.pointer (some ⟨X+1,0,none⟩)) rfl hH ?_
 refine ta 5 (.pointer (some ⟨X+1,0,none⟩)) rfl hH ?_
 refine ta 6 (.slice (some ⟨bW,oW,none⟩) h.words.length cW) rfl hH ?_
 refine ta 7 (.slice a1 n1 c1) rfl hH ?_
 refine ta 8 (.pointer (some ⟨w.heap.size,0,none⟩)) rfl hH ?_
 refine ta 9 (.pointer (some ⟨X+1,0,none⟩)) rfl hH ?_
 refine ta 10 (.pointer (some ⟨X+1,0,none⟩)) rfl hH ?_
 refine ta 11 (.pointer (some ⟨X+1,0,none⟩)) rfl hH ?_
 refine ta 12 (.pointer (some ⟨X+1,0,none⟩)) rfl hH ?_
 refine ta 13 (.pointer (some ⟨X+1,0,none⟩)) rfl hH ?_
 refine ta 14 (.slice (some ⟨bW,oW,none⟩) h.words.length cW) rfl hH ?_
 refine ta 15 (.pointer (some ⟨w.heap.size,0,none⟩)) rfl hH ?_
 refine ta 16 (.pointer (some ⟨X+1,0,none⟩)) rfl hH ?_
 refine ta 17 (.pointer (some ⟨X+1,0,none⟩)) rfl hH ?_
 refine ta 18 (.pointer (some ⟨X+1,0,none⟩)) rfl hH ?_
 refine ta 19 (.pointer (some ⟨X+1,0,none⟩)) rfl hH ?_
 refine ta 20 (.pointer (some ⟨X+1,3,none⟩)) rfl hH ?_
 refine ta 21 (.int .i64 h.ytop) rfl hH ?_
 refine ta 22 (.pointer (some ⟨w.heap.size,0,none⟩)) rfl hH ?_
 refine ta 23 (.pointer (some ⟨X+1,0,none⟩)) rfl hH ?_
 refine ta 24 (.pointer (some ⟨X+1,0,none⟩)) rfl hH ?_
 refine ta 25 (.pointer (some ⟨X+1,0,none⟩)) rfl hH ?_
 refine ta 26 (.pointer (some ⟨X+1,0,none⟩)) rfl hH ?_
 refine ta 27 (.pointer (some ⟨X+1,1,none⟩)) rfl hH ?_
 refine ta 28 (.int .i64 h.young) rfl hH ?_
 refine ta 29 (.int .i64 (h.young+1)) rfl hH ?_
 refine ta 30 (.slice a2 n2 c2) rfl hH ?_
 refine ta 31 (.pointer (some ⟨w.heap.size,0,none⟩)) rfl hH ?_
 refine ta 32 (.pointer (some ⟨X+1,0,none⟩)) rfl hH ?_
 refine ta 33 (.pointer (some ⟨X+1,0,none⟩)) rfl hH ?_
 refine ta 34 (.pointer (some ⟨X+1,0,none⟩)) rfl hH ?_
 refine ta 35 (.pointer (some ⟨X+1,0,none⟩)) rfl hH ?_
 refine ta 36 (.pointer (some ⟨X+1,0,none⟩)) rfl hH ?_
 refine ta 37 (.slice (some ⟨bW,oW,none⟩) h.words.length cW) rfl hH ?_
 refine ta 38 (.pointer (some ⟨w.heap.size,0,none⟩)) rfl hH ?_
 refine ta 39 (.pointer (some ⟨X+1,0,none⟩)) rfl hH ?_
 refine ta 40 (.pointer (some ⟨X+1,0,none⟩)) rfl hH ?_
 refine ta 41 (.pointer (some ⟨X+1,0,none⟩)) rfl hH ?_
 refine ta 42 (.pointer (some ⟨X+1,0,none⟩)) rfl hH ?_
 refine ta 43 (.pointer (some ⟨X+1,4,none⟩)) rfl hH ?_
 refine ta 44 (.int .i64 h.otop) rfl hH ?_
 refine ta 45 (.slice a3 n3 c3) rfl hH ?_
 refine wpAnyH_ready (rs:=[46]) (by kernel_rfl) (by simp) ?_
 refine AllReadyH.cons rfl (fun K46 hK46=>?_) AllReadyH.nil
 go_simp
 refine hK46.out _ _ (fun p hp=>Below.cell (B:=W0.heap.size) (w:=W0) ((Below.refl _ _).drew.alloc (Nat.le_refl _) _) hp) fun hH=>?_
 refine wpAnyH_ready (rs:=[47]) (by kernel_rfl) (by simp) ?_
 refine AllReadyH.cons rfl (fun K47 hK47=>?_) AllReadyH.nil
 go_simp
 refine HCC.out.mono ?_
 rintro r w3 ⟨hb3,v3,rfl,hown3⟩
 have hb4:Below W0.heap.size W0 w3:=HBW.out.trans (hb3.mono HBW.out.size)
 refine hK47.out _ _ (fun p hp=>hb4.cell hp) fun hH=>?_
 refine ta 48 (v3) rfl hH ?_
 refine wpAnyH_done (by kernel_rfl) ?_ _
 clear hH
 simp only [Act.put,List.setIfInBounds_toArray,List.set_cons_zero,List.set_cons_succ,List.getElem_toArray,List.getElem_cons_zero,List.getElem_cons_succ]
 have HBF:Hid (Below w.heap.size w w3):=HB0.out.trans (hb4.mono HB0.out.size)
 have HCT:Hid (Calls Tryz.prog 174 #[v3,.func (.func 175) #[] #[]] w3 fun r w'=>r=.returned (.bool b)/\Below w3.heap.size w3 w'):=by
  rw [<-HBB.out]
  have hsl:=(zfb hown3 HRL.out).monoI (M':=(· <w3.heap.size)) fun k hk=>hk.lt
  refine zhy w3 w3.heap.size v3 rl hsl (Nat.le_refl _) 175 #[] #[] (· != 0) (fun args w=>by kernel_rfl) ?_
  intro x hx V hV
  exact ziw V x
 clear hb3 hb4 hown3 m0 m1 m3 m4 r1 r2 r3 HCC HBW hp
 go_wp2_with fail
 refine HCT.out.mono ?_
 rintro r w5 ⟨rfl,hb5⟩
 have HB5:Hid (Below w.heap.size w w5):=HBF.out.trans (hb5.mono HBF.out.size)
 clear hb5 HCT
 go_wp2_with fail
 go_ret
 exact ⟨rfl,HB5.out⟩
end Go.Proofs.YtjdnmblggdobgaaGreat
