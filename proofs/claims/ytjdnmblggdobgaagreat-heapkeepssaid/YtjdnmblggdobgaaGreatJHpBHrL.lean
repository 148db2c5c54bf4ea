import Derived.Test.YtjdnmblggdobgaaGreatJHpQHpU
import Derived.Test.YtjdnmblggdobgaaGreatHsL
import Derived.Shelf.Slices.SearchI
import Derived.Shelf.Slices.Empties
import Derived.Test.YtjdnmblggdobgaaGreatJTk2Dies
import Derived.Test.YtjdnmblggdobgaaGreatJLNoneLSaD
set_option maxHeartbeats 4000000
set_option maxRecDepth 100000
namespace Go.Proofs.YtjdnmblggdobgaaGreat
open Go.RowKit Go.Maps Go.Shelf Go.Lib
theorem zil (w:World) (B:Nat) (v:Value) (l:List Int) (hv:SL 1 RI (· <B) w v l) (hl:l.length<=1000000) (hs:l.Pairwise (· <= ·)) (x:Int):
 Calls Tryz.prog 180 #[v,.int .i64 x] w fun r w'=>(∃k:Nat,r=.returned (.tuple #[.int .i64 (k:Int),.bool (l.contains x)]))/\∃q,w'=w.drewN q:=by
 have HV:=mk0 hv
 obtain ⟨ao,cap,rfl,-⟩:=hv
 cases l with
 | nil=>
   refine (Any.slices_BinarySearch_int_empty Tryz.laysSearch ao cap x w).mono ?_
   rintro r w' ⟨rfl,rfl⟩
   exact ⟨⟨0,rfl⟩,0,rfl⟩
 | cons y l=>
   obtain ⟨b,off,rfl,-,-⟩:=HV.out.atI 0 (by simp)
   have:=Any.slices_BinarySearch_int Tryz.laysSearch b off (y::l).length cap (y::l) x w (Nat.le_refl _) (by omega) (fun j hj=>by
    obtain ⟨b',off',e,-,e0⟩:=HV.out.atI j hj
    cases e
    rw [e0,List.getD_eq_getElem?_getD,List.getElem?_eq_getElem hj]
    rfl) (by rw [List.take_length];exact hs)
   rw [List.take_length]at this
   refine this.mono ?_
   rintro r w' ⟨rfl,hq⟩
   exact ⟨⟨_,rfl⟩,hq⟩
end Go.Proofs.YtjdnmblggdobgaaGreat
namespace Go.Proofs.YtjdnmblggdobgaaGreat
open Go.RowKit Go.Maps
def unnoted (d:LinkD) (h:HeapD) (x:ThD):Bool:=decide (h.young<x.loc)&& !h.noted.contains x.loc&&hasRefB d.fields h.words x (youngB h)
theorem zim {l:List Int} (h:riseTo l l.length):l.Pairwise (· <= ·):=by
 have key:∀(b a:Nat),a<=b->b<l.length->wd l a<=wd l b:=by
  intro b
  induction b with
  | zero=>intro a ha _;rw [show a=0 by omega];exact Int.le_refl _
  | succ b ih=>
    intro a ha hb
    by_cases e:a=b+1
    ·subst e;exact Int.le_refl _
    have h1:=ih a (by omega) (by omega)
    have h2:=h (b+1) (by omega) hb
    rw [show ((b+1:Nat):Int) - 1=(b:Int) by omega]at h2
    omega
 rw [List.pairwise_iff_getElem]
 intro i j hi hj hij
 have:=key j i (by omega) hj
 rwa [zen hi,zen hj]at this
theorem zin (W:World) (X B:Nat) (vW vO kC kS kF kN kT vA:Value) (h:HeapD) (d:LinkD) (ts:List ThD) (hc:Cht X B W vW vO kC kS kF kN kT vA h d ts) (hl:Lain d h ts) (hnl:h.noted.length<=1000000) (hrs:riseTo h.noted h.noted.length) (P:Nat) (hP:W.cell? ⟨P,0,none⟩=some (.pointer (some ⟨X+1,0,none⟩))) (x:ThD) (hx:x∈ts):
 Calls Tryz.prog 179 #[.agg #[.int .i64 x.loc,.int .i64 x.tag,.int .i64 x.len,.int .i64 x.hash],.pointer (some ⟨P,0,none⟩)] W fun r W'=>r=.returned (.bool (unnoted d h x))/\Below W.heap.size W W':=by
 have hPl:P<W.heap.size:=World.block_lt_of_cell? W _ hP
 obtain ⟨W0,hW⟩:∃W0,W0=W.alloc (.cells #[.int .i64 x.loc,.int .i64 x.tag,.int .i64 x.len,.int .i64 x.hash] 101):=⟨_,rfl⟩
 have hB0:Below W.heap.size W W0:=hW ▸ (Below.refl _ _).alloc (Nat.le_refl _) _
 have hbx:W0.heap[W.heap.size]? =some (.cells #[.int .i64 x.loc,.int .i64 x.tag,.int .i64 x.len,.int .i64 x.hash] 101 (0,0)):=hW ▸ heap_alloc_new W _
 have hc0:=hc.below hB0
 have HBS:Hid (∀V,Below W0.heap.size W0 V->Calls Tryz.prog 180 #[vO,.int .i64 x.loc] V fun r w'=>(∃k:Nat,r=.returned (.tuple #[.int .i64 (k:Int),.bool (h.noted.contains x.loc)]))/\Below V.heap.size V w'):=fun V hV=>(zil V B vO h.noted (hc0.below hV).sO hnl (zim hrs) x.loc).mono fun r w' ⟨hk,q,hq⟩=>⟨hk,hq ▸ zdq (Below.refl _ _) q⟩
 have gl:=lt0 hc0.blk
 have m5:=cl0 hc0.blk 5 (x:=vO) rfl
 have b0:=cl0 hbx 0 (x:=.int .i64 x.loc) rfl
 have p0:W0.cell? ⟨P,0,none⟩=some (.pointer (some ⟨X+1,0,none⟩)):=(hB0.cell (p:=⟨P,0,none⟩) hPl).trans hP
 have lb:=lt0 hbx
 obtain ⟨aO,cO,rfl,-⟩:=hc0.sO
 obtain ⟨hf,h1,h2⟩:=hl.fit x hx
 have HL:=mk0 (And.intro hl.words (And.intro hf (And.intro h1 h2)))
 have HUN:Hid (unnoted d h x=(decide (h.young<x.loc)&& !h.noted.contains x.loc&&hasRefB d.fields h.words x (youngB h))):=rfl
 have HC0:=mk0 hc0
 have HB0:=mk0 hB0
 have HBX:=mk0 hbx
 have HW:=mk0 hW
 have HP0:=mk0 p0
 have hp00:P<W0.heap.size:=by have:=hB0.size;omega
 clear hc hc0 hl hP hB0 hbx hW hf h1 h2 hx hrs
 go_enter Tryz.func179,Tryz.ntmps179
 go_wp2_with fail
 rw [<-HW.out]
 generalize h.noted.contains x.loc=ct at*
 refine wp_region_held_drew (S:=fun W'=>∀p:Addr,p.block<W0.heap.size->W'.cell? p=W0.cell? p) (by kernel_rfl) (fun p hp=>rfl) fun hH=>?_
 refine ta 0 (.pointer (some ⟨P,0,none⟩)) rfl hH ?_
 refine ta 1 (.pointer (some ⟨X+1,0,none⟩)) rfl hH ?_
 refine ta 2 (.pointer (some ⟨X+1,0,none⟩)) rfl hH ?_
 refine ta 3 (.pointer (some ⟨X+1,0,none⟩)) rfl hH ?_
 refine ta 4 (.pointer (some ⟨X+1,0,none⟩)) rfl hH ?_
 refine ta 5 (.pointer (some ⟨X+1,5,none⟩)) rfl hH ?_
 refine ta 6 (.slice aO h.noted.length cO) rfl hH ?_
 refine ta 7 (.pointer (some ⟨W.heap.size,0,none⟩)) rfl hH ?_
 refine ta 8 (.int .i64 x.loc) rfl hH ?_
 refine wpAnyH_ready (rs:=[9]) (by kernel_rfl) (by simp) ?_
 refine AllReadyH.cons rfl (fun K9 hK9=>?_) AllReadyH.nil
 go_simp
 refine (HBS.out _ (Below.refl _ _).drew).mono ?_
 rintro r w2 ⟨⟨kk,rfl⟩,hb2⟩
 have hb3:Below W0.heap.size W0 w2:=(Below.refl W0.heap.size W0).drew.trans hb2
 refine hK9.out _ _ (fun p hp=>hb3.cell hp) fun hH=>?_
 refine ta 10 (.tuple #[.int .i64 (kk:Int),.bool ct]) rfl hH ?_
 refine ta 11 (.int .i64 (kk:Int)) rfl hH ?_
 refine ta 12 (.bool ct) rfl hH ?_
 refine ta 13 (.int .i64 (kk:Int)) rfl hH ?_
 refine ta 14 (.bool ct) rfl hH ?_
 refine wpAnyH_done (by kernel_rfl) ?_ _
 clear hH
 simp only [Act.put,List.setIfInBounds_toArray,List.set_cons_zero,List.set_cons_succ,List.getElem_toArray,List.getElem_cons_zero,List.getElem_cons_succ]
 have hs2:=hb3.size
 have p2:=(hb3.cell (p:=⟨P,0,none⟩) (by show P<_;omega)).trans HP0.out
 have hb8:=(hb3.block W.heap.size lb).trans HBX.out
 have s0:=cl0 hb8 0 (x:=.int .i64 x.loc) rfl
 have s1:=cl0 hb8 1 (x:=.int .i64 x.tag) rfl
 have s2:=cl0 hb8 2 (x:=.int .i64 x.len) rfl
 have s3:=cl0 hb8 3 (x:=.int .i64 x.hash) rfl
 have l8:=lt0 hb8
 have g2:X+1<w2.heap.size:=by omega
 have hp2:P<w2.heap.size:=by omega
 have HC2:=mk0 (HC0.out.below hb3)
 have HB2:Hid (Below W.heap.size W w2):=HB0.out.trans (hb3.mono HB0.out.size)
 have HIO:Hid (∀V,Below w2.heap.size w2 V->Calls Tryz.prog 177 #[.pointer (some ⟨X+1,0,none⟩),.int .i64 x.loc] V fun r w'=>r=.returned (.bool (decide (h.young<x.loc)))/\w'=V):=fun V hV=>zez V B (X+1) _ _ _ _ _ _ _ h d (HC2.out.below hV).gd x.loc
 have HHR:Hid (∀V,Below w2.heap.size w2 V->Calls Tryz.prog 172 #[.pointer (some ⟨X+1,0,none⟩),.agg #[.int .i64 x.loc,.int .i64 x.tag,.int .i64 x.len,.int .i64 x.hash],.func (.func 153) #[.pointer (some ⟨X+1,0,none⟩)] #[]] V fun r w'=>r=.returned (.bool (hasRefB d.fields h.words x (youngB h)))/\Below V.heap.size V w'):=fun V hV=>by
  have hcV:=HC2.out.below hV
  refine zh3 V B (X+1) _ _ _ _ _ _ _ h d hcV.gd x HL.out.2.1 HL.out.2.2.1 HL.out.2.2.2 HL.out.1 153 _ _ (youngB h) (fun args w=>by kernel_rfl) ?_
  intro a ha V2 hV2
  exact (ze0 V2 B (X+1) _ _ _ _ _ _ _ h d (hcV.below hV2).gd _).mono fun r w' ⟨e1,e2⟩=>⟨e1,e2 ▸ Below.refl _ _⟩
 have hmf:=mkf Tryz.prog
 generalize hasRefB d.fields h.words x (youngB h)=hr at*
 clear hb3 hb8 HC0 HB0 HBX HP0 HBS b0 p0 m5 hb2 hK9
 by_cases hy:h.young<x.loc
 ·have hd:decide (h.young<x.loc)=true:=by simp [hy]
  rw [hd]at HIO HUN
  cases ct with
  | true=>
    go_wp2_with fail
    refine wp_region_held_drew (S:=fun W'=>∀p:Addr,p.block<w2.heap.size->W'.cell? p=w2.cell? p) (by kernel_rfl) (fun p hp=>rfl) fun hH=>?_
    refine ta 0 (.pointer (some ⟨P,0,none⟩)) rfl hH ?_
    refine ta 1 (.pointer (some ⟨X+1,0,none⟩)) rfl hH ?_
    refine ta 2 (.pointer (some ⟨X+1,0,none⟩)) rfl hH ?_
    refine ta 3 (.pointer (some ⟨X+1,0,none⟩)) rfl hH ?_
    refine ta 4 (.pointer (some ⟨W.heap.size,0,none⟩)) rfl hH ?_
    refine ta 5 (.int .i64 x.loc) rfl hH ?_
    refine wpAnyH_ready (rs:=[6]) (by kernel_rfl) (by simp) ?_
    refine AllReadyH.cons rfl (fun K6 hK6=>?_) AllReadyH.nil
    go_simp
    refine (HIO.out _ (Below.refl _ _).drew).mono ?_
    rintro r _ ⟨rfl,rfl⟩
    refine hK6.out _ _ (fun p hp=>rfl) fun hH=>?_
    refine ta 7 (.bool true) rfl hH ?_
    refine ta 8 (.bool true) rfl hH ?_
    refine ta 9 (.bool false) rfl hH ?_
    refine ta 10 (.bool false) rfl hH ?_
    refine ta 11 (.bool false) rfl hH ?_
    refine tan 12 rfl hH ?_
    refine tan 13 rfl hH ?_
    refine tan 14 rfl hH ?_
    refine tan 15 rfl hH ?_
    refine tan 16 rfl hH ?_
    refine tan 17 rfl hH ?_
    refine tan 18 rfl hH ?_
    refine tan 19 rfl hH ?_
    refine tan 20 rfl hH ?_
    refine tan 21 rfl hH ?_
    refine tan 22 rfl hH ?_
    refine ta 23 (.bool false) rfl hH ?_
    refine ta 24 (.bool false) rfl hH ?_
    refine wpAnyH_done (by kernel_rfl) ?_ _
    clear hH
    simp only [Act.put,List.setIfInBounds_toArray,List.set_cons_zero,List.set_cons_succ,List.getElem_toArray,List.getElem_cons_zero,List.getElem_cons_succ]
    go_wp2_with fail
    go_ret
    exact ⟨by rw [HUN.out];rfl,HB2.out.drew⟩
  | false=>
    go_wp2_with fail
    refine wp_region_held_drew (S:=fun W'=>∀p:Addr,p.block<w2.heap.size->W'.cell? p=w2.cell? p) (by kernel_rfl) (fun p hp=>rfl) fun hH=>?_
    refine ta 0 (.pointer (some ⟨P,0,none⟩)) rfl hH ?_
    refine ta 1 (.pointer (some ⟨X+1,0,none⟩)) rfl hH ?_
    refine ta 2 (.pointer (some ⟨X+1,0,none⟩)) rfl hH ?_
    refine ta 3 (.pointer (some ⟨X+1,0,none⟩)) rfl hH ?_
    refine ta 4 (.pointer (some ⟨W.heap.size,0,none⟩)) rfl hH ?_
    refine ta 5 (.int .i64 x.loc) rfl hH ?_
    refine wpAnyH_ready (rs:=[6]) (by kernel_rfl) (by simp) ?_
    refine AllReadyH.cons rfl (fun K6 hK6=>?_) AllReadyH.nil
    go_simp
    refine (HIO.out _ (Below.refl _ _).drew).mono ?_
    rintro r _ ⟨rfl,rfl⟩
    refine hK6.out _ _ (fun p hp=>rfl) fun hH=>?_
    refine ta 7 (.bool true) rfl hH ?_
    refine ta 8 (.bool false) rfl hH ?_
    refine ta 9 (.bool true) rfl hH ?_
    refine ta 10 (.bool true) rfl hH ?_
    refine ta 11 (.bool true) rfl hH ?_
    refine ta 12 (.pointer (some ⟨P,0,none⟩)) rfl hH ?_
    refine ta 13 (.pointer (some ⟨X+1,0,none⟩)) rfl hH ?_
    refine ta 14 (.pointer (some ⟨X+1,0,none⟩)) rfl hH ?_
    refine ta 15 (.pointer (some ⟨X+1,0,none⟩)) rfl hH ?_
    refine ta 16 (.agg #[.int .i64 x.loc,.int .i64 x.tag,.int .i64 x.len,.int .i64 x.hash]) rfl hH ?_
    refine ta 17 (.pointer (some ⟨P,0,none⟩)) rfl hH ?_
    refine ta 18 (.pointer (some ⟨X+1,0,none⟩)) rfl hH ?_
    refine ta 19 (.pointer (some ⟨X+1,0,none⟩)) rfl hH ?_
    refine ta 20 (.pointer (some ⟨X+1,0,none⟩)) rfl hH ?_
    refine wpAnyH_ready (rs:=[21]) (by kernel_rfl) (by simp) ?_
    refine AllReadyH.cons rfl (fun K21 hK21=>?_) AllReadyH.nil
    go_simp
    refine hK21.out _ _ (fun p hp=>rfl) fun hH=>?_
    refine wpAnyH_ready (rs:=[22]) (by kernel_rfl) (by simp) ?_
    refine AllReadyH.cons rfl (fun K22 hK22=>?_) AllReadyH.nil
    go_simp
    refine (HHR.out _ (Below.refl _ _).drew).mono ?_
    rintro r w5 ⟨rfl,hb5⟩
    have hb6:Below w2.heap.size w2 w5:=(Below.refl w2.heap.size w2).drew.trans hb5
    refine hK22.out _ _ (fun p hp=>hb6.cell hp) fun hH=>?_
    refine ta 23 (.bool hr) rfl hH ?_
    refine ta 24 (.bool hr) rfl hH ?_
    refine wpAnyH_done (by kernel_rfl) ?_ _
    clear hH
    simp only [Act.put,List.setIfInBounds_toArray,List.set_cons_zero,List.set_cons_succ,List.getElem_toArray,List.getElem_cons_zero,List.getElem_cons_succ]
    go_wp2_with fail
    go_ret
    exact ⟨by rw [HUN.out];rfl,HB2.out.trans (hb6.mono HB2.out.size)⟩
 have hd:decide (h.young<x.loc)=false:=by simp [hy]
 rw [hd]at HIO HUN
 go_wp2_with fail
 refine wp_region_held_drew (S:=fun W'=>∀p:Addr,p.block<w2.heap.size->W'.cell? p=w2.cell? p) (by kernel_rfl) (fun p hp=>rfl) fun hH=>?_
 refine ta 0 (.pointer (some ⟨P,0,none⟩)) rfl hH ?_
 refine ta 1 (.pointer (some ⟨X+1,0,none⟩)) rfl hH ?_
 refine ta 2 (.pointer (some ⟨X+1,0,none⟩)) rfl hH ?_
 refine ta 3 (.pointer (some ⟨X+1,0,none⟩)) rfl hH ?_
 refine ta 4 (.pointer (some ⟨W.heap.size,0,none⟩)) rfl hH ?_
 refine ta 5 (.int .i64 x.loc) rfl hH ?_
 refine wpAnyH_ready (rs:=[6]) (by kernel_rfl) (by simp) ?_
 refine AllReadyH.cons rfl (fun K6 hK6=>?_) AllReadyH.nil
 go_simp
 refine (HIO.out _ (Below.refl _ _).drew).mono ?_
 rintro r _ ⟨rfl,rfl⟩
 refine hK6.out _ _ (fun p hp=>rfl) fun hH=>?_
 refine ta 7 (.bool false) rfl hH ?_
 refine tan 8 rfl hH ?_
 refine tan 9 rfl hH ?_
 refine ta 10 (.bool false) rfl hH ?_
 refine ta 11 (.bool false) rfl hH ?_
 refine tan 12 rfl hH ?_
 refine tan 13 rfl hH ?_
 refine tan 14 rfl hH ?_
 refine tan 15 rfl hH ?_
 refine tan 16 rfl hH ?_
 refine tan 17 rfl hH ?_
 refine tan 18 rfl hH ?_
 refine tan 19 rfl hH ?_
 refine tan 20 rfl hH ?_
 refine tan 21 rfl hH ?_
 refine tan 22 rfl hH ?_
 refine ta 23 (.bool false) rfl hH ?_
 refine ta 24 (.bool false) rfl hH ?_
 refine wpAnyH_done (by kernel_rfl) ?_ _
 clear hH
 simp only [Act.put,List.setIfInBounds_toArray,List.set_cons_zero,List.set_cons_succ,List.getElem_toArray,List.getElem_cons_zero,List.getElem_cons_succ]
 go_wp2_with fail
 go_ret
 exact ⟨by rw [HUN.out];rfl,HB2.out.drew⟩
theorem zio (w:World) (X B:Nat) (vW vO kC kS kF kN kT vA:Value) (h:HeapD) (d:LinkD) (ts:List ThD) (hc:Cht X B w vW vO kC kS kF kN kT vA h d ts) (hl:Lain d h ts) (hnl:h.noted.length<=1000000) (hrs:riseTo h.noted h.noted.length):
 Calls Tryz.prog 116 #[.agg #[.pointer (some ⟨X+1,0,none⟩)]] w fun r w'=>r=.returned (.bool (!ts.any (unnoted d h)))/\Below w.heap.size w w':=by
 have hmf:=mkf Tryz.prog
 obtain ⟨W0,hW⟩:∃W0,W0=w.alloc (.cells #[.pointer (some ⟨X+1,0,none⟩)] 88):=⟨_,rfl⟩
 have hB0:Below w.heap.size w W0:=hW ▸ (Below.refl _ _).alloc (Nat.le_refl _) _
 have hsz:W0.heap.size=w.heap.size+1:=by rw [hW];simp
 have hc1:=hc.below hB0
 have hp:W0.cell? ⟨w.heap.size,0,none⟩=some (.pointer (some ⟨X+1,0,none⟩)):=by rw [hW];simp [go_sem]
 have HCC:Hid (Calls Tryz.prog 168 #[vA,.func (.func 179) #[] #[.pointer (some ⟨w.heap.size,0,none⟩)]] W0 fun r w'=>r=.returned (.bool (ts.any (unnoted d h)))/\Below W0.heap.size W0 w'):=by
  refine zh0 _ _ vA ts (hc1.all hl.len) (Nat.le_refl _) 179 #[] _ (unnoted d h) (fun args w=>by kernel_rfl) ?_
  intro x hx V hV
  exact zin V X B _ _ _ _ _ _ _ vA h d ts (hc1.below hV) hl hnl hrs w.heap.size ((hV.cell (p:=⟨w.heap.size,0,none⟩) (by show w.heap.size<_;omega)).trans hp) x hx
 have gl:=lt0 hc1.blk
 have m12:=cl0 hc1.blk 12 (x:=vA) rfl
 have HB0:=mk0 hB0
 obtain ⟨a,q,rfl⟩:=hc.len
 rw [hW]at HCC m12 gl
 clear hc hc1 hB0 hp hl hrs
 generalize ts.any (unnoted d h)=b at*
 go_enter Tryz.func116,Tryz.ntmps116
 go_wp2_with fail
 refine HCC.out.mono ?_
 rintro r w1 ⟨rfl,hb1⟩
 rw [<-hW]at hb1
 have HB1:Hid (Below w.heap.size w w1):=HB0.out.trans (hb1.mono HB0.out.size)
 clear hb1 HCC
 go_wp2_with fail
 go_ret
 exact ⟨rfl,HB1.out⟩
theorem zip (l m:List Int):intV (l++m)=intV l++intV m:=by simp [intV]
theorem ziq (l:List Int):(intV l).length=l.length:=by simp [intV]
theorem SL.intV {M:Nat->Prop} {w:World} {b off len cap:Nat} {l:List Int} (h:SL 1 RI M w (.slice (some ⟨b,off,none⟩) len cap) l):∀j u,(intV l)[j]? =some u->w.cell? ((⟨b,off,none⟩:Addr).add j)=some u:=by
 intro j u hu
 have hj:j<l.length:=by rw [<-ziq l];exact (List.getElem?_eq_some_iff.1 hu).1
 obtain ⟨b',off',e,-,e0⟩:=h.atI j hj
 cases e
 have:u=.int .i64 l[j]:=by
  rw [Go.Proofs.YtjdnmblggdobgaaGreat.intV,List.getElem?_map,List.getElem?_eq_getElem hj]at hu
  exact (Option.some.inj hu).symm
 rw [this,zg1]
 exact e0
theorem zir {ops:Array Oper} {rest:List Oper} {o:Oper} {a:Act} {Q:Exit->Act->World->Prop} (w:World) (hgd:o.guard=none) (s x:Operand)
 (ho:o.op=.call { callee:=.builtin .append,args:=#[s,x],argTypes:=#[22,22] }) (base:Nat) (v:Value) (xs:List Int) (hs:a.eval s=v) (hown:w.ownsRow base 3 1 v xs.length (intV xs))
 (M:Nat->Prop) (u:Value) (l:List Int) (hx:a.eval x=u) (hu:SL 1 RI M w u l) (hb:xs.length+l.length<=1000000) (hbase:base<=w.heap.size)
 (h:∀v' w',w'.ownsRow base 3 1 v' (xs++l).length (intV (xs++l))->w.grownBy w' v.ownBlock->wpList Tryz.prog ops Q rest (a.put o.dst v') w'):wpList Tryz.prog ops Q (o::rest) a w:=by
 obtain ⟨iI,hiI,hzI0,hzI1,hzI2⟩:=info_parts Tryz.infoInt
 have HU:=hu
 obtain ⟨ao,cl,rfl,-,-,hel⟩:=hu
 cases l with
 | nil=>
   obtain ⟨av,cv,rfl⟩:=zfz hown
   have hoa:=zga hown
   refine zf9 w hgd s x 22 ho 3 iI Tryz.underlying22 hiI av xs.length cv hs hoa.1 hoa.2 ao cl hx ?_
   exact h _ _ (by simpa using hown) (World.grownBy.refl _ _)
 | cons y l=>
   obtain ⟨b,off,cs,e,-⟩:=hel 0 (by simp)
   subst e
   refine wpList_append_lies w hgd s x 22 ho base 3 iI (.int .i64 0) 1 8 Tryz.underlying22 hiI hzI0 hzI1 hzI2 rfl (by decide) v xs.length (intV xs) hs hown ⟨b,off,none⟩ (y::l).length cl (intV (y::l)) hx (by rw [ziq];simp) HU.intV (by
    intro u hu
    obtain ⟨z,-,rfl⟩:=List.mem_map.1 hu
    rfl) (by simp) (by unfold maxLen;omega) (by omega) hbase w.heap.size rfl ?_
   intro g cap w' h1 h2 _ _
   refine h _ _ ?_ h2
   rw [zip,List.length_append]
   exact h1
end Go.Proofs.YtjdnmblggdobgaaGreat
