import Derived.Test.YtjdnmblggdobgaaGreatHvD
import Derived.Test.YtjdnmblggdobgaaGreatJHtPHtQ
import Derived.Test.YtjdnmblggdobgaaGreatJTk2Dies
import Derived.DataShut
set_option maxHeartbeats 16000000
set_option maxRecDepth 100000
namespace Go.Proofs.YtjdnmblggdobgaaGreat
open Go.RowKit Go.Maps
theorem zuc (n:Int) (h0: -9223372036854775808<=n) (h1:n<9223372036854775808):IntKind.i64.wrap n=n:=by
 rw [IntKind.wrap_i64]
 omega
theorem zud {d:LinkD} {h:HeapD} {tag len:Int} {old:Bool} (hw:∀x∈h.words,(Lit.int .i64 x).wf=true) (hn:(Lit.int .i64 h.next).wf=true) (ht:(Lit.int .i64 tag).wf=true) (hl:(Lit.int .i64 len).wf=true) (m0:makeRes d h tag len old=0):
 (makeD h tag len old).words.length<=1000000/\(makeD h tag len old).noted.length<=1000000/\(∀x∈(makeD h tag len old).words,(Lit.int .i64 x).wf=true)/\(Lit.int .i64 (topOf h old)).wf=true/\(makeD h tag len old).noted=h.noted:=by
 obtain ⟨hE,hF,hR⟩:=zt2 m0
 obtain ⟨ts,r⟩:=zti hE
 have hz:=r.sized
 have h3:=zma hE r.both hw
 have htp:=zl5 hz old
 have hri:=zl7 hz hR
 have hln:=zt4 h3.2.1 hF
 have h1:=zlt tag len h.next (ws:=h.words) (off:=(topOf h old).toNat) (by omega)
 refine ⟨?_,h3.2.2,fun x hx=>?_,(Lit.wf_int_iff _ _).2 ⟨by show (-9223372036854775808:Int)<=_;have:=htp.1;omega,by show _<=(9223372036854775807:Int);have:=htp.2;omega⟩,rfl⟩
 ·show (put3 h.words (topOf h old).toNat tag len h.next).length<=_
  rw [h1]
  have:=hz.len;have:=hz.young;have:=hz.old;omega
 have hx:x∈put3 h.words (topOf h old).toNat tag len h.next:=hx
 unfold put3 at hx
 rcases List.mem_append.1 hx with q | q
 ·exact hw x (List.mem_of_mem_take q)
 rcases List.mem_append.1 q with q | q
 ·simp at q
  rcases q with rfl | rfl | rfl
  ·exact ht
  ·exact hl
  exact hn
 exact hw x (List.mem_of_mem_drop q)
theorem zue {d:LinkD} {h:HeapD} {loc n v:Int} (hw:∀x∈h.words,(Lit.int .i64 x).wf=true) (hn:∀x∈h.noted,(Lit.int .i64 x).wf=true) (hl:(Lit.int .i64 loc).wf=true) (hv:(Lit.int .i64 v).wf=true) (h0:setErr d h loc n v=0):
 (setH d h loc n v).words.length<=1000000/\(setH d h loc n v).noted.length<=1000000/\(∀x∈(setH d h loc n v).words,(Lit.int .i64 x).wf=true)/\(∀x∈(setH d h loc n v).noted,(Lit.int .i64 x).wf=true)/\0<=loc/\loc<=1000000/\0<=n/\n<=1000000:=by
 obtain ⟨hE,ts,t,k,r,hp,rfl,hk,hv'⟩:=zt8 h0
 obtain ⟨ht,hloc⟩:=zie ts hp
 subst hloc
 have r':=r.set hp hk hv'
 have hsh:setH d h t.loc (k:Int) v=setD d h t k v:=by
  unfold setH
  rw [(zmh hE r.both hp).2]
  rfl
 rw [hsh]
 have h3:=zma hE r.both hw
 have hln:=zkp h3.2.1 h3.1 hw r.both
 have hfit:=hln.fit t ht
 have hft:t.fin=t.loc+3+t.len:=rfl
 have hwl:=hln.words
 have hww:∀x∈(setD d h t k v).words,(Lit.int .i64 x).wf=true:=by
  intro x hx
  have hx:x∈h.words.set (t.loc+3+(k:Int)).toNat v:=hx
  rcases List.mem_or_eq_of_mem_set hx with q | q
  ·exact hw x q
  rw [q];exact hv
 have h4:=zma r'.err r'.both hww
 refine ⟨?_,h4.2.2,hww,fun x hx=>?_,hfit.2.1,by omega,by omega,by omega⟩
 ·show (h.words.set (t.loc+3+(k:Int)).toNat v).length<=_
  rw [List.length_set];omega
 have hx:x∈(if noteB d h t k v then insN h.noted t.loc else h.noted):=hx
 by_cases hb:noteB d h t k v=true
 ·rw [if_pos hb]at hx
  unfold insN at hx
  by_cases hc:h.noted.contains t.loc=true
  ·rw [if_pos hc]at hx;exact hn x hx
  rw [if_neg hc]at hx
  rcases List.mem_append.1 hx with q | q
  ·exact hn x ((List.takeWhile_sublist _).mem q)
  rcases List.mem_cons.1 q with q | q
  ·rw [q];exact hl
  exact hn x ((List.dropWhile_sublist _).mem q)
 rw [if_neg hb]at hx;exact hn x hx
theorem heapKeeps_any (w:World) (B:Nat) (vW vO kC kS kF kN kT:Value) (h:HeapD) (d:LinkD) (g:Hd B w vW vO kC kS kF kN kT h d) (hnb:(Lit.int .i64 h.next).wf=true) (loc n v tag len:Int) (old:Bool) (hwf:(Lit.int .i64 loc).wf=true) (hwv:(Lit.int .i64 v).wf=true) (hwt:(Lit.int .i64 tag).wf=true) (hwl:(Lit.int .i64 len).wf=true):
 Calls Tryz.prog 8 #[.agg #[vW,.int .i64 h.young,.int .i64 h.old,.int .i64 h.ytop,.int .i64 h.otop,vO,.int .i64 h.next],.agg #[kC,kS,kF,kN,kT],.agg #[.int .i64 loc,.int .i64 n,.int .i64 v,.int .i64 tag,.int .i64 len,.bool old]] w fun r w'=>r=.returned (.bool true)/\Below w.heap.size w w':=by
 have HG:=mk0 g
 obtain ⟨aW,cW,aO,cO,aC,cC,aS,cS,aF,cF,aN,cN,aT,cT,rfl,rfl,rfl,rfl,rfl,rfl,rfl⟩:=g.agg
 clear g
 obtain ⟨W0,hW0,hB0,hs0,k0,k1,k2⟩:=boxes3 w #[.slice aW h.words.length cW,.int .i64 h.young,.int .i64 h.old,.int .i64 h.ytop,.int .i64 h.otop,.slice aO h.noted.length cO,.int .i64 h.next] #[.slice aC d.classes.length cC,.slice aS d.supers.length cS,.slice aF d.fields.length cF,.slice aN d.names.length cN,.slice aT d.targets.length cT] #[.int .i64 loc,.int .i64 n,.int .i64 v,.int .i64 tag,.int .i64 len,.bool old] 24 36 59
 have lk0:=lt0 k0
 have lk1:=lt0 k1
 have lk2:=lt0 k2
 have HB0:=mk0 hB0
 have HK0:=mk0 (And.intro k0 (And.intro k1 k2))
 have HGV:Hid (∀V,Below W0.heap.size W0 V->Hd B V (.slice aW h.words.length cW) (.slice aO h.noted.length cO) (.slice aC d.classes.length cC) (.slice aS d.supers.length cS) (.slice aF d.fields.length cF) (.slice aN d.names.length cN) (.slice aT d.targets.length cT) h d):=fun V hV=>HG.out.below ((hB0.trans (hV.mono hB0.size)).mono HG.out.le)
 have HSTV:=mk0 (fun V (hV:Below W0.heap.size W0 V)=>zm2 V B _ _ _ _ _ _ _ h d (HGV.out V hV) loc n v ⟨hwf,hwv⟩ (fun hE t k hp hn hk hb=>by
  obtain ⟨ts,hts⟩:=zst hE
  rw [zso hb]
  exact zsi B _ _ _ _ _ d (setW h (t.loc+3+k).toNat v) t.loc (zim ((zki _).1 (zsq hE hts).1)) (zma hE hts HG.out.ww).2.2))
 have HMKV:=mk0 (fun V (hV:Below W0.heap.size W0 V)=>zme V B _ _ _ _ _ _ _ h d (HGV.out V hV) tag len old)
 have HE0:=mk0 hW0
 have HWF:=mk0 (And.intro hnb (And.intro hwf (And.intro hwv (And.intro hwt hwl))))
 clear hW0 k0 k1 k2 hB0 hs0 hwf hwv hwt hwl hnb
 go_enter Tryz.func8,Tryz.ntmps8
 go_wp2_with fail
 rw [<-HE0.out]
 refine (zno _).mono ?_
 rintro r w1 ⟨rfl,hbw1⟩
 have j2:=(hbw1.block _ lk2).trans HK0.out.2.2
 have d0:=cl0 j2 0 (x:=.int .i64 loc) rfl
 have d1:=cl0 j2 1 (x:=.int .i64 n) rfl
 have d2:=cl0 j2 2 (x:=.int .i64 v) rfl
 have d3:=cl0 j2 3 (x:=.int .i64 tag) rfl
 have d4:=cl0 j2 4 (x:=.int .i64 len) rfl
 have d5:=cl0 j2 5 (x:=.bool old) rfl
 have dl:=lt0 j2
 have j0:=(hbw1.block _ lk0).trans HK0.out.1
 have j1:=(hbw1.block _ lk1).trans HK0.out.2.1
 obtain ⟨a0,a1,a2,a3,a4,a5,a6,az,al⟩:=cells7 j0
 obtain ⟨b0,b1,b2,b3,b4,bl⟩:=cells5 j1
 clear j0 j1
 have HBw1:=mk0 hbw1
 clear hbw1 j2
 by_cases hnx:4611686018427387904<h.next
 ·go_wp2_with fail
  go_ret
  exact ⟨rfl,HB0.out.trans (HBw1.out.mono HB0.out.size)⟩
 have HNX:Hid (h.next<=4611686018427387904):=by show _<=_;omega
 go_wp2_with fail
 refine wp_region_held_drew (S:=fun W'=>∀p:Addr,p.block<w1.heap.size->W'.cell? p=w1.cell? p) (by kernel_rfl) (fun p hp=>rfl) fun hH=>?_
 refine zag 18 rfl fun a ha=>?_
 have sza:a.tmps.size=159:=by rw [ha];rfl
 have ta5:∀h,a.tmps[5]'h=.pointer (some ⟨w.heap.size+1+1,0,none⟩):=by rw [ha];exact fun _=>rfl
 have HA:=mk0 ha
 clear ha
 refine tka 0 27 (.pointer (some ⟨w.heap.size+1+1,0,none⟩)) rfl hH ?_
 refine tka 1 28 (.int .i64 loc) rfl hH ?_
 refine tka 2 29 (.pointer (some ⟨w.heap.size+1+1,1,none⟩)) rfl hH ?_
 refine tka 3 30 (.int .i64 n) rfl hH ?_
 refine tka 4 31 (.pointer (some ⟨w.heap.size+1+1,2,none⟩)) rfl hH ?_
 refine tka 5 32 (.int .i64 v) rfl hH ?_
 refine tka 6 33 (.pointer (some ⟨w.heap.size+1+1,3,none⟩)) rfl hH ?_
 refine tka 7 34 (.int .i64 tag) rfl hH ?_
 refine tka 8 35 (.pointer (some ⟨w.heap.size+1+1,4,none⟩)) rfl hH ?_
 refine tka 9 36 (.int .i64 len) rfl hH ?_
 refine tka 10 37 (.pointer (some ⟨w.heap.size+1+1,5,none⟩)) rfl hH ?_
 refine tka 11 38 (.bool old) rfl hH ?_
 refine tka 12 7 (.int .i64 loc) rfl hH ?_
 refine tka 13 8 (.int .i64 n) rfl hH ?_
 refine tka 14 9 (.int .i64 v) rfl hH ?_
 refine tka 15 10 (.int .i64 tag) rfl hH ?_
 refine tka 16 11 (.int .i64 len) rfl hH ?_
 refine tka 17 12 (.bool old) rfl hH ?_
 refine wpAnyH_done (by kernel_rfl) ?_ _
 clear hH
 rw [HA.out]
 simp only [Act.put,List.setIfInBounds_toArray,List.set_cons_zero,List.set_cons_succ]
 obtain ⟨V5,hV5⟩:∃V5,V5=w1.drew:=⟨_,rfl⟩
 rw [<-hV5]
 have hbV5:Below W0.heap.size W0 V5:=HBw1.out.trans ((hV5 ▸ (Below.refl _ _).drew:Below w1.heap.size w1 V5).mono HBw1.out.size)
 clear hV5 d0 d1 d2 d3 d4 d5 dl hnx
 clear a0 a1 a2 a3 a4 a5 a6 al az
 clear b0 b1 b2 b3 b4 bl
 have j0:=(hbV5.block _ lk0).trans HK0.out.1
 have j1:=(hbV5.block _ lk1).trans HK0.out.2.1
 obtain ⟨a0,a1,a2,a3,a4,a5,a6,az,al⟩:=cells7 j0
 obtain ⟨b0,b1,b2,b3,b4,bl⟩:=cells5 j1
 clear j0 j1
 have HC:=mk0 (HSTV.out V5 hbV5)
 have HBV5:=mk0 hbV5
 clear hbV5
 go_wp2_with fail
 refine HC.out.mono ?_
 rintro r w2 ⟨hb2,hso⟩
 clear HC
 clear a0 a1 a2 a3 a4 a5 a6 al az
 clear b0 b1 b2 b3 b4 bl
 have hbw2:Below W0.heap.size W0 w2:=HBV5.out.trans (hb2.mono HBV5.out.size)
 rcases hso with ⟨h0,xW,eW,xO,eO,rfl,hox⟩ | ⟨h0,rfl⟩
 rotate_left
 ·have hne:((setErr d h loc n v)==0)=false:=by simpa using h0
  generalize setErr d h loc n v=se at*
  obtain ⟨W3,hW3,hB3,hs3,-⟩:=boxes1 w2 #[.slice none 0 0,.int .i64 0,.int .i64 0,.int .i64 0,.int .i64 0,.slice none 0 0,.int .i64 0] 24
  have hbW3:Below W0.heap.size W0 W3:=hbw2.trans (hB3.mono hbw2.size)
  have HW3:=mk0 hW3
  clear hW3 hB3 hs3 hb2
  have j0:=(hbw2.block _ lk0).trans HK0.out.1
  have j1:=(hbw2.block _ lk1).trans HK0.out.2.1
  obtain ⟨a0,a1,a2,a3,a4,a5,a6,az,al⟩:=cells7 j0
  obtain ⟨b0,b1,b2,b3,b4,bl⟩:=cells5 j1
  clear j0 j1
  have HC:=mk0 (HMKV.out W3 hbW3)
  have HBW3:=mk0 hbW3
  clear hbW3
  go_wp2_with fail
  rw [<-HW3.out]
  refine HC.out.mono ?_
  rintro r w6 ⟨hb6,hmo⟩
  clear HC
  clear a0 a1 a2 a3 a4 a5 a6 al az
  clear b0 b1 b2 b3 b4 bl
  rcases hmo with ⟨m0,yW,fW,yO,fO,rfl,hoy⟩ | ⟨m0,rfl⟩
  rotate_left
  ·have hne:((makeRes d h tag len old) != 0)=true:=by simpa using m0
   generalize makeRes d h tag len old=mr at*
   go_wp2_with fail
   go_ret
   exact ⟨rfl,HB0.out.trans ((HBW3.out.trans ((hb6.alloc hb6.size _).mono HBW3.out.size)).mono HB0.out.size)⟩
  obtain ⟨hy,hhy⟩:∃hy,makeD h tag len old=hy:=⟨_,rfl⟩
  have HKM:=mk0 (zua m0 HNX.out)
  have HYB:=mk0 (zud HG.out.ww HWF.out.1 HWF.out.2.2.2.1 HWF.out.2.2.2.2 m0)
  rw [hhy]at hoy HKM HYB ⊢
  obtain ⟨kE,kT0,⟨k,hlk,hrow⟩,hnxt⟩:=HKM.out
  have HKB:Hid (k<=1000000):=by
   show _<=_
   obtain ⟨zE,zF,-⟩:=zt2 m0
   obtain ⟨zs,zr⟩:=zti zE
   have:=zt4 (zma zE zr.both HG.out.ww).2.1 zF
   omega
  subst hlk
  have hbw6:Below W0.heap.size W0 w6:=HBW3.out.trans (hb6.mono HBW3.out.size)
  obtain ⟨W7,hW7,hB7,hs7,ky⟩:=boxes1 w6 #[.slice yW hy.words.length fW,.int .i64 hy.young,.int .i64 hy.old,.int .i64 hy.ytop,.int .i64 hy.otop,.slice yO hy.noted.length fO,.int .i64 hy.next] 24
  have hbW7:Below W0.heap.size W0 W7:=hbw6.trans (hB7.mono hbw6.size)
  have gy:=Hd.of_own (hoy.below hB7) (HGV.out W7 hbW7).lk (HGV.out W7 hbW7).le HYB.out.1 HYB.out.2.1 HYB.out.2.2.1 (fun x hx=>HG.out.wn x (HYB.out.2.2.2.2 ▸ hx))
  have HRW:=mk0 (zub W7 W7.heap.size _ _ _ _ _ _ _ hy d gy (topOf h old) HYB.out.2.2.2.1)
  have HGY:=mk0 gy
  have HW7:=mk0 hW7
  have HKY:=mk0 ky
  have j1:=(hbw6.block _ lk1).trans HK0.out.2.1
  obtain ⟨b0,b1,b2,b3,b4,bl⟩:=cells5 j1
  have HBW7:=mk0 hbW7
  have HRO:=mk0 hrow
  have HNT:=mk0 hnxt
  generalize topOf h old=tp at*
  clear hhy m0 HKM hoy hB7 hs7 gy hW7 ky hb6 hbw6 hbW7 j1 hrow hnxt
  go_wp2_with fail
  rw [<-HW7.out]
  refine HRW.out.mono ?_
  rintro r w8 ⟨hb8,⟨-,aR,cR,rfl,hor⟩ | ⟨q1,-⟩⟩
  rotate_left
  ·exact absurd kT0 q1
  rw [HRO.out]at hor ⊢
  rw [List.length_replicate]at hor ⊢
  have hbw8:Below W0.heap.size W0 w8:=HBW7.out.trans (hb8.mono HBW7.out.size)
  have HCK:=mk0 (zle w8 W7.heap.size _ _ _ _ _ _ _ hy d (HGY.out.below hb8))
  rw [kE]at HCK
  have ky8:=(hb8.block _ (lt0 HKY.out)).trans HKY.out
  have HKY8:=mk0 ky8
  clear b0 b1 b2 b3 b4 bl
  obtain ⟨y0,y1,y2,y3,y4,y5,y6,yz,yl⟩:=cells7 ky8
  have j1:=(hbw8.block _ lk1).trans HK0.out.2.1
  obtain ⟨b0,b1,b2,b3,b4,bl⟩:=cells5 j1
  have HBw8:=mk0 hbw8
  have HOR:=mk0 hor
  clear HRW hb8 hbw8 ky8 j1 hor
  go_wp2_with fail
  refine HCK.out.mono ?_
  rintro r w9 ⟨rfl,hb9⟩
  clear HCK
  clear b0 b1 b2 b3 b4 bl
  clear y0 y1 y2 y3 y4 y5 y6 yl yz
  have hbw9:Below W0.heap.size W0 w9:=HBw8.out.trans (hb9.mono HBw8.out.size)
  have ky9:=(hb9.block _ (lt0 HKY8.out)).trans HKY8.out
  have j0:=(hbw9.block _ lk0).trans HK0.out.1
  obtain ⟨y0,y1,y2,y3,y4,y5,y6,yz,yl⟩:=cells7 ky9
  obtain ⟨a0,a1,a2,a3,a4,a5,a6,az,al⟩:=cells7 j0
  have s9:SL 1 RI (MT W7.heap.size [3] w9) w9 (.slice aR k cR) (List.replicate k 0):=zfb (by rw [List.length_replicate];exact zhj HOR.out hb9) (by rw [List.length_replicate];have:=HKB.out;omega)
  have HS9:=mk0 s9
  have wnx:IntKind.i64.wrap (h.next+1)=h.next+1:=zuc _ (by have:(-9223372036854775808:Int)<=h.next:=((Lit.wf_int_iff _ _).1 HWF.out.1).1;omega) (by have:=HNX.out;omega)
  rw [HNT.out]at y6
  have HBw9:=mk0 (HB0.out.trans (hbw9.mono HB0.out.size))
  clear hb9 hbw9 ky9 j0 s9
  go_wp2_with fail
  go_loopw [21] (fun i wr=>∃j:Nat,j<=k/\i=.int .i64 j/\wr=w9) (fun i _=>k - (intOf i).toNat)
  case atStart=>exact ⟨0,Nat.zero_le _,rfl,rfl⟩
  case round=>
   obtain ⟨j,hj,rfl,hwr⟩:=hrel
   rw [hwr]
   clear hwr
   by_cases hjl:j<k
   ·have hkb:=HKB.out
    obtain ⟨bR,oR,hR,hbR,xR⟩:=HS9.out.atI j (by rw [List.length_replicate];exact hjl)
    rw [List.getElem_replicate]at xR
    subst hR
    have q1:(0:Int)<=j:=by omega
    have q2:(j:Int)<k:=by omega
    go_wp2_with fail
    go_roundw
    case rel=>exact ⟨j+1,by omega,by go_num,trivial⟩
    case measure=>simp [intOf];omega
   have q2:¬(j:Int)<k:=by omega
   go_wp2_with fail
   go_ret
   exact ⟨rfl,HBw9.out⟩
 obtain ⟨hx,hhx⟩:∃hx,setH d h loc n v=hx:=⟨_,rfl⟩
 have HKS:=mk0 (zt9 h0)
 have HXB:=mk0 (zue HG.out.ww HG.out.wn HWF.out.2.1 HWF.out.2.2.1 h0)
 rw [hhx]at hox HKS HXB ⊢
 obtain ⟨W3,hW3,hB3,hs3,kx⟩:=boxes1 w2 #[.slice xW hx.words.length eW,.int .i64 hx.young,.int .i64 hx.old,.int .i64 hx.ytop,.int .i64 hx.otop,.slice xO hx.noted.length eO,.int .i64 hx.next] 24
 have hbW3:Below W0.heap.size W0 W3:=hbw2.trans (hB3.mono hbw2.size)
 have gx:=Hd.of_own (hox.below hB3) (HGV.out W3 hbW3).lk (HGV.out W3 hbW3).le HXB.out.1 HXB.out.2.1 HXB.out.2.2.1 HXB.out.2.2.2.1
 have HGE:=mk0 (zmn W3 W3.heap.size _ _ _ _ _ _ _ hx d gx loc n HWF.out.2.1)
 rw [HKS.out.2.1,HKS.out.2.2.1]at HGE
 have HGX:=mk0 gx
 have HW3:=mk0 hW3
 have HKX:=mk0 kx
 have j1:=(hbw2.block _ lk1).trans HK0.out.2.1
 obtain ⟨b0,b1,b2,b3,b4,bl⟩:=cells5 j1
 have HBW3:=mk0 hbW3
 clear hhx h0 hox hB3 hs3 gx hW3 kx hb2 hbw2 hbW3 j1
 go_wp2_with fail
 rw [<-HW3.out]
 refine HGE.out.mono ?_
 rintro r w4 ⟨hb4,rfl⟩
 clear HGE
 have hbw4:Below W0.heap.size W0 w4:=HBW3.out.trans (hb4.mono HBW3.out.size)
 have HCK:=mk0 (zle w4 W3.heap.size _ _ _ _ _ _ _ hx d (HGX.out.below hb4))
 rw [HKS.out.1]at HCK
 have kx4:=(hb4.block _ (lt0 HKX.out)).trans HKX.out
 clear b0 b1 b2 b3 b4 bl
 obtain ⟨y0,y1,y2,y3,y4,y5,y6,yz,yl⟩:=cells7 kx4
 have j1:=(hbw4.block _ lk1).trans HK0.out.2.1
 obtain ⟨b0,b1,b2,b3,b4,bl⟩:=cells5 j1
 have HBW4:=mk0 hbw4
 have HBX4:=mk0 hb4
 clear hb4 hbw4 kx4 j1
 go_wp2_with fail
 refine HCK.out.mono ?_
 rintro r w5 ⟨rfl,hb5⟩
 clear HCK
 clear b0 b1 b2 b3 b4 bl
 clear y0 y1 y2 y3 y4 y5 y6 yl yz
 have hbw5:Below W0.heap.size W0 w5:=HBW4.out.trans (hb5.mono HBW4.out.size)
 have hbx5:Below W3.heap.size W3 w5:=HBX4.out.trans (hb5.mono HBX4.out.size)
 have kx5:=(hbx5.block _ (lt0 HKX.out)).trans HKX.out
 have j0:=(hbw5.block _ lk0).trans HK0.out.1
 obtain ⟨y0,y1,y2,y3,y4,y5,y6,yz,yl⟩:=cells7 kx5
 obtain ⟨a0,a1,a2,a3,a4,a5,a6,az,al⟩:=cells7 j0
 rw [HKS.out.2.2.2.1]at y0
 have HBW5:=mk0 hbw5
 have HBX5:=mk0 hbx5
 clear hb5 hbw5 hbx5 kx5 j0
 go_wp2_with fail
 clear a0 a1 a2 a3 a4 a5 a6 al az
 clear y0 y1 y2 y3 y4 y5 y6 yl yz
 go_loopw [17] (fun i wr=>∃j:Nat,j<=h.words.length/\i=.int .i64 j/\Hid (Below w5.heap.size w5 wr)) (fun i _=>h.words.length - (intOf i).toNat)
 case atStart=>exact ⟨0,Nat.zero_le _,rfl,Below.refl _ _⟩
 case round=>
  obtain ⟨j,hj,rfl,HQ⟩:=hrel
  have hwr:Below W0.heap.size W0 wr:=HBW5.out.trans (HQ.out.mono HBW5.out.size)
  have hxr:Below W3.heap.size W3 wr:=HBX5.out.trans (HQ.out.mono HBX5.out.size)
  have kxr:=(hxr.block _ (lt0 HKX.out)).trans HKX.out
  have j0:=(hwr.block _ lk0).trans HK0.out.1
  obtain ⟨y0,y1,y2,y3,y4,y5,y6,yz,yl⟩:=cells7 kxr
  obtain ⟨a0,a1,a2,a3,a4,a5,a6,az,al⟩:=cells7 j0
  rw [HKS.out.2.2.2.1]at y0
  by_cases hjl:j<h.words.length
  ·have gh:=HGV.out wr hwr
   have hx2:=HGX.out.below hxr
   obtain ⟨bW,oW,hW,hbW,eW1⟩:=gh.sW.atI j hjl
   obtain ⟨bX,oX,hX,hbX,eX1⟩:=hx2.sW.atI j (by rw [HKS.out.2.2.2.1];exact hjl)
   subst hW
   subst hX
   have hwl:h.words.length<=1000000:=HKS.out.2.2.2.1 ▸ HXB.out.1
   obtain ⟨-,-,-,-,l0,l1,n0,n1⟩:=HXB.out
   have q1:(0:Int)<=j:=by omega
   have q2:(j:Int)<h.words.length:=by omega
   have w3:IntKind.i64.wrap (loc+3)=loc+3:=ws0 _ (by omega) (by omega)
   have w4':IntKind.i64.wrap (loc+3+n)=loc+3+n:=ws0 _ (by omega) (by omega)
   have HN:Hid (∀m,Below w5.heap.size w5 (wr.drewN m)):=fun m=>zdq HQ.out m
   by_cases hji:(j:Int)=loc+3+n
   ·clear gh hx2 kxr j0 hwr hxr
    go_wp2_with fail
    go_quiet (fail)
    go_wp2_with fail
    go_roundw
    case rel=>exact ⟨j+1,by omega,by go_num,HN.out _⟩
    case measure=>simp [intOf];omega
   have hsm:=HKS.out.2.2.2.2 j hji
   rw [List.getElem?_eq_getElem (by rw [HKS.out.2.2.2.1];exact hjl),List.getElem?_eq_getElem hjl]at hsm
   rw [Option.some.inj hsm]at eX1
   generalize h.words[j]=hv at*
   clear gh hx2 kxr j0 hwr hxr hsm
   go_wp2_with fail
   go_quiet (fail)
   go_wp2_with fail
   go_roundw
   case rel=>exact ⟨j+1,by omega,by go_num,HN.out _⟩
   case measure=>simp [intOf];omega
  have q2:¬(j:Int)<h.words.length:=by omega
  have hbwr:=hwr
  clear hwr hxr kxr j0 HQ HBW5 HBX5 HBW4 HBX4 HBW3 HGX HXB HKS HW3 HKX
  clear y0 y1 y2 y3 y4 y5 y6 yl yz
  clear a0 a1 a2 a3 a4 a5 a6 al az
  have j0:=(hbwr.block _ lk0).trans HK0.out.1
  have j1:=(hbwr.block _ lk1).trans HK0.out.2.1
  obtain ⟨a0,a1,a2,a3,a4,a5,a6,az,al⟩:=cells7 j0
  obtain ⟨b0,b1,b2,b3,b4,bl⟩:=cells5 j1
  clear j0 j1
  have HC:=mk0 (HMKV.out wr hbwr)
  have HBwr:=mk0 hbwr
  clear hbwr
  go_wp2_with fail
  refine HC.out.mono ?_
  rintro r w6 ⟨hb6,hmo⟩
  clear HC
  clear a0 a1 a2 a3 a4 a5 a6 al az
  clear b0 b1 b2 b3 b4 bl
  rcases hmo with ⟨m0,yW,fW,yO,fO,rfl,hoy⟩ | ⟨m0,rfl⟩
  rotate_left
  ·have hne:((makeRes d h tag len old) != 0)=true:=by simpa using m0
   generalize makeRes d h tag len old=mr at*
   go_wp2_with fail
   go_ret
   exact ⟨rfl,HB0.out.trans ((HBwr.out.trans ((hb6.alloc hb6.size _).mono HBwr.out.size)).mono HB0.out.size)⟩
  obtain ⟨hy,hhy⟩:∃hy,makeD h tag len old=hy:=⟨_,rfl⟩
  have HKM:=mk0 (zua m0 HNX.out)
  have HYB:=mk0 (zud HG.out.ww HWF.out.1 HWF.out.2.2.2.1 HWF.out.2.2.2.2 m0)
  rw [hhy]at hoy HKM HYB ⊢
  obtain ⟨kE,kT0,⟨k,hlk,hrow⟩,hnxt⟩:=HKM.out
  have HKB:Hid (k<=1000000):=by
   show _<=_
   obtain ⟨zE,zF,-⟩:=zt2 m0
   obtain ⟨zs,zr⟩:=zti zE
   have:=zt4 (zma zE zr.both HG.out.ww).2.1 zF
   omega
  subst hlk
  have hbw6:Below W0.heap.size W0 w6:=HBwr.out.trans (hb6.mono HBwr.out.size)
  obtain ⟨W7,hW7,hB7,hs7,ky⟩:=boxes1 w6 #[.slice yW hy.words.length fW,.int .i64 hy.young,.int .i64 hy.old,.int .i64 hy.ytop,.int .i64 hy.otop,.slice yO hy.noted.length fO,.int .i64 hy.next] 24
  have hbW7:Below W0.heap.size W0 W7:=hbw6.trans (hB7.mono hbw6.size)
  have gy:=Hd.of_own (hoy.below hB7) (HGV.out W7 hbW7).lk (HGV.out W7 hbW7).le HYB.out.1 HYB.out.2.1 HYB.out.2.2.1 (fun x hx=>HG.out.wn x (HYB.out.2.2.2.2 ▸ hx))
  have HRW:=mk0 (zub W7 W7.heap.size _ _ _ _ _ _ _ hy d gy (topOf h old) HYB.out.2.2.2.1)
  have HGY:=mk0 gy
  have HW7:=mk0 hW7
  have HKY:=mk0 ky
  have j1:=(hbw6.block _ lk1).trans HK0.out.2.1
  obtain ⟨b0,b1,b2,b3,b4,bl⟩:=cells5 j1
  have HBW7:=mk0 hbW7
  have HRO:=mk0 hrow
  have HNT:=mk0 hnxt
  generalize topOf h old=tp at*
  clear hhy m0 HKM hoy hB7 hs7 gy hW7 ky hb6 hbw6 hbW7 j1 hrow hnxt
  go_wp2_with fail
  rw [<-HW7.out]
  refine HRW.out.mono ?_
  rintro r w8 ⟨hb8,⟨-,aR,cR,rfl,hor⟩ | ⟨q1,-⟩⟩
  rotate_left
  ·exact absurd kT0 q1
  rw [HRO.out]at hor ⊢
  rw [List.length_replicate]at hor ⊢
  have hbw8:Below W0.heap.size W0 w8:=HBW7.out.trans (hb8.mono HBW7.out.size)
  have HCK:=mk0 (zle w8 W7.heap.size _ _ _ _ _ _ _ hy d (HGY.out.below hb8))
  rw [kE]at HCK
  have ky8:=(hb8.block _ (lt0 HKY.out)).trans HKY.out
  have HKY8:=mk0 ky8
  clear b0 b1 b2 b3 b4 bl
  obtain ⟨y0,y1,y2,y3,y4,y5,y6,yz,yl⟩:=cells7 ky8
  have j1:=(hbw8.block _ lk1).trans HK0.out.2.1
  obtain ⟨b0,b1,b2,b3,b4,bl⟩:=cells5 j1
  have HBw8:=mk0 hbw8
  have HOR:=mk0 hor
  clear HRW hb8 hbw8 ky8 j1 hor
  go_wp2_with fail
  refine HCK.out.mono ?_
  rintro r w9 ⟨rfl,hb9⟩
  clear HCK
  clear b0 b1 b2 b3 b4 bl
  clear y0 y1 y2 y3 y4 y5 y6 yl yz
  have hbw9:Below W0.heap.size W0 w9:=HBw8.out.trans (hb9.mono HBw8.out.size)
  have ky9:=(hb9.block _ (lt0 HKY8.out)).trans HKY8.out
  have j0:=(hbw9.block _ lk0).trans HK0.out.1
  obtain ⟨y0,y1,y2,y3,y4,y5,y6,yz,yl⟩:=cells7 ky9
  obtain ⟨a0,a1,a2,a3,a4,a5,a6,az,al⟩:=cells7 j0
  have s9:SL 1 RI (MT W7.heap.size [3] w9) w9 (.slice aR k cR) (List.replicate k 0):=zfb (by rw [List.length_replicate];exact zhj HOR.out hb9) (by rw [List.length_replicate];have:=HKB.out;omega)
  have HS9:=mk0 s9
  have wnx:IntKind.i64.wrap (h.next+1)=h.next+1:=zuc _ (by have:(-9223372036854775808:Int)<=h.next:=((Lit.wf_int_iff _ _).1 HWF.out.1).1;omega) (by have:=HNX.out;omega)
  rw [HNT.out]at y6
  have HBw9:=mk0 (HB0.out.trans (hbw9.mono HB0.out.size))
  clear hb9 hbw9 ky9 j0 s9
  go_wp2_with fail
  go_loopw [21] (fun i wr=>∃j:Nat,j<=k/\i=.int .i64 j/\wr=w9) (fun i _=>k - (intOf i).toNat)
  case atStart=>exact ⟨0,Nat.zero_le _,rfl,rfl⟩
  case round=>
   obtain ⟨j,hj,rfl,hwr⟩:=hrel
   rw [hwr]
   clear hwr
   by_cases hjl:j<k
   ·have hkb:=HKB.out
    obtain ⟨bR,oR,hR,hbR,xR⟩:=HS9.out.atI j (by rw [List.length_replicate];exact hjl)
    rw [List.getElem_replicate]at xR
    subst hR
    have q1:(0:Int)<=j:=by omega
    have q2:(j:Int)<k:=by omega
    go_wp2_with fail
    go_roundw
    case rel=>exact ⟨j+1,by omega,by go_num,trivial⟩
    case measure=>simp [intOf];omega
   have q2:¬(j:Int)<k:=by omega
   go_wp2_with fail
   go_ret
   exact ⟨rfl,HBw9.out⟩
end Go.Proofs.YtjdnmblggdobgaaGreat
