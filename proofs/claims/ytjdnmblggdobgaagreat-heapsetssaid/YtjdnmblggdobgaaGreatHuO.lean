import Derived.Test.YtjdnmblggdobgaaGreatJTk2Dies
import Derived.Test.YtjdnmblggdobgaaGreatHuE
import Derived.Test.YtjdnmblggdobgaaGreatJHuAHuC
import Derived.Test.YtjdnmblggdobgaaGreatHuF
import Derived.Test.YtjdnmblggdobgaaGreatHuN
set_option maxHeartbeats 16000000
set_option maxRecDepth 100000
namespace Go.Proofs.YtjdnmblggdobgaaGreat
open Go.RowKit Go.Maps
theorem OwnV.sl {b:Nat} {w:World} {nW nO:Value} {h:HeapD} (o:OwnV b w nW nO h) (h1:h.words.length<=1000000) (h2:h.noted.length<=1000000):SL 1 RI (· <w.heap.size) w nW h.words/\SL 1 RI (· <w.heap.size) w nO h.noted:=
 ⟨(zfb o.rW h1).monoI fun _ hk=>hk.lt,(zfb o.rO h2).monoI fun _ hk=>hk.lt⟩
theorem zsq {d:LinkD} {h:HeapD} {ts:List ThD} (h0:heapErr d h=0) (hts:bothT d h=some ts):riseB h.noted=true/\h.noted.any (badNote d h ts)=false:=by
 unfold heapErr heapRes at h0
 rw [hts]at h0
 have h1:thingsErr d h ts=0:=by
  revert h0
  cases okLk d<;>cases partsB h<;>cases wordsB h<;>cases topsB h<;>simp
 unfold thingsErr at h1
 revert h1
 cases ts.any (badHash h)<;>cases decide ((ts.map ThD.hash).Nodup)<;>cases (ts.any fun x=>hasRefB d.fields h.words x fun n=>!leadB ts n)<;>cases (restL h).any (· != 0)<;>cases riseB h.noted<;>cases h.noted.any (badNote d h ts)<;>simp
theorem zsr {d:LinkD} {h:HeapD} {ts:List ThD} (h0:heapErr d h=0) (hts:bothT d h=some ts) (hw:∀x∈h.words,(Lit.int .i64 x).wf=true):h.noted.length<=100001:=by
 obtain ⟨hz,hd,-⟩:=zma h0 hts hw
 have hl:=zkp hd hz hw hts
 obtain ⟨h1,h2⟩:=zsq h0 hts
 have hr:=(zki _).1 h1
 have:∀x∈h.noted,(0:Int)<=x/\x<=100000:=by
  intro x hx
  have hb:badNote d h ts x=false:=by
   cases hb:badNote d h ts x with
   | false=>rfl
   | true=>rw [List.any_eq_true.2 ⟨x,hx,hb⟩]at h2;cases h2
  unfold badNote at hb
  simp only [Bool.or_eq_false_iff]at hb
  have hs:(plAt ts x).isSome=true:=by simpa using hb.1.1
  obtain ⟨t,ht⟩:=Option.isSome_iff_exists.1 hs
  obtain ⟨hm,rfl⟩:=zie ts ht
  have:=(hl.fit t hm).1.loc
  have h3:=(hl.fit t hm).2.2
  have h4:=(hl.fit t hm).1.lo
  have h5:=hl.words
  have hf:t.fin=t.loc+3+t.len:=rfl
  omega
 rcases zkq hr this with h3 | h3<;>omega
theorem zss {b:Bool} {l:List Int} {x:Int} (h:l.length<=100001):(if b then insN l x else l).length<=1000000:=by
 cases b with
 | false=>simp;omega
 | true=>
   simp only [if_true]
   unfold insN
   split
   ·omega
   have:=congrArg List.length (List.takeWhile_append_dropWhile (p:=fun y:Int=>decide (y<x)) (l:=l))
   rw [List.length_append]at this
   rw [List.length_append,List.length_cons]
   omega
theorem zst {d:LinkD} {h:HeapD} (h0:heapErr d h=0):∃ts,bothT d h=some ts:=by
 cases hb:bothT d h with
 | some ts=>exact ⟨ts,rfl⟩
 | none=>
   unfold heapErr heapRes at h0
   rw [hb]at h0
   revert h0
   cases okLk d<;>cases partsB h<;>cases wordsB h<;>cases topsB h<;>simp
theorem heapSets_any (w:World) (B:Nat) (vW vO kC kS kF kN kT:Value) (h:HeapD) (d:LinkD) (g:Hd B w vW vO kC kS kF kN kT h d) (hnb:h.next<=9223372036854775807) (loc n v:Int) (hwf:(Lit.int .i64 loc).wf=true) (hwv:(Lit.int .i64 v).wf=true):
 Calls Tryz.prog 7 #[.agg #[vW,.int .i64 h.young,.int .i64 h.old,.int .i64 h.ytop,.int .i64 h.otop,vO,.int .i64 h.next],.agg #[kC,kS,kF,kN,kT],.int .i64 loc,.int .i64 n,.int .i64 v] w fun r w'=>r=.returned (.bool true)/\Below w.heap.size w w':=by
 have HG:=mk0 g
 obtain ⟨aW,cW,aO,cO,aC,cC,aS,cS,aF,cF,aN,cN,aT,cT,rfl,rfl,rfl,rfl,rfl,rfl,rfl⟩:=g.agg
 clear g
 obtain ⟨W0,hW0,hB0,hs0,k0,k1⟩:=boxes2 w #[.slice aW h.words.length cW,.int .i64 h.young,.int .i64 h.old,.int .i64 h.ytop,.int .i64 h.otop,.slice aO h.noted.length cO,.int .i64 h.next] #[.slice aC d.classes.length cC,.slice aS d.supers.length cS,.slice aF d.fields.length cF,.slice aN d.names.length cN,.slice aT d.targets.length cT] 24 36
 have lk0:=lt0 k0
 have lk1:=lt0 k1
 have HB0:=mk0 hB0
 have HK0:=mk0 (And.intro k0 k1)
 have HGV:Hid (∀V,Below W0.heap.size W0 V->Hd B V (.slice aW h.words.length cW) (.slice aO h.noted.length cO) (.slice aC d.classes.length cC) (.slice aS d.supers.length cS) (.slice aF d.fields.length cF) (.slice aN d.names.length cN) (.slice aT d.targets.length cT) h d):=fun V hV=>HG.out.below ((hB0.trans (hV.mono hB0.size)).mono HG.out.le)
 have HMK:=mk0 (zm2 W0 B _ _ _ _ _ _ _ h d (HGV.out W0 (Below.refl _ _)) loc n v ⟨hwf,hwv⟩ (fun hE t k hp hn hk hb=>by
  obtain ⟨ts,hts⟩:=zst hE
  rw [zso hb]
  exact zsi B _ _ _ _ _ d (setW h (t.loc+3+k).toNat v) t.loc (zim ((zki _).1 (zsq hE hts).1)) (zma hE hts HG.out.ww).2.2))
 have HE0:=mk0 hW0
 rw [HE0.out]at HMK
 clear hW0 k0 k1 hB0 hs0 hwf hwv
 by_cases hE:heapErr d h=0
 ·obtain ⟨ts,hts⟩:=zst hE
  have HRR:=mk0 (zim ((zki _).1 (zsq hE hts).1))
  cases hp:plAt ts loc with
  | none=>
    have hse:=zmw (n:=n) (v:=v) hE hts hp
    have HRT:=mk0 (zma hE hts HG.out.ww)
    have HTS:=mk0 hts
    go_enter Tryz.func7,Tryz.ntmps7
    go_wp2_with fail
    refine HMK.out.mono ?_
    rw [<-HE0.out]
    rintro r w1 ⟨hb1,⟨h0,-⟩ | ⟨-,rfl⟩⟩
    ·rw [hse]at h0;exact absurd h0 (by decide)
    clear HMK
    rw [hse]
    obtain ⟨W2,hW2,hB2,hs2,kx⟩:=boxes1 w1 #[.slice none 0 0,.int .i64 0,.int .i64 0,.int .i64 0,.int .i64 0,.slice none 0 0,.int .i64 0] 24
    have hb02:Below W0.heap.size W0 W2:=hb1.trans (hB2.mono hb1.size)
    have j0:=(hb1.block _ lk0).trans HK0.out.1
    have j1:=(hb1.block _ lk1).trans HK0.out.2
    have HOP:=mk0 (zre W2 B _ _ _ _ _ _ _ h d (HG.out.below ((HB0.out.trans (hb02.mono HB0.out.size)).mono HG.out.le)) hnb)
    rw [hE]at HOP
    obtain ⟨a0,a1,a2,a3,a4,a5,a6,az,al⟩:=cells7 j0
    obtain ⟨b0,b1,b2,b3,b4,bl⟩:=cells5 j1
    have HW2:=mk0 hW2
    have HKX:=mk0 kx
    have HB2:=mk0 hb02
    have HS2:Hid (w1.heap.size<=W2.heap.size/\W0.heap.size<=w1.heap.size/\w1.heap.size<W2.heap.size):=⟨by omega,hb1.size,by omega⟩
    have HD2:=mk0 hB2
    clear hW2 hs2 kx hb02 j0 j1 hB2
    go_wp2_with fail
    rw [<-HW2.out]
    refine HOP.out.mono ?_
    rintro r w3 ⟨rfl,hb3⟩
    clear HOP
    clear a0 a1 a2 a3 a4 a5 a6 al az
    clear b0 b1 b2 b3 b4 bl
    obtain ⟨W4,hW4,hB4,hs4,kw⟩:=boxes1 w3 #[.slice none 0 0,.int .i64 0,.int .i64 0,.int .i64 0,.int .i64 0,.slice none 0 0,.int .i64 0] 24
    have hb24:Below W2.heap.size W2 W4:=hb3.trans (hB4.mono hb3.size)
    have hb03:Below W0.heap.size W0 w3:=HB2.out.trans (hb3.mono HB2.out.size)
    have hb04:Below W0.heap.size W0 W4:=HB2.out.trans (hb24.mono HB2.out.size)
    have j1:=(hb03.block _ lk1).trans HK0.out.2
    have j0:=(hb03.block _ lk0).trans HK0.out.1
    have kx:=(hb24.block _ (lt0 HKX.out)).trans HKX.out
    have HW4:=mk0 hW4
    have HB4:=mk0 hb04
    have HD4:=mk0 hb24
    have HS4:Hid (W2.heap.size<=w3.heap.size/\w3.heap.size<W4.heap.size):=⟨hb3.size,by omega⟩
    have HKX4:=mk0 kx
    have HKW:=mk0 kw
    clear hW4 hs4 hb24 hb04 hb03 hB4 hb3 kx kw
    have HIT:=mk0 (zrn W4 B _ _ _ _ _ _ _ h d (HGV.out W4 HB4.out) HRT.out.1 HRT.out.2.1 ts HTS.out loc)
    rw [hp]at HIT
    simp only [Option.isSome_none]at HIT
    clear hse hp hts
    obtain ⟨a0,a1,a2,a3,a4,a5,a6,az,al⟩:=cells7 j0
    obtain ⟨b0,b1,b2,b3,b4,bl⟩:=cells5 j1
    clear j0 j1
    go_wp2_with fail
    rw [<-HW4.out]
    refine HIT.out.mono ?_
    rintro r w5 ⟨rfl,hb5⟩
    clear HIT
    clear a0 a1 a2 a3 a4 a5 a6 al az
    clear b0 b1 b2 b3 b4 bl
    have hb05:Below W0.heap.size W0 w5:=HB4.out.trans (hb5.mono HB4.out.size)
    have HKX5:=mk0 ((hb5.block _ (lt0 HKX4.out)).trans HKX4.out)
    have HKW5:=mk0 ((hb5.block _ (lt0 HKW.out)).trans HKW.out)
    have HB5:=mk0 hb05
    have HD5:=mk0 hb5
    have HS5:=mk0 hb5.size
    clear hb5
    clear hb05
    go_wp2_with fail
    refine wp_region_held_drew (S:=fun W'=>∀p:Addr,p.block<w5.heap.size->W'.cell? p=w5.cell? p) (by kernel_rfl) (fun p hp=>rfl) fun hH=>?_
    refine zag 23 rfl fun a ha=>?_
    have sza:a.tmps.size=92:=by rw [ha];rfl
    have ta2:∀h,a.tmps[2]'h=.int .i64 loc:=by rw [ha];exact fun _=>rfl
    have ta3:∀h,a.tmps[3]'h=.int .i64 n:=by rw [ha];exact fun _=>rfl
    have ta4:∀h,a.tmps[4]'h=.int .i64 v:=by rw [ha];exact fun _=>rfl
    have ta5:∀h,a.tmps[5]'h=.pointer (some ⟨w.heap.size,0,none⟩):=by rw [ha];exact fun _=>rfl
    have ta6:∀h,a.tmps[6]'h=.pointer (some ⟨w.heap.size+1,0,none⟩):=by rw [ha];exact fun _=>rfl
    have ta13:∀h,a.tmps[13]'h=.int .i64 5:=by rw [ha];exact fun _=>rfl
    have HA:=mk0 ha
    clear ha
    refine tka 0 53 (.int .i64 5) rfl hH ?_
    refine tka 1 54 (.bool false) rfl hH ?_
    refine tka 2 55 (.bool false) rfl hH ?_
    refine tksa 3 56 2 55 true rfl rfl hH ?_
    refine tksa 4 57 2 55 true rfl rfl hH ?_
    refine tksa 5 58 2 55 true rfl rfl hH ?_
    refine tksa 6 59 2 55 true rfl rfl hH ?_
    refine tksa 7 60 2 55 true rfl rfl hH ?_
    refine tksa 8 61 2 55 true rfl rfl hH ?_
    refine tksa 9 62 2 55 true rfl rfl hH ?_
    refine tksa 10 63 2 55 true rfl rfl hH ?_
    refine tka 11 64 (.bool false) rfl hH ?_
    refine tka 12 65 (.bool false) rfl hH ?_
    refine tksa 13 66 12 65 true rfl rfl hH ?_
    refine tksa 14 67 12 65 true rfl rfl hH ?_
    refine tka 15 68 (.bool false) rfl hH ?_
    refine tka 16 69 (.bool false) rfl hH ?_
    refine tksa 17 70 16 69 true rfl rfl hH ?_
    refine tksa 18 71 16 69 true rfl rfl hH ?_
    refine tksa 19 72 16 69 true rfl rfl hH ?_
    refine tksa 20 73 16 69 true rfl rfl hH ?_
    refine tksa 21 74 16 69 true rfl rfl hH ?_
    refine tka 22 75 (.bool false) rfl hH ?_
    refine wpAnyH_done (by kernel_rfl) ?_ _
    clear hH
    rw [HA.out]
    simp only [Act.put,List.setIfInBounds_toArray,List.set_cons_zero,List.set_cons_succ]
    obtain ⟨V7,hV7⟩:∃V7,V7=w5.drew:=⟨_,rfl⟩
    rw [<-hV7]
    have hv7:Below w5.heap.size w5 V7:=hV7 ▸ (Below.refl _ _).drew
    have HB7:=mk0 (HB5.out.trans (hv7.mono HB5.out.size))
    have HKX7:=mk0 ((hv7.block _ (lt0 HKX5.out)).trans HKX5.out)
    have HKW7:=mk0 ((hv7.block _ (lt0 HKW5.out)).trans HKW5.out)
    clear hV7 hv7
    go_wp2_with fail
    refine (zno _).mono ?_
    rintro r w8 ⟨rfl,hb8⟩
    have p0:=(hb8.block _ (lt0 HKX7.out)).trans HKX7.out
    have p1:=(hb8.block _ (lt0 HKW7.out)).trans HKW7.out
    obtain ⟨a0,a1,a2,a3,a4,a5,a6,az,al⟩:=cells7 p0
    obtain ⟨b0,b1,b2,b3,b4,b5,b6,bz,bl⟩:=cells7 p1
    have HIS:=mk0 (zrl w8 ⟨[],0,0,0,0,[],0⟩ none none 0 0 5 (by decide))
    have HB8:Hid (Below w.heap.size w w8):=HB0.out.trans ((HB7.out.trans (hb8.mono HB7.out.size)).mono HB0.out.size)
    clear hb8 p0 p1
    go_wp2_with fail
    refine HIS.out.mono ?_
    rintro r w9 ⟨rfl,hb9⟩
    have HB9':=mk0 (HB8.out.trans (hb9.mono HB8.out.size))
    clear hb9
    go_wp2_with fail
    go_ret
    exact ⟨rfl,HB9'.out⟩
  | some t=>
    have HRT:=mk0 (zma hE hts HG.out.ww)
    have HLN:=mk0 (zkp HRT.out.2.1 HRT.out.1 HG.out.ww hts)
    obtain ⟨ht,hloc⟩:=zie ts hp
    obtain ⟨hft,hl0,hl1⟩:=HLN.out.fit t ht
    have hl2:=HLN.out.words
    have hlo:=hft.lo
    have hfi:t.fin=t.loc+3+t.len:=rfl
    obtain ⟨m,hm⟩:∃m:Nat,loc=(m:Int):=⟨loc.toNat,by omega⟩
    subst hm
    have hth:t=thAt h.words t.loc:=by
     obtain ⟨ys,os,hy1,hy2,e⟩:=zkn hts
     exact zn4 hy1 hy2 t (e ▸ ht)
    have lm1:m+1<h.words.length:=by omega
    have e0:h.words[m]? =some t.tag:=by
     have q:t.tag=wd h.words t.loc:=congrArg ThD.tag hth
     rw [List.getElem?_eq_getElem (by omega),q,hloc,zen (by omega)]
    have e1:h.words[m+1]? =some t.len:=by
     have q:t.len=wd h.words (t.loc+1):=congrArg ThD.len hth
     rw [List.getElem?_eq_getElem lm1,q,hloc,show (m:Int)+1=((m+1:Nat):Int) by omega,zen lm1]
    obtain ⟨aV,cV,eV,hcap,hmx,hel⟩:=HG.out.sW
    cases eV
    obtain ⟨bW,oW,cs,e3,hbB,hbl,-⟩:=hel 0 (by omega)
    subst e3
    obtain ⟨m1,hm1⟩:∃m1,m1=m+1:=⟨_,rfl⟩
    have wm1:IntKind.i64.wrap ((m:Int)+1)=(m1:Int):=by rw [hm1];exact (ws0 _ (by omega) (by omega)).trans (by omega)
    have HCE:Hid (∀V,Below W0.heap.size W0 V->bW<V.heap.size/\V.cell? ⟨bW,oW+m,none⟩=some (.int .i64 t.tag)/\V.cell? ⟨bW,oW+m1,none⟩=some (.int .i64 t.len)):=fun V hV=>by
     subst hm1
     obtain ⟨b1,o1,q1,z1,y1⟩:=(HGV.out V hV).sW.atI m (by omega)
     cases q1
     obtain ⟨b2,o2,q2,-,y2⟩:=(HGV.out V hV).sW.atI (m+1) lm1
     cases q2
     rw [List.getElem?_eq_getElem (by omega)]at e0
     rw [List.getElem?_eq_getElem lm1]at e1
     rw [Option.some.inj e0]at y1
     rw [Option.some.inj e1]at y2
     exact ⟨z1,y1,y2⟩
    have lm0:m<h.words.length:=by omega
    have lm1':m1<h.words.length:=by omega
    have HFT:=mk0 hft
    have HTS:=mk0 hts
    have HE:=mk0 hE
    have HP:=mk0 hp
    have HLO:=mk0 hlo
    clear hel hcap hmx hbB hbl e0 e1 hl0 hl1 hl2 hft hfi ht hth lm1 hm1 hloc
    by_cases hr:0<=n/\n<t.len
    ·obtain ⟨k,hk⟩:∃k:Nat,n=(k:Int):=⟨n.toNat,by omega⟩
     subst hk
     have HKL:=mk0 hr.2
     have n1:¬((k:Int)<0):=by omega
     have n2:¬(t.len<=(k:Int)):=by omega
     have hr1:=hr.1
     by_cases hbad:refI d.fields t k=true/\leadB ts v=false
     ·obtain ⟨hc1,hlb⟩:=hbad
      have hse:=zmy hE hts hp hr.1 hr.2 (by simpa using hc1) hlb
      unfold leadB at hlb
      rw [Bool.or_eq_false_iff]at hlb
      obtain ⟨hc3,hv0⟩:=hlb
      have hv1:(v != 0)=true:=by simp at hv0;simp [hv0]
      have hv2:¬v=0:=by simpa using hv0
      go_enter Tryz.func7,Tryz.ntmps7
      go_wp2_with fail
      refine HMK.out.mono ?_
      rw [<-HE0.out]
      rintro r w1 ⟨hb1,⟨h0,-⟩ | ⟨-,rfl⟩⟩
      ·rw [hse]at h0;exact absurd h0 (by decide)
      clear HMK
      rw [hse]
      obtain ⟨W2,hW2,hB2,hs2,kx⟩:=boxes1 w1 #[.slice none 0 0,.int .i64 0,.int .i64 0,.int .i64 0,.int .i64 0,.slice none 0 0,.int .i64 0] 24
      have hb02:Below W0.heap.size W0 W2:=hb1.trans (hB2.mono hb1.size)
      have j0:=(hb1.block _ lk0).trans HK0.out.1
      have j1:=(hb1.block _ lk1).trans HK0.out.2
      have HOP:=mk0 (zre W2 B _ _ _ _ _ _ _ h d (HG.out.below ((HB0.out.trans (hb02.mono HB0.out.size)).mono HG.out.le)) hnb)
      rw [hE]at HOP
      obtain ⟨a0,a1,a2,a3,a4,a5,a6,az,al⟩:=cells7 j0
      obtain ⟨b0,b1,b2,b3,b4,bl⟩:=cells5 j1
      have HW2:=mk0 hW2
      have HKX:=mk0 kx
      have HB2:=mk0 hb02
      have HS2:Hid (w1.heap.size<=W2.heap.size/\W0.heap.size<=w1.heap.size/\w1.heap.size<W2.heap.size):=⟨by omega,hb1.size,by omega⟩
      have HD2:=mk0 hB2
      clear hW2 hs2 kx hb02 j0 j1 hB2
      go_wp2_with fail
      rw [<-HW2.out]
      refine HOP.out.mono ?_
      rintro r w3 ⟨rfl,hb3⟩
      clear HOP
      clear a0 a1 a2 a3 a4 a5 a6 al az
      clear b0 b1 b2 b3 b4 bl
      obtain ⟨W4,hW4,hB4,hs4,kw⟩:=boxes1 w3 #[.slice none 0 0,.int .i64 0,.int .i64 0,.int .i64 0,.int .i64 0,.slice none 0 0,.int .i64 0] 24
      have hb24:Below W2.heap.size W2 W4:=hb3.trans (hB4.mono hb3.size)
      have hb03:Below W0.heap.size W0 w3:=HB2.out.trans (hb3.mono HB2.out.size)
      have hb04:Below W0.heap.size W0 W4:=HB2.out.trans (hb24.mono HB2.out.size)
      have j1:=(hb03.block _ lk1).trans HK0.out.2
      have j0:=(hb03.block _ lk0).trans HK0.out.1
      have kx:=(hb24.block _ (lt0 HKX.out)).trans HKX.out
      have HW4:=mk0 hW4
      have HB4:=mk0 hb04
      have HD4:=mk0 hb24
      have HS4:Hid (W2.heap.size<=w3.heap.size/\w3.heap.size<W4.heap.size):=⟨hb3.size,by omega⟩
      have HKX4:=mk0 kx
      have HKW:=mk0 kw
      clear hW4 hs4 hb24 hb04 hb03 hB4 hb3 kx kw
      have HIT:=mk0 (zrn W4 B _ _ _ _ _ _ _ h d (HGV.out W4 HB4.out) HRT.out.1 HRT.out.2.1 ts HTS.out (m:Int))
      rw [HP.out]at HIT
      simp only [Option.isSome_some]at HIT
      clear hse hp hts hr
      obtain ⟨a0,a1,a2,a3,a4,a5,a6,az,al⟩:=cells7 j0
      obtain ⟨b0,b1,b2,b3,b4,bl⟩:=cells5 j1
      clear j0 j1
      go_wp2_with fail
      rw [<-HW4.out]
      refine HIT.out.mono ?_
      rintro r w5 ⟨rfl,hb5⟩
      clear HIT
      clear a0 a1 a2 a3 a4 a5 a6 al az
      clear b0 b1 b2 b3 b4 bl
      have hb05:Below W0.heap.size W0 w5:=HB4.out.trans (hb5.mono HB4.out.size)
      have HKX5:=mk0 ((hb5.block _ (lt0 HKX4.out)).trans HKX4.out)
      have HKW5:=mk0 ((hb5.block _ (lt0 HKW.out)).trans HKW.out)
      have HB5:=mk0 hb05
      have HD5:=mk0 hb5
      have HS5:=mk0 hb5.size
      clear hb5
      have HRF:Hid (∀V,Below w5.heap.size w5 V->Calls Tryz.prog 31 #[.agg #[.slice aC d.classes.length cC,.slice aS d.supers.length cS,.slice aF d.fields.length cF,.slice aN d.names.length cN,.slice aT d.targets.length cT],.int .i64 t.tag,.int .i64 (k:Int)] V fun r w'=>r=.returned (.bool (refI d.fields t k))/\Below V.heap.size V w'):=fun V hV=>zkx V B _ _ _ _ _ d (HGV.out V (HB5.out.trans (hV.mono HB5.out.size))).lk t HFT.out k HKL.out
      have HIV:=mk0 (fun V (hV:Below w5.heap.size w5 V)=>zrn V B _ _ _ _ _ _ _ h d (HGV.out V (HB5.out.trans (hV.mono HB5.out.size))) HRT.out.1 HRT.out.2.1 ts HTS.out v)
      have j0:=(hb05.block _ lk0).trans HK0.out.1
      have j1:=(hb05.block _ lk1).trans HK0.out.2
      obtain ⟨a0,a1,a2,a3,a4,a5,a6,az,al⟩:=cells7 j0
      obtain ⟨b0,b1,b2,b3,b4,bl⟩:=cells5 j1
      obtain ⟨lbW,x1,x2⟩:=HCE.out w5 hb05
      clear j0 j1 hb05
      go_wp2_with fail
      refine wp_region_held_drew (S:=fun W'=>∀p:Addr,p.block<w5.heap.size->W'.cell? p=w5.cell? p) (by kernel_rfl) (fun p hp=>rfl) fun hH=>?_
      refine zag 23 rfl fun a ha=>?_
      have sza:a.tmps.size=92:=by rw [ha];rfl
      have ta2:∀h,a.tmps[2]'h=.int .i64 m:=by rw [ha];exact fun _=>rfl
      have ta3:∀h,a.tmps[3]'h=.int .i64 k:=by rw [ha];exact fun _=>rfl
      have ta4:∀h,a.tmps[4]'h=.int .i64 v:=by rw [ha];exact fun _=>rfl
      have ta5:∀h,a.tmps[5]'h=.pointer (some ⟨w.heap.size,0,none⟩):=by rw [ha];exact fun _=>rfl
      have ta6:∀h,a.tmps[6]'h=.pointer (some ⟨w.heap.size+1,0,none⟩):=by rw [ha];exact fun _=>rfl
      have ta13:∀h,a.tmps[13]'h=.int .i64 0:=by rw [ha];exact fun _=>rfl
      have HA:=mk0 ha
      clear ha
      refine tka 0 53 (.int .i64 0) rfl hH ?_
      refine tka 1 54 (.bool true) rfl hH ?_
      refine tka 2 55 (.bool true) rfl hH ?_
      refine tkga 3 56 2 55 true (.agg #[.slice aC d.classes.length cC,.slice aS d.supers.length cS,.slice aF d.fields.length cF,.slice aN d.names.length cN,.slice aT d.targets.length cT]) rfl rfl hH ?_
      refine tkga 4 57 2 55 true (.pointer (some ⟨w.heap.size,0,none⟩)) rfl rfl hH ?_
      refine tkga 5 58 2 55 true (.slice (some ⟨bW,oW,none⟩) h.words.length cW) rfl rfl hH ?_
      refine tkga 6 59 2 55 true (.int .i64 m) rfl rfl hH ?_
      refine tkga 7 60 2 55 true (.pointer (some ⟨bW,oW+m,none⟩)) rfl rfl hH ?_
      refine tkga 8 61 2 55 true (.int .i64 t.tag) rfl rfl hH ?_
      refine tkga 9 62 2 55 true (.int .i64 k) rfl rfl hH ?_
      refine wpAnyH_ready (rs:=[10]) (by kernel_rfl) (by simp) ?_
      refine AllReadyH.cons rfl (fun K10 hK10=>?_) AllReadyH.nil
      go_simp
      refine (HRF.out _ (Below.refl _ _).drew).mono ?_
      rintro r w6 ⟨rfl,hb6⟩
      rw [hc1]
      have hb56:Below w5.heap.size w5 w6:=(Below.refl w5.heap.size w5).drew.trans hb6
      refine hK10.out _ _ (fun p hp=>hb56.cell hp) fun hH=>?_
      rw [zab]
      refine tka 11 64 (.bool true) rfl hH ?_
      refine tka 12 65 (.bool true) rfl hH ?_
      refine tkga 13 66 12 65 true (.int .i64 v) rfl rfl hH ?_
      refine tkga 14 67 12 65 true (.bool true) rfl rfl hH ?_
      refine tka 15 68 (.bool true) rfl hH ?_
      refine tka 16 69 (.bool true) rfl hH ?_
      refine tkga 17 70 16 69 true (.agg #[.slice (some ⟨bW,oW,none⟩) h.words.length cW,.int .i64 h.young,.int .i64 h.old,.int .i64 h.ytop,.int .i64 h.otop,.slice aO h.noted.length cO,.int .i64 h.next]) rfl rfl hH ?_
      refine tkga 18 71 16 69 true (.agg #[.slice aC d.classes.length cC,.slice aS d.supers.length cS,.slice aF d.fields.length cF,.slice aN d.names.length cN,.slice aT d.targets.length cT]) rfl rfl hH ?_
      refine tkga 19 72 16 69 true (.int .i64 v) rfl rfl hH ?_
      refine wpAnyH_ready (rs:=[20]) (by kernel_rfl) (by simp) ?_
      refine AllReadyH.cons rfl (fun K20 hK20=>?_) AllReadyH.nil
      go_simp
      refine (HIV.out _ hb56).mono ?_
      rintro r w7 ⟨rfl,hb7⟩
      rw [hc3]
      replace hb56:Below w5.heap.size w5 w7:=hb56.trans (hb7.mono hb56.size)
      refine hK20.out _ _ (fun p hp=>hb56.cell hp) fun hH=>?_
      rw [zab]
      refine tkga 21 74 16 69 true (.bool true) rfl rfl hH ?_
      refine tka 22 75 (.bool true) rfl hH ?_
      refine wpAnyH_done (by kernel_rfl) ?_ _
      clear hH
      rw [HA.out]
      simp only [Act.put,List.setIfInBounds_toArray,List.set_cons_zero,List.set_cons_succ]
      obtain ⟨V7,hV7⟩:∃V7,V7=w7:=⟨_,rfl⟩
      rw [<-hV7]at hb56 ⊢
      clear hV7
      have HB7:=mk0 (HB5.out.trans (hb56.mono HB5.out.size))
      have HKX7:=mk0 ((hb56.block _ (lt0 HKX5.out)).trans HKX5.out)
      have HKW7:=mk0 ((hb56.block _ (lt0 HKW5.out)).trans HKW5.out)
      clear hb56
      clear a0 a1 a2 a3 a4 a5 a6 al az
      clear b0 b1 b2 b3 b4 bl
      clear lbW x1 x2
      go_wp2_with fail
      refine (zno _).mono ?_
      rintro r w8 ⟨rfl,hb8⟩
      have p0:=(hb8.block _ (lt0 HKX7.out)).trans HKX7.out
      have p1:=(hb8.block _ (lt0 HKW7.out)).trans HKW7.out
      obtain ⟨a0,a1,a2,a3,a4,a5,a6,az,al⟩:=cells7 p0
      obtain ⟨b0,b1,b2,b3,b4,b5,b6,bz,bl⟩:=cells7 p1
      have HIS:=mk0 (zrl w8 ⟨[],0,0,0,0,[],0⟩ none none 0 0 5 (by decide))
      have HB8:Hid (Below w.heap.size w w8):=HB0.out.trans ((HB7.out.trans (hb8.mono HB7.out.size)).mono HB0.out.size)
      clear hb8 p0 p1
      go_wp2_with fail
      refine HIS.out.mono ?_
      rintro r w9 ⟨rfl,hb9⟩
      have HB9':=mk0 (HB8.out.trans (hb9.mono HB8.out.size))
      clear hb9
      go_wp2_with fail
      go_ret
      exact ⟨rfl,HB9'.out⟩
     have hor:refI d.fields t k=false\/leadB ts v=true:=by
      cases h1:refI d.fields t k
      ·exact Or.inl rfl
      cases h2:leadB ts v
      ·exact absurd ⟨h1,h2⟩ hbad
      exact Or.inr rfl
     have hse:=zmz hE hts hp rfl hr.2 hor
     have hsh:setH d h (m:Int) (k:Int) v=setD d h t k v:=by
      unfold setH
      rw [(zmh hE hts hp).2]
      rfl
     obtain ⟨hm,hhm⟩:∃hm,setD d h t k v=hm:=⟨_,rfl⟩
     have HNS:=mk0 (zsr hE hts HG.out.ww)
     have HLM:Hid (hm.words.length<=1000000/\hm.noted.length<=1000000):=by
      rw [<-hhm]
      refine ⟨?_,?_⟩
      ·show (h.words.set _ v).length<=_
       rw [List.length_set]
       have:=HLN.out.words
       omega
      show (if noteB d h t k v then insN h.noted t.loc else h.noted).length<=_
      exact zss HNS.out
     have HHM:=mk0 hhm
     go_enter Tryz.func7,Tryz.ntmps7
     go_wp2_with fail
     refine HMK.out.mono ?_
     rw [<-HE0.out]
     rintro r w1 ⟨hb1,⟨-,nW,dW,nO,dO,rfl,hov⟩ | ⟨h0,-⟩⟩
     rotate_left
     ·exact absurd hse h0
     clear HMK
     rw [hsh,hhm]at hov ⊢
     have HOV:=mk0 hov
     clear hov
     obtain ⟨W2,hW2,hB2,hs2,kx⟩:=boxes1 w1 #[.slice nW hm.words.length dW,.int .i64 hm.young,.int .i64 hm.old,.int .i64 hm.ytop,.int .i64 hm.otop,.slice nO hm.noted.length dO,.int .i64 hm.next] 24
     have hb02:Below W0.heap.size W0 W2:=hb1.trans (hB2.mono hb1.size)
     have j0:=(hb1.block _ lk0).trans HK0.out.1
     have j1:=(hb1.block _ lk1).trans HK0.out.2
     have HOP:=mk0 (zre W2 B _ _ _ _ _ _ _ h d (HG.out.below ((HB0.out.trans (hb02.mono HB0.out.size)).mono HG.out.le)) hnb)
     rw [hE]at HOP
     obtain ⟨a0,a1,a2,a3,a4,a5,a6,az,al⟩:=cells7 j0
     obtain ⟨b0,b1,b2,b3,b4,bl⟩:=cells5 j1
     have HW2:=mk0 hW2
     have HKX:=mk0 kx
     have HB2:=mk0 hb02
     have HS2:Hid (w1.heap.size<=W2.heap.size/\W0.heap.size<=w1.heap.size/\w1.heap.size<W2.heap.size):=⟨by omega,hb1.size,by omega⟩
     have HD2:=mk0 hB2
     clear hW2 hs2 kx hb02 j0 j1 hB2
     go_wp2_with fail
     rw [<-HW2.out]
     refine HOP.out.mono ?_
     rintro r w3 ⟨rfl,hb3⟩
     clear HOP
     clear a0 a1 a2 a3 a4 a5 a6 al az
     clear b0 b1 b2 b3 b4 bl
     obtain ⟨W4,hW4,hB4,hs4,kw⟩:=boxes1 w3 #[.slice none 0 0,.int .i64 0,.int .i64 0,.int .i64 0,.int .i64 0,.slice none 0 0,.int .i64 0] 24
     have hb24:Below W2.heap.size W2 W4:=hb3.trans (hB4.mono hb3.size)
     have hb03:Below W0.heap.size W0 w3:=HB2.out.trans (hb3.mono HB2.out.size)
     have hb04:Below W0.heap.size W0 W4:=HB2.out.trans (hb24.mono HB2.out.size)
     have j1:=(hb03.block _ lk1).trans HK0.out.2
     have j0:=(hb03.block _ lk0).trans HK0.out.1
     have kx:=(hb24.block _ (lt0 HKX.out)).trans HKX.out
     have HW4:=mk0 hW4
     have HB4:=mk0 hb04
     have HD4:=mk0 hb24
     have HS4:Hid (W2.heap.size<=w3.heap.size/\w3.heap.size<W4.heap.size):=⟨hb3.size,by omega⟩
     have HKX4:=mk0 kx
     have HKW:=mk0 kw
     clear hW4 hs4 hb24 hb04 hb03 hB4 hb3 kx kw
     have HIT:=mk0 (zrn W4 B _ _ _ _ _ _ _ h d (HGV.out W4 HB4.out) HRT.out.1 HRT.out.2.1 ts HTS.out (m:Int))
     rw [HP.out]at HIT
     simp only [Option.isSome_some]at HIT
     clear hse hsh hhm hp hts hr hbad
     obtain ⟨a0,a1,a2,a3,a4,a5,a6,az,al⟩:=cells7 j0
     obtain ⟨b0,b1,b2,b3,b4,bl⟩:=cells5 j1
     clear j0 j1
     go_wp2_with fail
     rw [<-HW4.out]
     refine HIT.out.mono ?_
     rintro r w5 ⟨rfl,hb5⟩
     clear HIT
     clear a0 a1 a2 a3 a4 a5 a6 al az
     clear b0 b1 b2 b3 b4 bl
     have hb05:Below W0.heap.size W0 w5:=HB4.out.trans (hb5.mono HB4.out.size)
     have HKX5:=mk0 ((hb5.block _ (lt0 HKX4.out)).trans HKX4.out)
     have HKW5:=mk0 ((hb5.block _ (lt0 HKW.out)).trans HKW.out)
     have HB5:=mk0 hb05
     have HD5:=mk0 hb5
     have HS5:=mk0 hb5.size
     clear hb5
     have HRF:Hid (∀V,Below w5.heap.size w5 V->Calls Tryz.prog 31 #[.agg #[.slice aC d.classes.length cC,.slice aS d.supers.length cS,.slice aF d.fields.length cF,.slice aN d.names.length cN,.slice aT d.targets.length cT],.int .i64 t.tag,.int .i64 (k:Int)] V fun r w'=>r=.returned (.bool (refI d.fields t k))/\Below V.heap.size V w'):=fun V hV=>zkx V B _ _ _ _ _ d (HGV.out V (HB5.out.trans (hV.mono HB5.out.size))).lk t HFT.out k HKL.out
     have HIV:=mk0 (fun V (hV:Below w5.heap.size w5 V)=>zrn V B _ _ _ _ _ _ _ h d (HGV.out V (HB5.out.trans (hV.mono HB5.out.size))) HRT.out.1 HRT.out.2.1 ts HTS.out v)
     have j0:=(hb05.block _ lk0).trans HK0.out.1
     have j1:=(hb05.block _ lk1).trans HK0.out.2
     obtain ⟨a0,a1,a2,a3,a4,a5,a6,az,al⟩:=cells7 j0
     obtain ⟨b0,b1,b2,b3,b4,bl⟩:=cells5 j1
     obtain ⟨lbW,x1,x2⟩:=HCE.out w5 hb05
     clear j0 j1 hb05
     go_wp2_with fail
     have hcase:refI d.fields t k=false\/(refI d.fields t k=true/\v=0)\/(refI d.fields t k=true/\v≠0/\(plAt ts v).isSome=true):=by
      rcases hor with h1 | h1
      ·exact Or.inl h1
      cases h2:refI d.fields t k with
      | false=>exact Or.inl rfl
      | true=>
        unfold leadB at h1
        rw [Bool.or_eq_true]at h1
        by_cases h3:v=0
        ·exact Or.inr (Or.inl ⟨rfl,h3⟩)
        rcases h1 with h1 | h1
        ·exact Or.inr (Or.inr ⟨rfl,h3,h1⟩)
        exact absurd (by simpa using h1) h3
     clear hor
     rcases hcase with hc1 | ⟨hc1,hv0⟩ | ⟨hc1,hv0,hc3⟩
     focus
      refine wp_region_held_drew (S:=fun W'=>∀p:Addr,p.block<w5.heap.size->W'.cell? p=w5.cell? p) (by kernel_rfl) (fun p hp=>rfl) fun hH=>?_
      refine zag 23 rfl fun a ha=>?_
      have sza:a.tmps.size=92:=by rw [ha];rfl
      have ta2:∀h,a.tmps[2]'h=.int .i64 m:=by rw [ha];exact fun _=>rfl
      have ta3:∀h,a.tmps[3]'h=.int .i64 k:=by rw [ha];exact fun _=>rfl
      have ta4:∀h,a.tmps[4]'h=.int .i64 v:=by rw [ha];exact fun _=>rfl
      have ta5:∀h,a.tmps[5]'h=.pointer (some ⟨w.heap.size,0,none⟩):=by rw [ha];exact fun _=>rfl
      have ta6:∀h,a.tmps[6]'h=.pointer (some ⟨w.heap.size+1,0,none⟩):=by rw [ha];exact fun _=>rfl
      have ta13:∀h,a.tmps[13]'h=.int .i64 0:=by rw [ha];exact fun _=>rfl
      have HA:=mk0 ha
      clear ha
      refine tka 0 53 (.int .i64 0) rfl hH ?_
      refine tka 1 54 (.bool true) rfl hH ?_
      refine tka 2 55 (.bool true) rfl hH ?_
      refine tkga 3 56 2 55 true (.agg #[.slice aC d.classes.length cC,.slice aS d.supers.length cS,.slice aF d.fields.length cF,.slice aN d.names.length cN,.slice aT d.targets.length cT]) rfl rfl hH ?_
      refine tkga 4 57 2 55 true (.pointer (some ⟨w.heap.size,0,none⟩)) rfl rfl hH ?_
      refine tkga 5 58 2 55 true (.slice (some ⟨bW,oW,none⟩) h.words.length cW) rfl rfl hH ?_
      refine tkga 6 59 2 55 true (.int .i64 m) rfl rfl hH ?_
      refine tkga 7 60 2 55 true (.pointer (some ⟨bW,oW+m,none⟩)) rfl rfl hH ?_
      refine tkga 8 61 2 55 true (.int .i64 t.tag) rfl rfl hH ?_
      refine tkga 9 62 2 55 true (.int .i64 k) rfl rfl hH ?_
      refine wpAnyH_ready (rs:=[10]) (by kernel_rfl) (by simp) ?_
      refine AllReadyH.cons rfl (fun K10 hK10=>?_) AllReadyH.nil
      go_simp
      refine (HRF.out _ (Below.refl _ _).drew).mono ?_
      rintro r w6 ⟨rfl,hb6⟩
      rw [hc1]
      have hb56:Below w5.heap.size w5 w6:=(Below.refl w5.heap.size w5).drew.trans hb6
      refine hK10.out _ _ (fun p hp=>hb56.cell hp) fun hH=>?_
      rw [zab]
      refine tka 11 64 (.bool false) rfl hH ?_
      refine tka 12 65 (.bool false) rfl hH ?_
      refine tksa 13 66 12 65 true rfl rfl hH ?_
      refine tksa 14 67 12 65 true rfl rfl hH ?_
      refine tka 15 68 (.bool false) rfl hH ?_
      refine tka 16 69 (.bool false) rfl hH ?_
      refine tksa 17 70 16 69 true rfl rfl hH ?_
      refine tksa 18 71 16 69 true rfl rfl hH ?_
      refine tksa 19 72 16 69 true rfl rfl hH ?_
      refine tksa 20 73 16 69 true rfl rfl hH ?_
      refine tksa 21 74 16 69 true rfl rfl hH ?_
      refine tka 22 75 (.bool false) rfl hH ?_
      refine wpAnyH_done (by kernel_rfl) ?_ _
      clear hH
      rw [HA.out]
      simp only [Act.put,List.setIfInBounds_toArray,List.set_cons_zero,List.set_cons_succ]
      obtain ⟨V7,hV7⟩:∃V7,V7=w6:=⟨_,rfl⟩
      rw [<-hV7]at hb56 ⊢
      clear hV7
     rotate_left
     focus
      have hv1:(v != 0)=false:=by simp [hv0]
      have hv3:(v==0)=true:=by simp [hv0]
      clear hv0
      refine wp_region_held_drew (S:=fun W'=>∀p:Addr,p.block<w5.heap.size->W'.cell? p=w5.cell? p) (by kernel_rfl) (fun p hp=>rfl) fun hH=>?_
      refine zag 23 rfl fun a ha=>?_
      have sza:a.tmps.size=92:=by rw [ha];rfl
      have ta2:∀h,a.tmps[2]'h=.int .i64 m:=by rw [ha];exact fun _=>rfl
      have ta3:∀h,a.tmps[3]'h=.int .i64 k:=by rw [ha];exact fun _=>rfl
      have ta4:∀h,a.tmps[4]'h=.int .i64 v:=by rw [ha];exact fun _=>rfl
      have ta5:∀h,a.tmps[5]'h=.pointer (some ⟨w.heap.size,0,none⟩):=by rw [ha];exact fun _=>rfl
      have ta6:∀h,a.tmps[6]'h=.pointer (some ⟨w.heap.size+1,0,none⟩):=by rw [ha];exact fun _=>rfl
      have ta13:∀h,a.tmps[13]'h=.int .i64 0:=by rw [ha];exact fun _=>rfl
      have HA:=mk0 ha
      clear ha
      refine tka 0 53 (.int .i64 0) rfl hH ?_
      refine tka 1 54 (.bool true) rfl hH ?_
      refine tka 2 55 (.bool true) rfl hH ?_
      refine tkga 3 56 2 55 true (.agg #[.slice aC d.classes.length cC,.slice aS d.supers.length cS,.slice aF d.fields.length cF,.slice aN d.names.length cN,.slice aT d.targets.length cT]) rfl rfl hH ?_
      refine tkga 4 57 2 55 true (.pointer (some ⟨w.heap.size,0,none⟩)) rfl rfl hH ?_
      refine tkga 5 58 2 55 true (.slice (some ⟨bW,oW,none⟩) h.words.length cW) rfl rfl hH ?_
      refine tkga 6 59 2 55 true (.int .i64 m) rfl rfl hH ?_
      refine tkga 7 60 2 55 true (.pointer (some ⟨bW,oW+m,none⟩)) rfl rfl hH ?_
      refine tkga 8 61 2 55 true (.int .i64 t.tag) rfl rfl hH ?_
      refine tkga 9 62 2 55 true (.int .i64 k) rfl rfl hH ?_
      refine wpAnyH_ready (rs:=[10]) (by kernel_rfl) (by simp) ?_
      refine AllReadyH.cons rfl (fun K10 hK10=>?_) AllReadyH.nil
      go_simp
      refine (HRF.out _ (Below.refl _ _).drew).mono ?_
      rintro r w6 ⟨rfl,hb6⟩
      rw [hc1]
      have hb56:Below w5.heap.size w5 w6:=(Below.refl w5.heap.size w5).drew.trans hb6
      refine hK10.out _ _ (fun p hp=>hb56.cell hp) fun hH=>?_
      rw [zab]
      refine tka 11 64 (.bool true) rfl hH ?_
      refine tka 12 65 (.bool true) rfl hH ?_
      refine tkga 13 66 12 65 true (.int .i64 v) rfl rfl hH ?_
      refine tkga 14 67 12 65 true (.bool false) rfl rfl hH ?_
      refine tka 15 68 (.bool false) rfl hH ?_
      refine tka 16 69 (.bool false) rfl hH ?_
      refine tksa 17 70 16 69 true rfl rfl hH ?_
      refine tksa 18 71 16 69 true rfl rfl hH ?_
      refine tksa 19 72 16 69 true rfl rfl hH ?_
      refine tksa 20 73 16 69 true rfl rfl hH ?_
      refine tksa 21 74 16 69 true rfl rfl hH ?_
      refine tka 22 75 (.bool false) rfl hH ?_
      refine wpAnyH_done (by kernel_rfl) ?_ _
      clear hH
      rw [HA.out]
      simp only [Act.put,List.setIfInBounds_toArray,List.set_cons_zero,List.set_cons_succ]
      obtain ⟨V7,hV7⟩:∃V7,V7=w6:=⟨_,rfl⟩
      rw [<-hV7]at hb56 ⊢
      clear hV7
      clear hv1 hv3
     rotate_left
     focus
      have hv1:(v != 0)=true:=by simp [hv0]
      refine wp_region_held_drew (S:=fun W'=>∀p:Addr,p.block<w5.heap.size->W'.cell? p=w5.cell? p) (by kernel_rfl) (fun p hp=>rfl) fun hH=>?_
      refine zag 23 rfl fun a ha=>?_
      have sza:a.tmps.size=92:=by rw [ha];rfl
      have ta2:∀h,a.tmps[2]'h=.int .i64 m:=by rw [ha];exact fun _=>rfl
      have ta3:∀h,a.tmps[3]'h=.int .i64 k:=by rw [ha];exact fun _=>rfl
      have ta4:∀h,a.tmps[4]'h=.int .i64 v:=by rw [ha];exact fun _=>rfl
      have ta5:∀h,a.tmps[5]'h=.pointer (some ⟨w.heap.size,0,none⟩):=by rw [ha];exact fun _=>rfl
      have ta6:∀h,a.tmps[6]'h=.pointer (some ⟨w.heap.size+1,0,none⟩):=by rw [ha];exact fun _=>rfl
      have ta13:∀h,a.tmps[13]'h=.int .i64 0:=by rw [ha];exact fun _=>rfl
      have HA:=mk0 ha
      clear ha
      refine tka 0 53 (.int .i64 0) rfl hH ?_
      refine tka 1 54 (.bool true) rfl hH ?_
      refine tka 2 55 (.bool true) rfl hH ?_
      refine tkga 3 56 2 55 true (.agg #[.slice aC d.classes.length cC,.slice aS d.supers.length cS,.slice aF d.fields.length cF,.slice aN d.names.length cN,.slice aT d.targets.length cT]) rfl rfl hH ?_
      refine tkga 4 57 2 55 true (.pointer (some ⟨w.heap.size,0,none⟩)) rfl rfl hH ?_
      refine tkga 5 58 2 55 true (.slice (some ⟨bW,oW,none⟩) h.words.length cW) rfl rfl hH ?_
      refine tkga 6 59 2 55 true (.int .i64 m) rfl rfl hH ?_
      refine tkga 7 60 2 55 true (.pointer (some ⟨bW,oW+m,none⟩)) rfl rfl hH ?_
      refine tkga 8 61 2 55 true (.int .i64 t.tag) rfl rfl hH ?_
      refine tkga 9 62 2 55 true (.int .i64 k) rfl rfl hH ?_
      refine wpAnyH_ready (rs:=[10]) (by kernel_rfl) (by simp) ?_
      refine AllReadyH.cons rfl (fun K10 hK10=>?_) AllReadyH.nil
      go_simp
      refine (HRF.out _ (Below.refl _ _).drew).mono ?_
      rintro r w6 ⟨rfl,hb6⟩
      rw [hc1]
      have hb56:Below w5.heap.size w5 w6:=(Below.refl w5.heap.size w5).drew.trans hb6
      refine hK10.out _ _ (fun p hp=>hb56.cell hp) fun hH=>?_
      rw [zab]
      refine tka 11 64 (.bool true) rfl hH ?_
      refine tka 12 65 (.bool true) rfl hH ?_
      refine tkga 13 66 12 65 true (.int .i64 v) rfl rfl hH ?_
      refine tkga 14 67 12 65 true (.bool true) rfl rfl hH ?_
      refine tka 15 68 (.bool true) rfl hH ?_
      refine tka 16 69 (.bool true) rfl hH ?_
      refine tkga 17 70 16 69 true (.agg #[.slice (some ⟨bW,oW,none⟩) h.words.length cW,.int .i64 h.young,.int .i64 h.old,.int .i64 h.ytop,.int .i64 h.otop,.slice aO h.noted.length cO,.int .i64 h.next]) rfl rfl hH ?_
      refine tkga 18 71 16 69 true (.agg #[.slice aC d.classes.length cC,.slice aS d.supers.length cS,.slice aF d.fields.length cF,.slice aN d.names.length cN,.slice aT d.targets.length cT]) rfl rfl hH ?_
      refine tkga 19 72 16 69 true (.int .i64 v) rfl rfl hH ?_
      refine wpAnyH_ready (rs:=[20]) (by kernel_rfl) (by simp) ?_
      refine AllReadyH.cons rfl (fun K20 hK20=>?_) AllReadyH.nil
      go_simp
      refine (HIV.out _ hb56).mono ?_
      rintro r w7 ⟨rfl,hb7⟩
      rw [hc3]
      replace hb56:Below w5.heap.size w5 w7:=hb56.trans (hb7.mono hb56.size)
      refine hK20.out _ _ (fun p hp=>hb56.cell hp) fun hH=>?_
      rw [zab]
      refine tkga 21 74 16 69 true (.bool false) rfl rfl hH ?_
      refine tka 22 75 (.bool false) rfl hH ?_
      refine wpAnyH_done (by kernel_rfl) ?_ _
      clear hH
      rw [HA.out]
      simp only [Act.put,List.setIfInBounds_toArray,List.set_cons_zero,List.set_cons_succ]
      obtain ⟨V7,hV7⟩:∃V7,V7=w7:=⟨_,rfl⟩
      rw [<-hV7]at hb56 ⊢
      clear hV7
      clear hv1
     rotate_left
     all_goals
      have HB7:=mk0 (HB5.out.trans (hb56.mono HB5.out.size))
      have HKX7:=mk0 ((hb56.block _ (lt0 HKX5.out)).trans HKX5.out)
      have HKW7:=mk0 ((hb56.block _ (lt0 HKW5.out)).trans HKW5.out)
      have HSO:=mk0 (zsp V7 B _ _ _ _ _ _ _ h d (HGV.out V7 HB7.out) ts HE.out HTS.out HRR.out m t HP.out k HKL.out v)
      have j0:=(HB7.out.block _ lk0).trans HK0.out.1
      have j1:=(HB7.out.block _ lk1).trans HK0.out.2
      clear a0 a1 a2 a3 a4 a5 a6 al az
      clear b0 b1 b2 b3 b4 bl
      clear lbW x1 x2
      obtain ⟨a0,a1,a2,a3,a4,a5,a6,az,al⟩:=cells7 j0
      obtain ⟨b0,b1,b2,b3,b4,bl⟩:=cells5 j1
      have HD7:=mk0 hb56
      clear hb56 j0 j1
      go_wp2_with fail
      refine HSO.out.mono ?_
      rintro r w8 ⟨hb8,yW,eW,yO,eO,rfl,hoy⟩
      rw [HHM.out]at hoy ⊢
      clear HSO
      have kx8:=(hb8.block _ (lt0 HKX7.out)).trans HKX7.out
      have kw8:=(hb8.block _ (lt0 HKW7.out)).trans HKW7.out
      have s2:=HS2.out
      have s4:=HS4.out
      have s5:=HS5.out
      have s7:=HD7.out.size
      have s8:=hb8.size
      have hb18:Below w1.heap.size w1 w8:=(HD2.out.trans (HD4.out.mono s2.1)).trans ((HD5.out.trans ((HD7.out.trans (hb8.mono s7)).mono s5)).mono (by omega))
      have hB8:Below W0.heap.size W0 w8:=HB7.out.trans (hb8.mono HB7.out.size)
      obtain ⟨W9,h9,hgS,hq,hr,rz,rl⟩:=setN (zs:=[.slice none 0 0,.int .i64 0,.int .i64 0,.int .i64 0,.int .i64 0,.slice none 0 0,.int .i64 0]) kw8 [.slice yW hm.words.length eW,.int .i64 hm.young,.int .i64 hm.old,.int .i64 hm.ytop,.int .i64 hm.otop,.slice yO hm.noted.length eO,.int .i64 hm.next] rfl
      have r0:=hr 0 _ rfl
      have r1:=hr 1 _ rfl
      have r2:=hr 2 _ rfl
      have r3:=hr 3 _ rfl
      have r4:=hr 4 _ rfl
      have r5:=hr 5 _ rfl
      have r6:=hr 6 _ rfl
      have q0:=hq 0 _ rfl
      have q1:=hq 1 _ rfl
      have q2:=hq 2 _ rfl
      have q3:=hq 3 _ rfl
      have q4:=hq 4 _ rfl
      have q5:=hq 5 _ rfl
      have q6:=hq 6 _ rfl
      have hw9:=hgS.size
      have HB9:=mk0 (bg0 (hB8) hgS (by omega))
      have HG9:=mk0 hgS
      simp only [setL,Nat.reduceAdd]at h9
      have H9:=mk0 h9
      clear hgS hq hr h9
      have h9v:=H9.out
      have kx9:=(HG9.out.block _ (lt0 kx8) (by intro e;injection e;omega)).trans kx8
      have kw9:W9.heap[w3.heap.size]? =some (.cells #[.slice yW hm.words.length eW,.int .i64 hm.young,.int .i64 hm.old,.int .i64 hm.ytop,.int .i64 hm.otop,.slice yO hm.noted.length eO,.int .i64 hm.next] 24 (0,0)):=by
       rw [<-h9v]
       exact zg6 (zg6 (zg6 (zg6 (zg6 (zg6 (zg6 kw8 _) _) _) _) _) _) _
      have hov9:=(HOV.out.below hb18).grown HG9.out (fun e=>by have:=(HOV.out.rW.lt _ e).2;omega) (fun e=>by have:=(HOV.out.rO.lt _ e).2;omega)
      have hoy9:=hoy.grown HG9.out (fun e=>by have:=(hoy.rW.lt _ e).1;omega) (fun e=>by have:=(hoy.rO.lt _ e).1;omega)
      have HIS9:Hid (∀V,Below W9.heap.size W9 V->Calls Tryz.prog 19 #[.agg #[.slice nW hm.words.length dW,.int .i64 hm.young,.int .i64 hm.old,.int .i64 hm.ytop,.int .i64 hm.otop,.slice nO hm.noted.length dO,.int .i64 hm.next],.int .i64 0,.int .i64 0,.agg #[.slice yW hm.words.length eW,.int .i64 hm.young,.int .i64 hm.old,.int .i64 hm.ytop,.int .i64 hm.otop,.slice yO hm.noted.length eO,.int .i64 hm.next]] V fun r w'=>r=.returned (.bool true)/\Below V.heap.size V w'):=fun V hV=>by
       have e1:=(hov9.below hV).sl HLM.out.1 HLM.out.2
       have e2:=(hoy9.below hV).sl HLM.out.1 HLM.out.2
       exact zrk V hm nW nO yW yO dW dO eW eO e1.1 e1.2 e2.1 e2.2
      have HKX9:=mk0 kx9
      have HKW9:=mk0 kw9
      clear h9v q0 q1 q2 q3 q4 q5 q6 kx8 kw8 hb18 hB8 hov9 hoy9 kx9 kw9 hb8 hoy s2 s4 s5 s7 s8
      go_wp2_with fail
      rw [H9.out]
      clear r0 r1 r2 r3 r4 r5 r6 rz rl
      refine (zno _).mono ?_
      rintro r w8' ⟨rfl,hb8⟩
      have p0:=(hb8.block _ (lt0 HKX9.out)).trans HKX9.out
      have p1:=(hb8.block _ (lt0 HKW9.out)).trans HKW9.out
      obtain ⟨a0,a1,a2,a3,a4,a5,a6,az,al⟩:=cells7 p0
      obtain ⟨b0,b1,b2,b3,b4,b5,b6,bz,bl⟩:=cells7 p1
      have HIS:=mk0 (HIS9.out w8' hb8)
      have HB8:Hid (Below w.heap.size w w8'):=HB0.out.trans ((HB9.out.trans (hb8.mono HB9.out.size)).mono HB0.out.size)
      clear hb8 p0 p1 HIS9
      go_wp2_with fail
      refine HIS.out.mono ?_
      rintro r w9 ⟨rfl,hb9⟩
      have HB9':=mk0 (HB8.out.trans (hb9.mono HB8.out.size))
      clear hb9
      go_wp2_with fail
      go_ret
      exact ⟨rfl,HB9'.out⟩
    have hse:=zmx (v:=v) hE hts hp hr
    have hcs:n<0\/(¬n<0/\t.len<=n):=by omega
    go_enter Tryz.func7,Tryz.ntmps7
    go_wp2_with fail
    refine HMK.out.mono ?_
    rw [<-HE0.out]
    rintro r w1 ⟨hb1,⟨h0,-⟩ | ⟨-,rfl⟩⟩
    ·rw [hse]at h0;exact absurd h0 (by decide)
    clear HMK
    rw [hse]
    obtain ⟨W2,hW2,hB2,hs2,kx⟩:=boxes1 w1 #[.slice none 0 0,.int .i64 0,.int .i64 0,.int .i64 0,.int .i64 0,.slice none 0 0,.int .i64 0] 24
    have hb02:Below W0.heap.size W0 W2:=hb1.trans (hB2.mono hb1.size)
    have j0:=(hb1.block _ lk0).trans HK0.out.1
    have j1:=(hb1.block _ lk1).trans HK0.out.2
    have HOP:=mk0 (zre W2 B _ _ _ _ _ _ _ h d (HG.out.below ((HB0.out.trans (hb02.mono HB0.out.size)).mono HG.out.le)) hnb)
    rw [hE]at HOP
    obtain ⟨a0,a1,a2,a3,a4,a5,a6,az,al⟩:=cells7 j0
    obtain ⟨b0,b1,b2,b3,b4,bl⟩:=cells5 j1
    have HW2:=mk0 hW2
    have HKX:=mk0 kx
    have HB2:=mk0 hb02
    have HS2:Hid (w1.heap.size<=W2.heap.size/\W0.heap.size<=w1.heap.size/\w1.heap.size<W2.heap.size):=⟨by omega,hb1.size,by omega⟩
    have HD2:=mk0 hB2
    clear hW2 hs2 kx hb02 j0 j1 hB2
    go_wp2_with fail
    rw [<-HW2.out]
    refine HOP.out.mono ?_
    rintro r w3 ⟨rfl,hb3⟩
    clear HOP
    clear a0 a1 a2 a3 a4 a5 a6 al az
    clear b0 b1 b2 b3 b4 bl
    obtain ⟨W4,hW4,hB4,hs4,kw⟩:=boxes1 w3 #[.slice none 0 0,.int .i64 0,.int .i64 0,.int .i64 0,.int .i64 0,.slice none 0 0,.int .i64 0] 24
    have hb24:Below W2.heap.size W2 W4:=hb3.trans (hB4.mono hb3.size)
    have hb03:Below W0.heap.size W0 w3:=HB2.out.trans (hb3.mono HB2.out.size)
    have hb04:Below W0.heap.size W0 W4:=HB2.out.trans (hb24.mono HB2.out.size)
    have j1:=(hb03.block _ lk1).trans HK0.out.2
    have j0:=(hb03.block _ lk0).trans HK0.out.1
    have kx:=(hb24.block _ (lt0 HKX.out)).trans HKX.out
    have HW4:=mk0 hW4
    have HB4:=mk0 hb04
    have HD4:=mk0 hb24
    have HS4:Hid (W2.heap.size<=w3.heap.size/\w3.heap.size<W4.heap.size):=⟨hb3.size,by omega⟩
    have HKX4:=mk0 kx
    have HKW:=mk0 kw
    clear hW4 hs4 hb24 hb04 hb03 hB4 hb3 kx kw
    have HIT:=mk0 (zrn W4 B _ _ _ _ _ _ _ h d (HGV.out W4 HB4.out) HRT.out.1 HRT.out.2.1 ts HTS.out (m:Int))
    rw [HP.out]at HIT
    simp only [Option.isSome_some]at HIT
    clear hse hp hts hr
    obtain ⟨a0,a1,a2,a3,a4,a5,a6,az,al⟩:=cells7 j0
    obtain ⟨b0,b1,b2,b3,b4,bl⟩:=cells5 j1
    clear j0 j1
    go_wp2_with fail
    rw [<-HW4.out]
    refine HIT.out.mono ?_
    rintro r w5 ⟨rfl,hb5⟩
    clear HIT
    clear a0 a1 a2 a3 a4 a5 a6 al az
    clear b0 b1 b2 b3 b4 bl
    have hb05:Below W0.heap.size W0 w5:=HB4.out.trans (hb5.mono HB4.out.size)
    have HKX5:=mk0 ((hb5.block _ (lt0 HKX4.out)).trans HKX4.out)
    have HKW5:=mk0 ((hb5.block _ (lt0 HKW.out)).trans HKW.out)
    have HB5:=mk0 hb05
    have HD5:=mk0 hb5
    have HS5:=mk0 hb5.size
    clear hb5
    have j0:=(hb05.block _ lk0).trans HK0.out.1
    have j1:=(hb05.block _ lk1).trans HK0.out.2
    obtain ⟨a0,a1,a2,a3,a4,a5,a6,az,al⟩:=cells7 j0
    obtain ⟨b0,b1,b2,b3,b4,bl⟩:=cells5 j1
    obtain ⟨lbW,x1,x2⟩:=HCE.out w5 hb05
    clear j0 j1 hb05
    rcases hcs with n1 | ⟨n1,n2⟩
    all_goals
     go_wp2_with fail
     refine wp_region_held_drew (S:=fun W'=>∀p:Addr,p.block<w5.heap.size->W'.cell? p=w5.cell? p) (by kernel_rfl) (fun p hp=>rfl) fun hH=>?_
     refine zag 23 rfl fun a ha=>?_
     have sza:a.tmps.size=92:=by rw [ha];rfl
     have ta2:∀h,a.tmps[2]'h=.int .i64 m:=by rw [ha];exact fun _=>rfl
     have ta3:∀h,a.tmps[3]'h=.int .i64 n:=by rw [ha];exact fun _=>rfl
     have ta4:∀h,a.tmps[4]'h=.int .i64 v:=by rw [ha];exact fun _=>rfl
     have ta5:∀h,a.tmps[5]'h=.pointer (some ⟨w.heap.size,0,none⟩):=by rw [ha];exact fun _=>rfl
     have ta6:∀h,a.tmps[6]'h=.pointer (some ⟨w.heap.size+1,0,none⟩):=by rw [ha];exact fun _=>rfl
     have ta13:∀h,a.tmps[13]'h=.int .i64 3:=by rw [ha];exact fun _=>rfl
     have HA:=mk0 ha
     clear ha
     refine tka 0 53 (.int .i64 3) rfl hH ?_
     refine tka 1 54 (.bool false) rfl hH ?_
     refine tka 2 55 (.bool false) rfl hH ?_
     refine tksa 3 56 2 55 true rfl rfl hH ?_
     refine tksa 4 57 2 55 true rfl rfl hH ?_
     refine tksa 5 58 2 55 true rfl rfl hH ?_
     refine tksa 6 59 2 55 true rfl rfl hH ?_
     refine tksa 7 60 2 55 true rfl rfl hH ?_
     refine tksa 8 61 2 55 true rfl rfl hH ?_
     refine tksa 9 62 2 55 true rfl rfl hH ?_
     refine tksa 10 63 2 55 true rfl rfl hH ?_
     refine tka 11 64 (.bool false) rfl hH ?_
     refine tka 12 65 (.bool false) rfl hH ?_
     refine tksa 13 66 12 65 true rfl rfl hH ?_
     refine tksa 14 67 12 65 true rfl rfl hH ?_
     refine tka 15 68 (.bool false) rfl hH ?_
     refine tka 16 69 (.bool false) rfl hH ?_
     refine tksa 17 70 16 69 true rfl rfl hH ?_
     refine tksa 18 71 16 69 true rfl rfl hH ?_
     refine tksa 19 72 16 69 true rfl rfl hH ?_
     refine tksa 20 73 16 69 true rfl rfl hH ?_
     refine tksa 21 74 16 69 true rfl rfl hH ?_
     refine tka 22 75 (.bool false) rfl hH ?_
     refine wpAnyH_done (by kernel_rfl) ?_ _
     clear hH
     rw [HA.out]
     simp only [Act.put,List.setIfInBounds_toArray,List.set_cons_zero,List.set_cons_succ]
     clear a0 a1 a2 a3 a4 a5 a6 al az
     clear b0 b1 b2 b3 b4 bl
     clear lbW x1 x2
     obtain ⟨V7,hV7⟩:∃V7,V7=w5.drew:=⟨_,rfl⟩
     rw [<-hV7]
     have hv7:Below w5.heap.size w5 V7:=hV7 ▸ (Below.refl _ _).drew
     have HB7:=mk0 (HB5.out.trans (hv7.mono HB5.out.size))
     have HKX7:=mk0 ((hv7.block _ (lt0 HKX5.out)).trans HKX5.out)
     have HKW7:=mk0 ((hv7.block _ (lt0 HKW5.out)).trans HKW5.out)
     clear hV7 hv7
     go_wp2_with fail
     refine (zno _).mono ?_
     rintro r w8 ⟨rfl,hb8⟩
     have p0:=(hb8.block _ (lt0 HKX7.out)).trans HKX7.out
     have p1:=(hb8.block _ (lt0 HKW7.out)).trans HKW7.out
     obtain ⟨a0,a1,a2,a3,a4,a5,a6,az,al⟩:=cells7 p0
     obtain ⟨b0,b1,b2,b3,b4,b5,b6,bz,bl⟩:=cells7 p1
     have HIS:=mk0 (zrl w8 ⟨[],0,0,0,0,[],0⟩ none none 0 0 3 (by decide))
     have HB8:Hid (Below w.heap.size w w8):=HB0.out.trans ((HB7.out.trans (hb8.mono HB7.out.size)).mono HB0.out.size)
     clear hb8 p0 p1
     go_wp2_with fail
     refine HIS.out.mono ?_
     rintro r w9 ⟨rfl,hb9⟩
     have HB9':=mk0 (HB8.out.trans (hb9.mono HB8.out.size))
     clear hb9
     go_wp2_with fail
     go_ret
     exact ⟨rfl,HB9'.out⟩
 have hse:=(zmv (loc:=loc) (n:=n) (v:=v) hE).symm
 go_enter Tryz.func7,Tryz.ntmps7
 go_wp2_with fail
 refine HMK.out.mono ?_
 rw [<-HE0.out]
 rintro r w1 ⟨hb1,⟨h0,-⟩ | ⟨-,rfl⟩⟩
 ·rw [hse]at h0;exact absurd h0 hE
 clear HMK
 rw [hse]
 clear hse
 obtain ⟨W2,hW2,hB2,hs2,kx⟩:=boxes1 w1 #[.slice none 0 0,.int .i64 0,.int .i64 0,.int .i64 0,.int .i64 0,.slice none 0 0,.int .i64 0] 24
 have hb02:Below W0.heap.size W0 W2:=hb1.trans (hB2.mono hb1.size)
 have j0:=(hb1.block _ lk0).trans HK0.out.1
 have j1:=(hb1.block _ lk1).trans HK0.out.2
 have HOP:=mk0 (zre W2 B _ _ _ _ _ _ _ h d (HG.out.below ((HB0.out.trans (hb02.mono HB0.out.size)).mono HG.out.le)) hnb)
 obtain ⟨a0,a1,a2,a3,a4,a5,a6,az,al⟩:=cells7 j0
 obtain ⟨b0,b1,b2,b3,b4,bl⟩:=cells5 j1
 have HW2:=mk0 hW2
 have HKX:=mk0 kx
 have HB2:=mk0 hb02
 have HS2:Hid (w1.heap.size<=W2.heap.size/\W0.heap.size<=w1.heap.size/\w1.heap.size<W2.heap.size):=⟨by omega,hb1.size,by omega⟩
 have HD2:=mk0 hB2
 clear hW2 hs2 kx hb02 j0 j1 hB2
 go_wp2_with fail
 rw [<-HW2.out]
 refine HOP.out.mono ?_
 rintro r w3 ⟨rfl,hb3⟩
 clear HOP
 clear a0 a1 a2 a3 a4 a5 a6 al az
 clear b0 b1 b2 b3 b4 bl
 obtain ⟨W4,hW4,hB4,hs4,kw⟩:=boxes1 w3 #[.slice none 0 0,.int .i64 0,.int .i64 0,.int .i64 0,.int .i64 0,.slice none 0 0,.int .i64 0] 24
 have hb24:Below W2.heap.size W2 W4:=hb3.trans (hB4.mono hb3.size)
 have hb03:Below W0.heap.size W0 w3:=HB2.out.trans (hb3.mono HB2.out.size)
 have hb04:Below W0.heap.size W0 W4:=HB2.out.trans (hb24.mono HB2.out.size)
 have j1:=(hb03.block _ lk1).trans HK0.out.2
 have j0:=(hb03.block _ lk0).trans HK0.out.1
 have kx:=(hb24.block _ (lt0 HKX.out)).trans HKX.out
 have HW4:=mk0 hW4
 have HB4:=mk0 hb04
 have HD4:=mk0 hb24
 have HS4:Hid (W2.heap.size<=w3.heap.size/\w3.heap.size<W4.heap.size):=⟨hb3.size,by omega⟩
 have HKX4:=mk0 kx
 have HKW:=mk0 kw
 clear hW4 hs4 hb24 hb04 hb03 hB4 hb3 kx kw
 generalize heapErr d h=er at*
 have hen:(er==0)=false:=beq_eq_false_iff_ne.2 hE
 clear j0 j1
 go_wp2_with fail
 rw [<-HW4.out]
 refine wp_region_held_drew (S:=fun W'=>∀p:Addr,p.block<W4.heap.size->W'.cell? p=W4.cell? p) (by kernel_rfl) (fun p hp=>rfl) fun hH=>?_
 refine zag 23 rfl fun a ha=>?_
 have sza:a.tmps.size=92:=by rw [ha];rfl
 have ta2:∀h,a.tmps[2]'h=.int .i64 loc:=by rw [ha];exact fun _=>rfl
 have ta3:∀h,a.tmps[3]'h=.int .i64 n:=by rw [ha];exact fun _=>rfl
 have ta4:∀h,a.tmps[4]'h=.int .i64 v:=by rw [ha];exact fun _=>rfl
 have ta5:∀h,a.tmps[5]'h=.pointer (some ⟨w.heap.size,0,none⟩):=by rw [ha];exact fun _=>rfl
 have ta6:∀h,a.tmps[6]'h=.pointer (some ⟨w.heap.size+1,0,none⟩):=by rw [ha];exact fun _=>rfl
 have ta13:∀h,a.tmps[13]'h=.int .i64 er:=by rw [ha];exact fun _=>rfl
 have HA:=mk0 ha
 clear ha
 refine tka 0 53 (.int .i64 er) rfl hH ?_
 refine tka 1 54 (.bool false) rfl hH ?_
 refine tka 2 55 (.bool false) rfl hH ?_
 refine tksa 3 56 2 55 true rfl rfl hH ?_
 refine tksa 4 57 2 55 true rfl rfl hH ?_
 refine tksa 5 58 2 55 true rfl rfl hH ?_
 refine tksa 6 59 2 55 true rfl rfl hH ?_
 refine tksa 7 60 2 55 true rfl rfl hH ?_
 refine tksa 8 61 2 55 true rfl rfl hH ?_
 refine tksa 9 62 2 55 true rfl rfl hH ?_
 refine tksa 10 63 2 55 true rfl rfl hH ?_
 refine tka 11 64 (.bool false) rfl hH ?_
 refine tka 12 65 (.bool false) rfl hH ?_
 refine tksa 13 66 12 65 true rfl rfl hH ?_
 refine tksa 14 67 12 65 true rfl rfl hH ?_
 refine tka 15 68 (.bool false) rfl hH ?_
 refine tka 16 69 (.bool false) rfl hH ?_
 refine tksa 17 70 16 69 true rfl rfl hH ?_
 refine tksa 18 71 16 69 true rfl rfl hH ?_
 refine tksa 19 72 16 69 true rfl rfl hH ?_
 refine tksa 20 73 16 69 true rfl rfl hH ?_
 refine tksa 21 74 16 69 true rfl rfl hH ?_
 refine tka 22 75 (.bool false) rfl hH ?_
 refine wpAnyH_done (by kernel_rfl) ?_ _
 clear hH
 rw [HA.out]
 simp only [Act.put,List.setIfInBounds_toArray,List.set_cons_zero,List.set_cons_succ]
 obtain ⟨V7,hV7⟩:∃V7,V7=W4.drew:=⟨_,rfl⟩
 rw [<-hV7]
 have hv7:Below W4.heap.size W4 V7:=hV7 ▸ (Below.refl _ _).drew
 have HB7:=mk0 (HB4.out.trans (hv7.mono HB4.out.size))
 have HKX7:=mk0 ((hv7.block _ (lt0 HKX4.out)).trans HKX4.out)
 have HKW7:=mk0 ((hv7.block _ (lt0 HKW.out)).trans HKW.out)
 clear hV7 hv7
 go_wp2_with fail
 refine (zno _).mono ?_
 rintro r w8 ⟨rfl,hb8⟩
 have p0:=(hb8.block _ (lt0 HKX7.out)).trans HKX7.out
 have p1:=(hb8.block _ (lt0 HKW7.out)).trans HKW7.out
 obtain ⟨a0,a1,a2,a3,a4,a5,a6,az,al⟩:=cells7 p0
 obtain ⟨b0,b1,b2,b3,b4,b5,b6,bz,bl⟩:=cells7 p1
 have HIS:=mk0 (zrl w8 ⟨[],0,0,0,0,[],0⟩ none none 0 0 er hE)
 have HB8:Hid (Below w.heap.size w w8):=HB0.out.trans ((HB7.out.trans (hb8.mono HB7.out.size)).mono HB0.out.size)
 clear hb8 p0 p1
 go_wp2_with fail
 refine HIS.out.mono ?_
 rintro r w9 ⟨rfl,hb9⟩
 have HB9':=mk0 (HB8.out.trans (hb9.mono HB8.out.size))
 clear hb9
 go_wp2_with fail
 go_ret
 exact ⟨rfl,HB9'.out⟩
end Go.Proofs.YtjdnmblggdobgaaGreat
