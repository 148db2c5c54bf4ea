import Derived.Test.YtjdnmblggdobgaaGreatHuE
import Derived.Test.YtjdnmblggdobgaaGreatJHuAHuC
import Derived.Test.YtjdnmblggdobgaaGreatHuF
import Derived.Test.YtjdnmblggdobgaaGreatJTilHuH
import Derived.Test.YtjdnmblggdobgaaGreatJHtPHtQ
import Derived.Test.YtjdnmblggdobgaaGreatJTk2Dies
set_option maxHeartbeats 16000000
set_option maxRecDepth 100000
namespace Go.Proofs.YtjdnmblggdobgaaGreat
open Go.RowKit Go.Maps
theorem right_ts {d:LinkD} {h:HeapD} (h0:heapErr d h=0):∃ts,bothT d h=some ts:=by
 cases hb:bothT d h with
 | some ts=>exact ⟨ts,rfl⟩
 | none=>
   unfold heapErr heapRes at h0
   rw [hb]at h0
   revert h0
   cases okLk d<;>cases partsB h<;>cases wordsB h<;>cases topsB h<;>simp
theorem th_none {d:LinkD} {h:HeapD} {loc:Int} {ts:List ThD} (h0:heapErr d h=0) (hts:bothT d h=some ts) (he:thErr d h loc≠0):plAt ts loc=none/\thErr d h loc=5:=by
 cases hp:plAt ts loc with
 | none=>exact ⟨rfl,thErr_none h0 hts hp⟩
 | some t=>exact absurd (thErr_ok h0 hts hp).1 he
theorem th_some {d:LinkD} {h:HeapD} {loc:Int} (he:thErr d h loc=0):heapErr d h=0/\∃ts t,bothT d h=some ts/\plAt ts loc=some t/\atOr (tsOf d h) loc=t:=by
 by_cases h0:heapErr d h=0
 ·
  obtain ⟨ts,hts⟩:=right_ts h0
  refine ⟨h0,ts,?_⟩
  cases hp:plAt ts loc with
  | none=>rw [thErr_none h0 hts hp]at he;cases he
  | some t=>exact ⟨t,hts,rfl,(thErr_ok h0 hts hp).2⟩
 ·
  rw [<-thErr_bad h0]at he;exact absurd he h0
theorem rowT_get {h:HeapD} {t:ThD} (h0:0<=t.loc) (h1:t.fin<=h.words.length) (k:Nat) (hk:k<(rowT h t).length):(rowT h t)[k]=wd h.words (t.loc+3+k)/\(k:Int)<t.len:=by
 have e:=hk
 unfold rowT at e
 simp at e
 have hf:t.fin=t.loc+3+t.len:=rfl
 refine ⟨?_,by omega⟩
 obtain ⟨m,hm⟩:∃m:Nat,t.loc+3+k=(m:Int):=⟨(t.loc+3+k).toNat,by omega⟩
 have hml:m<h.words.length:=by omega
 have e1:(rowT h t)[k]? =h.words[(t.loc+3).toNat+k]? :=by
  unfold rowT
  rw [List.getElem?_drop,List.getElem?_take,if_pos (by omega)]
 rw [List.getElem?_eq_getElem hk,show (t.loc+3).toNat+k=m by omega,List.getElem?_eq_getElem hml]at e1
 rw [hm,wd_get hml]
 exact Option.some.inj e1
theorem heapGets_any (w:World) (B:Nat) (vW vO kC kS kF kN kT:Value) (h:HeapD) (d:LinkD) (g:Hd B w vW vO kC kS kF kN kT h d) (hnb:h.next<=9223372036854775807) (loc n:Int) (hwf:(Lit.int .i64 loc).wf=true):
 Calls Tryz.prog 6 #[.agg #[vW,.int .i64 h.young,.int .i64 h.old,.int .i64 h.ytop,.int .i64 h.otop,vO,.int .i64 h.next],.agg #[kC,kS,kF,kN,kT],.int .i64 loc,.int .i64 n] w fun r w'=>r=.returned (.bool true)/\Below w.heap.size w w':=by
 have HG:=mk0 g
 obtain ⟨aW,cW,aO,cO,aC,cC,aS,cS,aF,cF,aN,cN,aT,cT,rfl,rfl,rfl,rfl,rfl,rfl,rfl⟩:=g.agg
 clear g
 obtain ⟨W0,hW0,hB0,hs0,k0,k1⟩:=boxes2 w #[.slice aW h.words.length cW,.int .i64 h.young,.int .i64 h.old,.int .i64 h.ytop,.int .i64 h.otop,.slice aO h.noted.length cO,.int .i64 h.next] #[.slice aC d.classes.length cC,.slice aS d.supers.length cS,.slice aF d.fields.length cF,.slice aN d.names.length cN,.slice aT d.targets.length cT] 24 36
 have lk0:=lt0 k0
 have lk1:=lt0 k1
 have HB0:=mk0 hB0
 have HK0:=mk0 (And.intro k0 k1)
 have HGV:Hid (∀V,Below W0.heap.size W0 V->Hd B V (.slice aW h.words.length cW) (.slice aO h.noted.length cO) (.slice aC d.classes.length cC) (.slice aS d.supers.length cS) (.slice aF d.fields.length cF) (.slice aN d.names.length cN) (.slice aT d.targets.length cT) h d):=fun V hV=>HG.out.below ((hB0.trans (hV.mono hB0.size)).mono HG.out.le)
 have HTG:=mk0 (Tag_any W0 B _ _ _ _ _ _ _ h d (HGV.out W0 (Below.refl _ _)) loc hwf)
 have HE0:=mk0 hW0
 rw [HE0.out]at HTG
 have HWF:=mk0 hwf
 clear hW0 k0 k1 hB0 hs0 hwf
 go_enter Tryz.func6,Tryz.ntmps6
 go_wp2_with fail
 refine HTG.out.mono ?_
 rw [<-HE0.out]
 rintro r w1 ⟨hb1,rfl⟩
 have hbw1:=hb1
 clear HTG hb1
 have j0:=(hbw1.block _ lk0).trans HK0.out.1
 have j1:=(hbw1.block _ lk1).trans HK0.out.2
 obtain ⟨a0,a1,a2,a3,a4,a5,a6,az,al⟩:=cells7 j0
 obtain ⟨b0,b1,b2,b3,b4,bl⟩:=cells5 j1
 clear j0 j1
 have HC:=mk0 (Get_any w1 B _ _ _ _ _ _ _ h d (HGV.out w1 hbw1) loc n HWF.out)
 have HBw1:=mk0 hbw1
 clear hbw1
 go_wp2_with fail
 refine HC.out.mono ?_
 rintro r w2 ⟨hn,rfl⟩
 clear HC
 clear a0 a1 a2 a3 a4 a5 a6 al az
 clear b0 b1 b2 b3 b4 bl
 have hbw2:Below W0.heap.size W0 w2:=HBw1.out.trans (hn.mono HBw1.out.size)
 clear hn
 have j0:=(hbw2.block _ lk0).trans HK0.out.1
 have j1:=(hbw2.block _ lk1).trans HK0.out.2
 obtain ⟨a0,a1,a2,a3,a4,a5,a6,az,al⟩:=cells7 j0
 obtain ⟨b0,b1,b2,b3,b4,bl⟩:=cells5 j1
 clear j0 j1
 have HC:=mk0 (Row_any w2 B _ _ _ _ _ _ _ h d (HGV.out w2 hbw2) loc HWF.out)
 have HBw2:=mk0 hbw2
 clear hbw2
 go_wp2_with fail
 refine HC.out.mono ?_
 rintro r w3 ⟨hn,hro⟩
 clear HC
 clear a0 a1 a2 a3 a4 a5 a6 al az
 clear b0 b1 b2 b3 b4 bl
 have hbw3:Below W0.heap.size W0 w3:=HBw2.out.trans (hn.mono HBw2.out.size)
 clear hn
 rcases hro with ⟨h0,aR,cR,rfl,hor⟩ | ⟨h0,rfl⟩
 ·
  have hdw3:Below w3.heap.size w3 w3:=Below.refl _ _
  obtain ⟨hE,ts,t,hts,hp,hat⟩:=th_some h0
  have htg:tagOf d h loc=t:=by unfold tagOf;rw [if_pos h0,hat]
  rw [hat]at hor ⊢
  rw [htg,h0]
  have HRT:=mk0 (heap_right hE hts HG.out.ww)
  have HLN:=mk0 (lain_of HRT.out.2.1 HRT.out.1 HG.out.ww hts)
  obtain ⟨ht,hloc⟩:=plAt_mem ts hp
  obtain ⟨hft,hl0,hl1⟩:=HLN.out.fit t ht
  have hl2:=HLN.out.words
  have hlo:=hft.lo
  have hfi:t.fin=t.loc+3+t.len:=rfl
  obtain ⟨ys,os,hy1,hy2,rfl⟩:=both_some hts
  have hth:=both_th hy1 hy2 t ht
  have HGE:Hid ((0<=n/\n<t.len->getErr d h loc n=0/\getVal d h loc n=wd h.words (loc+3+n))/\(¬(0<=n/\n<t.len)->getErr d h loc n=3/\getVal d h loc n=0)):=by
   refine ⟨fun hx=>?_,fun hx=>?_⟩
   ·
    have e:=getErr_ok hE hts hp hx.1 hx.2
    exact ⟨e,by unfold getVal;rw [if_pos e]⟩
   ·
    have e:=getErr_far (n:=n) hE hts hp hx
    exact ⟨e,by unfold getVal;rw [if_neg (by rw [e];decide)]⟩
  obtain ⟨m,hm⟩:∃m:Nat,loc=(m:Int):=⟨loc.toNat,by omega⟩
  subst hm
  have lm2:m+2<h.words.length:=by omega
  have e0:h.words[m]=t.tag:=by rw [hth,hloc];show _=wd _ _;rw [wd_get (by omega)]
  have e1:h.words[m+1]=t.len:=by rw [hth,hloc];show _=wd _ ((m:Int)+1);rw [show (m:Int)+1=((m+1:Nat):Int) by omega,wd_get (by omega)]
  have e2:h.words[m+2]=t.hash:=by rw [hth,hloc];show _=wd _ ((m:Int)+2);rw [show (m:Int)+2=((m+2:Nat):Int) by omega,wd_get (by omega)]
  obtain ⟨aV,cV,eV,hcap,hmx,hel⟩:=HG.out.sW
  cases eV
  obtain ⟨bW,oW,cs,e3,hbB,hbl,-⟩:=hel 0 (by omega)
  subst e3
  unfold maxLen at hmx
  obtain ⟨sv,hsv⟩:∃s,s=sliced (some ⟨bW,oW,none⟩) (t.loc+3).toNat t.fin.toNat cW 1:=⟨_,rfl⟩
  have rs:∀V,(Instr.slice 22 (.slice (some ⟨bW,oW,none⟩) h.words.length cW) (some (.int .i64 ((m:Int)+3))) (some (.int .i64 ((m:Int)+3+t.len))) none).run Tryz.prog V=.ok sv V:=fun V=>by
   have q1:(m:Int)+3=t.loc+3:=by omega
   have q2:(m:Int)+3+t.len=t.fin:=by omega
   rw [q2,q1,hsv,run_slice_lh V 22 _ _ _ Tryz.underlying22 .i64 .i64 (t.loc+3) t.fin (by omega) (by omega) (by omega)]
   rfl
  have HT6:Hid (∀V,Below W0.heap.size W0 V->SL 1 RI (· <B) V sv (rowT h t)):=fun V hV=>hsv ▸ (HGV.out V hV).sW.sub (t.loc+3).toNat t.fin.toNat (by omega) (by omega)
  have HRN:Hid ((rowT h t).length<=1000000):=by show _<=_;unfold rowT;simp;omega
  have HRL:Hid ((rowT h t).length=t.len.toNat):=by show _=_;unfold rowT;simp;omega
  have HRG:Hid (∀(k:Nat) (hk:k<(rowT h t).length),(rowT h t)[k]=wd h.words ((m:Int)+3+k)):=fun k hk=>by
   have:=(rowT_get hl0 hl1 k hk).1
   rw [hloc]at this
   exact this
  have HOR:=mk0 hor
  have wm3:IntKind.i64.wrap ((m:Int)+3)=(m:Int)+3:=ws0 _ (by omega) (by omega)
  have wm3l:IntKind.i64.wrap ((m:Int)+3+t.len)=(m:Int)+3+t.len:=ws0 _ (by omega) (by omega)
  obtain ⟨m1,hm1⟩:∃m1,m1=m+1:=⟨_,rfl⟩
  obtain ⟨m2,hm2⟩:∃m2,m2=m+2:=⟨_,rfl⟩
  have wm1:IntKind.i64.wrap ((m:Int)+1)=(m1:Int):=by rw [hm1];exact (ws0 _ (by omega) (by omega)).trans (by omega)
  have wm2:IntKind.i64.wrap ((m:Int)+2)=(m2:Int):=by rw [hm2];exact (ws0 _ (by omega) (by omega)).trans (by omega)
  have lm0:m<h.words.length:=by omega
  have lm1:m1<h.words.length:=by omega
  have lm2':m2<h.words.length:=by omega
  have HCE:Hid (∀V,Below W0.heap.size W0 V->bW<V.heap.size/\V.cell? ⟨bW,oW+m,none⟩=some (.int .i64 t.tag)/\V.cell? ⟨bW,oW+m1,none⟩=some (.int .i64 t.len)/\V.cell? ⟨bW,oW+m2,none⟩=some (.int .i64 t.hash)):=fun V hV=>by
   subst hm1 hm2
   obtain ⟨b1,o1,q1,z1,x1⟩:=(HGV.out V hV).sW.atI m (by omega)
   cases q1
   obtain ⟨b2,o2,q2,-,x2⟩:=(HGV.out V hV).sW.atI (m+1) (by omega)
   cases q2
   obtain ⟨b3,o3,q3,-,x3⟩:=(HGV.out V hV).sW.atI (m+2) (by omega)
   cases q3
   rw [e0]at x1
   rw [e1]at x2
   rw [e2]at x3
   exact ⟨z1,x1,x2,x3⟩
  have HIS:=mk0 (fun V (hV:Below W0.heap.size W0 V)=>isThing_any V B _ _ _ _ _ _ _ h d (HGV.out V hV) HRT.out.1 HRT.out.2.1 (ys++os) hts (m:Int))
  rw [hp]at HIS
  simp only [Option.isSome_some]at HIS
  have HLO:=mk0 (And.intro hlo (And.intro hl0 hl2))
  clear hor hat htg hth hel hcap hmx hbl hbB hsv e0 e1 e2 hm1 hm2 hl0 hl1 hl2 hlo hft hfi ht hp hts hy1 hy2 lm2 hloc h0
  have j0:=(hbw3.block _ lk0).trans HK0.out.1
  have j1:=(hbw3.block _ lk1).trans HK0.out.2
  obtain ⟨a0,a1,a2,a3,a4,a5,a6,az,al⟩:=cells7 j0
  obtain ⟨b0,b1,b2,b3,b4,bl⟩:=cells5 j1
  clear j0 j1
  have HC:=mk0 (openHeap_any w3 B _ _ _ _ _ _ _ h d (HGV.out w3 hbw3) hnb)
  rw [hE]at HC
  have HBw3:=mk0 hbw3
  have HDw3:=mk0 hdw3
  clear hdw3
  clear hbw3
  go_wp2_with fail
  refine HC.out.mono ?_
  rintro r w4 ⟨rfl,hn⟩
  clear HC
  clear a0 a1 a2 a3 a4 a5 a6 al az
  clear b0 b1 b2 b3 b4 bl
  have hbw4:Below W0.heap.size W0 w4:=HBw3.out.trans (hn.mono HBw3.out.size)
  have hdw4:Below w3.heap.size w3 w4:=HDw3.out.trans (hn.mono HDw3.out.size)
  clear hn
  have j0:=(hbw4.block _ lk0).trans HK0.out.1
  have j1:=(hbw4.block _ lk1).trans HK0.out.2
  obtain ⟨a0,a1,a2,a3,a4,a5,a6,az,al⟩:=cells7 j0
  obtain ⟨b0,b1,b2,b3,b4,bl⟩:=cells5 j1
  clear j0 j1
  have HC:=mk0 (HIS.out w4 hbw4)
  have HBw4:=mk0 hbw4
  have HDw4:=mk0 hdw4
  clear hdw4
  clear hbw4
  go_wp2_with fail
  refine HC.out.mono ?_
  rintro r w5 ⟨rfl,hn⟩
  clear HC
  clear a0 a1 a2 a3 a4 a5 a6 al az
  clear b0 b1 b2 b3 b4 bl
  have hbw5:Below W0.heap.size W0 w5:=HBw4.out.trans (hn.mono HBw4.out.size)
  have hdw5:Below w3.heap.size w3 w5:=HDw4.out.trans (hn.mono HDw4.out.size)
  clear hn
  obtain ⟨lbW,x1,x2,x3⟩:=HCE.out w5 hbw5
  have j0:=(hbw5.block _ lk0).trans HK0.out.1
  have j1:=(hbw5.block _ lk1).trans HK0.out.2
  obtain ⟨a0,a1,a2,a3,a4,a5,a6,az,al⟩:=cells7 j0
  obtain ⟨b0,b1,b2,b3,b4,bl⟩:=cells5 j1
  clear j0 j1
  have HBw5:=mk0 hbw5
  have HDw5:=mk0 hdw5
  clear hbw5 hdw5
  go_wp2_with fail
  refine wp_region_held_drew (S:=fun W'=>∀p:Addr,p.block<w5.heap.size->W'.cell? p=w5.cell? p) (by kernel_rfl) (fun p hp=>rfl) fun hH=>?_
  refine begin_act 20 rfl fun a ha=>?_
  have sza:a.tmps.size=141:=by rw [ha];rfl
  have ta2:∀h,a.tmps[2]'h=.int .i64 m:=by rw [ha];exact fun _=>rfl
  have ta4:∀h,a.tmps[4]'h=.pointer (some ⟨w.heap.size,0,none⟩):=by rw [ha];exact fun _=>rfl
  have HA:=mk0 ha
  clear ha
  refine tka 0 63 (.pointer (some ⟨w.heap.size,0,none⟩)) rfl hH ?_
  refine tka 1 64 (.slice (some ⟨bW,oW,none⟩) h.words.length cW) rfl hH ?_
  refine tka 2 65 (.int .i64 m) rfl hH ?_
  refine tka 3 66 (.pointer (some ⟨bW,oW+m,none⟩)) rfl hH ?_
  refine tka 4 67 (.int .i64 t.tag) rfl hH ?_
  refine tka 5 68 (.pointer (some ⟨w.heap.size,0,none⟩)) rfl hH ?_
  refine tka 6 69 (.slice (some ⟨bW,oW,none⟩) h.words.length cW) rfl hH ?_
  refine tka 7 70 (.int .i64 m) rfl hH ?_
  refine tka 8 71 (.int .i64 m1) rfl hH ?_
  refine tka 9 72 (.pointer (some ⟨bW,oW+m1,none⟩)) rfl hH ?_
  refine tka 10 73 (.int .i64 t.len) rfl hH ?_
  refine tka 11 74 (.pointer (some ⟨w.heap.size,0,none⟩)) rfl hH ?_
  refine tka 12 75 (.slice (some ⟨bW,oW,none⟩) h.words.length cW) rfl hH ?_
  refine tka 13 76 (.int .i64 m) rfl hH ?_
  refine tka 14 77 (.int .i64 m2) rfl hH ?_
  refine tka 15 78 (.pointer (some ⟨bW,oW+m2,none⟩)) rfl hH ?_
  refine tka 16 79 (.int .i64 t.hash) rfl hH ?_
  refine tka 17 19 (.int .i64 t.tag) rfl hH ?_
  refine tka 18 20 (.int .i64 t.len) rfl hH ?_
  refine tka 19 21 (.int .i64 t.hash) rfl hH ?_
  refine wpAnyH_done (by kernel_rfl) ?_ _
  clear hH
  rw [HA.out]
  simp only [Act.put,List.setIfInBounds_toArray,List.set_cons_zero,List.set_cons_succ]
  obtain ⟨V6,hV6⟩:∃V6,V6=w5.drew:=⟨_,rfl⟩
  rw [<-hV6]
  have hv6:Below w5.heap.size w5 V6:=hV6 ▸ (Below.refl _ _).drew
  have hbV6:Below W0.heap.size W0 V6:=HBw5.out.trans (hv6.mono HBw5.out.size)
  have hdV6:Below w3.heap.size w3 V6:=HDw5.out.trans (hv6.mono HDw5.out.size)
  clear hV6 hv6 x1 x2 x3
  clear a0 a1 a2 a3 a4 a5 a6 al az
  clear b0 b1 b2 b3 b4 bl
  have j0:=(hbV6.block _ lk0).trans HK0.out.1
  have j1:=(hbV6.block _ lk1).trans HK0.out.2
  obtain ⟨a0,a1,a2,a3,a4,a5,a6,az,al⟩:=cells7 j0
  obtain ⟨b0,b1,b2,b3,b4,bl⟩:=cells5 j1
  clear j0 j1
  by_cases hr:0<=n/\n<t.len
  ·
   rw [(HGE.out.1 hr).1,(HGE.out.1 hr).2]
   obtain ⟨k,hk⟩:∃k:Nat,n=(k:Int):=⟨n.toNat,by omega⟩
   subst hk
   have hkl:k<(rowT h t).length:=by have:=HRL.out;omega
   obtain ⟨bR,oR,cR',q1,z1,x1⟩:∃bR oR cR',sv=.slice (some ⟨bR,oR,none⟩) (rowT h t).length cR'/\bR<V6.heap.size/\V6.cell? ⟨bR,oR+k,none⟩=some (.int .i64 (wd h.words ((m:Int)+3+k))):=by
    have s6:=HT6.out V6 hbV6
    obtain ⟨aX,cX,q2,-⟩:=HT6.out V6 hbV6
    rw [q2]at s6
    obtain ⟨bR,oR,q1,z1,x1⟩:=s6.atI k hkl
    rw [HRG.out k hkl]at x1
    exact ⟨bR,oR,cX,by rw [q2,q1],z1,x1⟩
   subst q1
   have n1:¬((k:Int)<0):=by omega
   have n2:¬(t.len<=(k:Int)):=by omega
   have hrl:=HRL.out
   generalize wd h.words ((m:Int)+3+k)=x at*
   clear hr hrl
   have HBV6:=mk0 hbV6
   have HDV6:=mk0 hdV6
   clear hdV6
   clear hbV6
   go_wp2_with fail
   refine (heapBegun_any _).mono ?_
   rintro r w8 ⟨rfl,hn⟩
   have hb8:Below W0.heap.size W0 w8:=HBV6.out.trans (hn.mono HBV6.out.size)
   have hd8:Below w3.heap.size w3 w8:=HDV6.out.trans (hn.mono HDV6.out.size)
   have s1:=((own_intV (own_belowW HOR.out hd8) HRN.out).monoI (M':=(· <w8.heap.size)) fun _ hk=>hk.lt)
   have s2:=HT6.out w8 hb8
   have HSI:=mk0 (sameInts_any w8 _ _ _ _ _ _ s1 s2)
   rw [eqL_same]at HSI
   clear s1 s2 hd8
   have HB8:Hid (Below w.heap.size w w8):=HB0.out.trans (hb8.mono HB0.out.size)
   clear hb8 hn
   go_wp2_with fail
   refine HSI.out.mono ?_
   rintro r w9 ⟨rfl,n9,rfl⟩
   go_wp2_with fail
   go_ret
   exact ⟨rfl,below_dN HB8.out n9⟩
  ·
   rw [(HGE.out.2 hr).1,(HGE.out.2 hr).2]
   obtain ⟨sa,sn,sc,q1⟩:∃a n c,sv=.slice a n c:=by obtain ⟨a,c,e,-⟩:=HT6.out V6 hbV6;exact ⟨a,_,c,e⟩
   subst q1
   by_cases n1:n<0
   ·
    clear hr
    have HBV6:=mk0 hbV6
    have HDV6:=mk0 hdV6
    clear hdV6
    clear hbV6
    go_wp2_with fail
    refine (heapBegun_any _).mono ?_
    rintro r w8 ⟨rfl,hn⟩
    have hb8:Below W0.heap.size W0 w8:=HBV6.out.trans (hn.mono HBV6.out.size)
    have hd8:Below w3.heap.size w3 w8:=HDV6.out.trans (hn.mono HDV6.out.size)
    have s1:=((own_intV (own_belowW HOR.out hd8) HRN.out).monoI (M':=(· <w8.heap.size)) fun _ hk=>hk.lt)
    have s2:=HT6.out w8 hb8
    have HSI:=mk0 (sameInts_any w8 _ _ _ _ _ _ s1 s2)
    rw [eqL_same]at HSI
    clear s1 s2 hd8
    have HB8:Hid (Below w.heap.size w w8):=HB0.out.trans (hb8.mono HB0.out.size)
    clear hb8 hn
    go_wp2_with fail
    refine HSI.out.mono ?_
    rintro r w9 ⟨rfl,n9,rfl⟩
    go_wp2_with fail
    go_ret
    exact ⟨rfl,below_dN HB8.out n9⟩
   ·
    have n2:t.len<=n:=by omega
    clear hr
    have HBV6:=mk0 hbV6
    have HDV6:=mk0 hdV6
    clear hdV6
    clear hbV6
    go_wp2_with fail
    refine (heapBegun_any _).mono ?_
    rintro r w8 ⟨rfl,hn⟩
    have hb8:Below W0.heap.size W0 w8:=HBV6.out.trans (hn.mono HBV6.out.size)
    have hd8:Below w3.heap.size w3 w8:=HDV6.out.trans (hn.mono HDV6.out.size)
    have s1:=((own_intV (own_belowW HOR.out hd8) HRN.out).monoI (M':=(· <w8.heap.size)) fun _ hk=>hk.lt)
    have s2:=HT6.out w8 hb8
    have HSI:=mk0 (sameInts_any w8 _ _ _ _ _ _ s1 s2)
    rw [eqL_same]at HSI
    clear s1 s2 hd8
    have HB8:Hid (Below w.heap.size w w8):=HB0.out.trans (hb8.mono HB0.out.size)
    clear hb8 hn
    go_wp2_with fail
    refine HSI.out.mono ?_
    rintro r w9 ⟨rfl,n9,rfl⟩
    go_wp2_with fail
    go_ret
    exact ⟨rfl,below_dN HB8.out n9⟩
 ·
  have htg:tagOf d h loc=⟨0,0,0,0⟩:=by unfold tagOf;rw [if_neg h0]
  have hge:getErr d h loc n=thErr d h loc:=by unfold getErr;rw [if_neg h0]
  have hgv:getVal d h loc n=0:=by unfold getVal;rw [hge,if_neg h0]
  rw [htg,hgv,hge]
  clear htg hge hgv
  by_cases hE:heapErr d h=0
  ·
   obtain ⟨ts,hts⟩:=right_ts hE
   obtain ⟨hp,h5⟩:=th_none hE hts h0
   rw [h5]
   have HRT:=mk0 (heap_right hE hts HG.out.ww)
   clear h0 h5
   have j0:=(hbw3.block _ lk0).trans HK0.out.1
   have j1:=(hbw3.block _ lk1).trans HK0.out.2
   obtain ⟨a0,a1,a2,a3,a4,a5,a6,az,al⟩:=cells7 j0
   obtain ⟨b0,b1,b2,b3,b4,bl⟩:=cells5 j1
   clear j0 j1
   have HC:=mk0 (openHeap_any w3 B _ _ _ _ _ _ _ h d (HGV.out w3 hbw3) hnb)
   rw [hE]at HC
   have HBw3:=mk0 hbw3
   clear hbw3
   go_wp2_with fail
   refine HC.out.mono ?_
   rintro r w4 ⟨rfl,hn⟩
   clear HC
   clear a0 a1 a2 a3 a4 a5 a6 al az
   clear b0 b1 b2 b3 b4 bl
   have hbw4:Below W0.heap.size W0 w4:=HBw3.out.trans (hn.mono HBw3.out.size)
   clear hn
   have j0:=(hbw4.block _ lk0).trans HK0.out.1
   have j1:=(hbw4.block _ lk1).trans HK0.out.2
   obtain ⟨a0,a1,a2,a3,a4,a5,a6,az,al⟩:=cells7 j0
   obtain ⟨b0,b1,b2,b3,b4,bl⟩:=cells5 j1
   clear j0 j1
   have HC:=mk0 (isThing_any w4 B _ _ _ _ _ _ _ h d (HGV.out w4 hbw4) HRT.out.1 HRT.out.2.1 ts hts loc)
   rw [hp]at HC
   simp only [Option.isSome_none]at HC
   have HBw4:=mk0 hbw4
   clear hbw4
   go_wp2_with fail
   refine HC.out.mono ?_
   rintro r w5 ⟨rfl,hn⟩
   clear HC
   clear a0 a1 a2 a3 a4 a5 a6 al az
   clear b0 b1 b2 b3 b4 bl
   have hbw5:Below W0.heap.size W0 w5:=HBw4.out.trans (hn.mono HBw4.out.size)
   clear hn
   have HBw5:=mk0 hbw5
   clear hbw5
   go_wp2_with fail
   refine (heapBegun_any _).mono ?_
   rintro r w8 ⟨rfl,hn⟩
   have hb8:Below W0.heap.size W0 w8:=HBw5.out.trans (hn.mono HBw5.out.size)
   have HSI:Hid (Calls Tryz.prog 29 #[.slice none 0 0,.slice none 0 0] w8 fun r w'=>r=.returned (.bool true)/\∃n,w'=w8.drewN n):=sameInts_any w8 (· <0) (· <0) _ _ [] [] (nilI _ _) (nilI _ _)
   have HB8:Hid (Below w.heap.size w w8):=HB0.out.trans (hb8.mono HB0.out.size)
   clear hb8 hn
   go_wp2_with fail
   refine HSI.out.mono ?_
   rintro r w9 ⟨rfl,n9,rfl⟩
   go_wp2_with fail
   go_ret
   exact ⟨rfl,below_dN HB8.out n9⟩
  ·
   rw [<-thErr_bad hE]
   clear h0
   have j0:=(hbw3.block _ lk0).trans HK0.out.1
   have j1:=(hbw3.block _ lk1).trans HK0.out.2
   obtain ⟨a0,a1,a2,a3,a4,a5,a6,az,al⟩:=cells7 j0
   obtain ⟨b0,b1,b2,b3,b4,bl⟩:=cells5 j1
   clear j0 j1
   have HC:=mk0 (openHeap_any w3 B _ _ _ _ _ _ _ h d (HGV.out w3 hbw3) hnb)
   generalize heapErr d h=er at*
   have hen:(er==0)=false:=beq_eq_false_iff_ne.2 hE
   have HBw3:=mk0 hbw3
   clear hbw3
   go_wp2_with fail
   refine HC.out.mono ?_
   rintro r w4 ⟨rfl,hn⟩
   clear HC
   clear a0 a1 a2 a3 a4 a5 a6 al az
   clear b0 b1 b2 b3 b4 bl
   have hbw4:Below W0.heap.size W0 w4:=HBw3.out.trans (hn.mono HBw3.out.size)
   clear hn
   have HBw4:=mk0 hbw4
   clear hbw4
   go_wp2_with fail
   refine (heapBegun_any _).mono ?_
   rintro r w8 ⟨rfl,hn⟩
   have hb8:Below W0.heap.size W0 w8:=HBw4.out.trans (hn.mono HBw4.out.size)
   have HSI:Hid (Calls Tryz.prog 29 #[.slice none 0 0,.slice none 0 0] w8 fun r w'=>r=.returned (.bool true)/\∃n,w'=w8.drewN n):=sameInts_any w8 (· <0) (· <0) _ _ [] [] (nilI _ _) (nilI _ _)
   have HB8:Hid (Below w.heap.size w w8):=HB0.out.trans (hb8.mono HB0.out.size)
   clear hb8 hn
   go_wp2_with fail
   refine HSI.out.mono ?_
   rintro r w9 ⟨rfl,n9,rfl⟩
   go_wp2_with fail
   go_ret
   exact ⟨rfl,below_dN HB8.out n9⟩
end Go.Proofs.YtjdnmblggdobgaaGreat
