import Derived.Test.YtjdnmblggdobgaaGreatHuE
import Derived.Test.YtjdnmblggdobgaaGreatJHuAHuC
import Derived.Test.YtjdnmblggdobgaaGreatHuG
import Derived.Test.YtjdnmblggdobgaaGreatHuI
set_option maxHeartbeats 8000000
set_option maxRecDepth 100000
namespace Go.Proofs.YtjdnmblggdobgaaGreat
open Go.RowKit Go.Maps
theorem make_zero {d:LinkD} {h:HeapD} {tag len:Int} {old:Bool} (hz:makeRes d h tag len old=0):heapErr d h=0/\formErr d tag len=0/\roomB h old len=true:=by
 unfold makeRes at hz
 by_cases h0:heapErr d h=0
 ·
  rw [if_pos h0]at hz
  unfold makeErr at hz
  unfold formErr
  refine ⟨h0,?_⟩
  cases h1:isTagB d.classes.length tag<;>cases h2:mayHaveB d.fields tag len<;>cases h3:roomB h old len<;>simp_all
 ·
  rw [if_neg h0]at hz
  exact absurd hz h0
theorem make_bad {d:LinkD} {h:HeapD} {tag len:Int} {old:Bool} (h0:heapErr d h=0):makeRes d h tag len old=if formErr d tag len=0 then (if roomB h old len then 0 else 8) else formErr d tag len:=by
 unfold makeRes makeErr formErr
 rw [if_pos h0]
 cases h1:isTagB d.classes.length tag<;>cases h2:mayHaveB d.fields tag len<;>simp
theorem form_len {d:LinkD} {tag len:Int} (hd:Few d) (hf:formErr d tag len=0):0<=len/\len<=500:=by
 unfold formErr at hf
 refine len_small hd (tag:=tag) ?_
 cases h1:isTagB d.classes.length tag<;>cases h2:mayHaveB d.fields tag len<;>simp_all
theorem right_of {d:LinkD} {h:HeapD} (h0:heapErr d h=0) (hw:∀x∈h.words,(Lit.int .i64 x).wf=true):Sized d h/\Few d/\h.noted.length<=1000000:=by
 cases hb:bothT d h with
 | some ts=>exact heap_right h0 hb hw
 | none=>
   unfold heapErr heapRes at h0
   rw [hb]at h0
   revert h0
   cases okLk d<;>cases partsB h<;>cases wordsB h<;>cases topsB h<;>simp
theorem OwnV.sl {b:Nat} {w:World} {nW nO:Value} {h:HeapD} (o:OwnV b w nW nO h) (h1:h.words.length<=1000000) (h2:h.noted.length<=1000000):SL 1 RI (· <w.heap.size) w nW h.words/\SL 1 RI (· <w.heap.size) w nO h.noted:=
 ⟨(own_intV o.rW h1).monoI fun _ hk=>hk.lt,(own_intV o.rO h2).monoI fun _ hk=>hk.lt⟩
theorem rMake_any (w:World) (B:Nat) (vW vO:Value) (h:HeapD) (d:LinkD) (sW:SL 1 RI (· <B) w vW h.words) (sO:SL 1 RI (· <B) w vO h.noted) (hB:B<=w.heap.size) (hl2:h.noted.length<=1000000) (hz:Sized d h) (tag len:Int) (hn:0<=len/\len<=500) (old:Bool):
 Calls Tryz.prog 24 #[.agg #[vW,.int .i64 h.young,.int .i64 h.old,.int .i64 h.ytop,.int .i64 h.otop,vO,.int .i64 h.next],.int .i64 tag,.int .i64 len,.bool old] w fun r w'=>Below w.heap.size w w'/\RMakeOut w vW vO h tag len old r w':=by
 cases old
 ·
  exact rMakeF_any w B vW vO h d sW sO hB hl2 hz tag len hn
 ·
  exact rMakeT_any w B vW vO h d sW sO hB hl2 hz tag len hn
theorem heapMakes_any (w:World) (B:Nat) (vW vO kC kS kF kN kT:Value) (h:HeapD) (d:LinkD) (g:Hd B w vW vO kC kS kF kN kT h d) (hnb:h.next<=9223372036854775807) (tag len:Int) (old:Bool):
 Calls Tryz.prog 5 #[.agg #[vW,.int .i64 h.young,.int .i64 h.old,.int .i64 h.ytop,.int .i64 h.otop,vO,.int .i64 h.next],.agg #[kC,kS,kF,kN,kT],.int .i64 tag,.int .i64 len,.bool old] w fun r w'=>r=.returned (.bool true)/\Below w.heap.size w w':=by
 have HG:=mk0 g
 obtain ⟨aW,cW,aO,cO,aC,cC,aS,cS,aF,cF,aN,cN,aT,cT,rfl,rfl,rfl,rfl,rfl,rfl,rfl⟩:=g.agg
 clear g
 obtain ⟨W0,hW0,hB0,hs0,k0,k1⟩:=boxes2 w #[.slice aW h.words.length cW,.int .i64 h.young,.int .i64 h.old,.int .i64 h.ytop,.int .i64 h.otop,.slice aO h.noted.length cO,.int .i64 h.next] #[.slice aC d.classes.length cC,.slice aS d.supers.length cS,.slice aF d.fields.length cF,.slice aN d.names.length cN,.slice aT d.targets.length cT] 24 36
 have lk0:=lt0 k0
 have lk1:=lt0 k1
 obtain ⟨a0,a1,a2,a3,a4,a5,a6,az,al⟩:=cells7 k0
 obtain ⟨b0,b1,b2,b3,b4,bl⟩:=cells5 k1
 have HB0:=mk0 hB0
 have HK0:=mk0 (And.intro k0 k1)
 have HMK:=mk0 (Make_any W0 B _ _ _ _ _ _ _ h d (HG.out.below (hB0.mono HG.out.le)) tag len old)
 have HE0:=mk0 hW0
 rw [HE0.out]at HMK
 clear hW0 k0 k1 hB0 hs0
 clear a0 a1 a2 a3 a4 a5 a6 al az
 clear b0 b1 b2 b3 b4 bl
 go_enter Tryz.func5,Tryz.ntmps5
 go_wp2_with fail
 refine HMK.out.mono ?_
 rw [<-HE0.out]
 rintro r w1 ⟨hb1,⟨h0,nW,dW,nO,dO,rfl,hov⟩ | ⟨h0,rfl⟩⟩
 ·
  obtain ⟨hm,hhm⟩:∃hm,makeD h tag len old=hm:=⟨_,rfl⟩
  rw [hhm]at hov ⊢
  have HZ:=mk0 (make_zero h0)
  have hE:=HZ.out.1
  have HRT:=mk0 (right_of hE HG.out.ww)
  have HFW:=mk0 HRT.out.2.1
  have HLM:Hid (hm.words.length<=1000000/\hm.noted.length<=1000000):=by
   have hz:=HRT.out.1
   have hln:=form_len HFW.out HZ.out.2.1
   have hri:=room_in hz HZ.out.2.2
   have htp:=top_small hz old
   have h1:=put3_len tag len h.next (ws:=h.words) (off:=(topOf h old).toNat) (by omega)
   refine ⟨?_,?_⟩
   ·
    rw [<-hhm]
    show (put3 h.words (topOf h old).toNat tag len h.next).length<=_
    rw [h1]
    have:=hz.len;have:=hz.young;have:=hz.old;omega
   ·
    rw [<-hhm];exact HRT.out.2.2
  have HHM:=mk0 hhm
  have HOV:=mk0 hov
  have HLN:=mk0 (form_len HFW.out HZ.out.2.1)
  clear HMK hhm hov h0
  obtain ⟨W2,hW2,hB2,hs2,kx⟩:=boxes1 w1 #[.slice nW hm.words.length dW,.int .i64 hm.young,.int .i64 hm.old,.int .i64 hm.ytop,.int .i64 hm.otop,.slice nO hm.noted.length dO,.int .i64 hm.next] 24
  have hb02:Below W0.heap.size W0 W2:=hb1.trans (hB2.mono hb1.size)
  have j0:=(hb1.block _ lk0).trans HK0.out.1
  have j1:=(hb1.block _ lk1).trans HK0.out.2
  have HOP:=mk0 (openHeap_any W2 B _ _ _ _ _ _ _ h d (HG.out.below ((HB0.out.trans (hb02.mono HB0.out.size)).mono HG.out.le)) hnb)
  rw [hE]at HOP
  obtain ⟨a0,a1,a2,a3,a4,a5,a6,az,al⟩:=cells7 j0
  obtain ⟨b0,b1,b2,b3,b4,bl⟩:=cells5 j1
  have HW2:=mk0 hW2
  have HKX:=mk0 kx
  have HB2:=mk0 hb02
  have HS2:Hid (w1.heap.size<=W2.heap.size/\W0.heap.size<=w1.heap.size/\w1.heap.size<W2.heap.size):=⟨by omega,hb1.size,by omega⟩
  have HD2:=mk0 hB2
  clear hW2 hs2 kx hb02 j0 j1 hB2
  go_wp2_with fail
  rw [<-HW2.out]
  refine HOP.out.mono ?_
  rintro r w3 ⟨rfl,hb3⟩
  clear HOP
  clear a0 a1 a2 a3 a4 a5 a6 al az
  clear b0 b1 b2 b3 b4 bl
  obtain ⟨W4,hW4,hB4,hs4,kw⟩:=boxes1 w3 #[.slice none 0 0,.int .i64 0,.int .i64 0,.int .i64 0,.int .i64 0,.slice none 0 0,.int .i64 0] 24
  have hb24:Below W2.heap.size W2 W4:=hb3.trans (hB4.mono hb3.size)
  have hb03:Below W0.heap.size W0 w3:=HB2.out.trans (hb3.mono HB2.out.size)
  have hb04:Below W0.heap.size W0 W4:=HB2.out.trans (hb24.mono HB2.out.size)
  have j1:=(hb03.block _ lk1).trans HK0.out.2
  have kx:=(hb24.block _ (lt0 HKX.out)).trans HKX.out
  have HW4:=mk0 hW4
  have HB4:=mk0 hb04
  have HD4:=mk0 hb24
  have HS4:Hid (W2.heap.size<=w3.heap.size/\w3.heap.size<W4.heap.size):=⟨hb3.size,by omega⟩
  have HKX4:=mk0 kx
  have HKW:=mk0 kw
  clear hW4 hs4 hb24 hb04 hb03 hB4 hb3 kx kw
  have HFO:=mk0 (formOf_any W4 B _ _ _ _ _ d (HG.out.below ((HB0.out.trans (HB4.out.mono HB0.out.size)).mono HG.out.le)).lk (Nat.le_trans HG.out.le (HB0.out.trans (HB4.out.mono HB0.out.size)).size) HFW.out tag len)
  rw [HZ.out.2.1]at HFO
  obtain ⟨b0,b1,b2,b3,b4,bl⟩:=cells5 j1
  clear j1
  go_wp2_with fail
  rw [<-HW4.out]
  refine HFO.out.mono ?_
  rintro r w5 ⟨rfl,hb5⟩
  clear HFO
  clear b0 b1 b2 b3 b4 bl
  have hb05:Below W0.heap.size W0 w5:=HB4.out.trans (hb5.mono HB4.out.size)
  have j0:=(hb05.block _ lk0).trans HK0.out.1
  have kx5:=(hb5.block _ (lt0 HKX4.out)).trans HKX4.out
  have kw5:=(hb5.block _ (lt0 HKW.out)).trans HKW.out
  have HB5:=mk0 hb05
  have HD5:=mk0 hb5
  have HS5:=mk0 hb5.size
  have HKX5:=mk0 kx5
  have HKW5:=mk0 kw5
  clear hb05 hb5 kx5 kw5
  have g5:=HG.out.below ((HB0.out.trans (HB5.out.mono HB0.out.size)).mono HG.out.le)
  have HMO:=mk0 (rMake_any w5 B _ _ h d g5.sW g5.sO g5.le HRT.out.2.2 HRT.out.1 tag len HLN.out old)
  obtain ⟨a0,a1,a2,a3,a4,a5,a6,az,al⟩:=cells7 j0
  clear g5 j0
  go_wp2_with fail
  refine HMO.out.mono ?_
  rintro r w6 ⟨hb6,⟨-,yW,eW,yO,eO,rfl,hoy⟩ | ⟨hr,-⟩⟩
  rotate_left
  ·
   rw [HZ.out.2.2]at hr;cases hr
  clear HMO
  clear a0 a1 a2 a3 a4 a5 a6 al az
  rw [HHM.out]at hoy ⊢
  have kx6:=(hb6.block _ (lt0 HKX5.out)).trans HKX5.out
  have kw6:=(hb6.block _ (lt0 HKW5.out)).trans HKW5.out
  have s2:=HS2.out
  have s4:=HS4.out
  have s5:=HS5.out
  have s6:=hb6.size
  have hb16:Below w1.heap.size w1 w6:=(HD2.out.trans (HD4.out.mono s2.1)).trans ((HD5.out.trans (hb6.mono s5)).mono (by omega))
  have hB6:Below W0.heap.size W0 w6:=HB5.out.trans (hb6.mono HB5.out.size)
  obtain ⟨W9,h9,hgS,hq,hr,rz,rl⟩:=setN (zs:=[.slice none 0 0,.int .i64 0,.int .i64 0,.int .i64 0,.int .i64 0,.slice none 0 0,.int .i64 0]) kw6 [.slice yW hm.words.length eW,.int .i64 hm.young,.int .i64 hm.old,.int .i64 hm.ytop,.int .i64 hm.otop,.slice yO hm.noted.length eO,.int .i64 hm.next] rfl
  have r0:=hr 0 _ rfl
  have r1:=hr 1 _ rfl
  have r2:=hr 2 _ rfl
  have r3:=hr 3 _ rfl
  have r4:=hr 4 _ rfl
  have r5:=hr 5 _ rfl
  have r6:=hr 6 _ rfl
  have q0:=hq 0 _ rfl
  have q1:=hq 1 _ rfl
  have q2:=hq 2 _ rfl
  have q3:=hq 3 _ rfl
  have q4:=hq 4 _ rfl
  have q5:=hq 5 _ rfl
  have q6:=hq 6 _ rfl
  have hw9:=hgS.size
  have HB9:=mk0 (bg0 (hB6) hgS (by omega))
  have HG9:=mk0 hgS
  simp only [setL,Nat.reduceAdd]at h9
  have H9:=mk0 h9
  clear hgS hq hr h9
  have h9v:=H9.out
  have kx9:=(HG9.out.block _ (lt0 kx6) (by intro e;injection e;omega)).trans kx6
  have kw9:W9.heap[w3.heap.size]? =some (.cells #[.slice yW hm.words.length eW,.int .i64 hm.young,.int .i64 hm.old,.int .i64 hm.ytop,.int .i64 hm.otop,.slice yO hm.noted.length eO,.int .i64 hm.next] 24 (0,0)):=by
   rw [<-h9v]
   exact heap_set (heap_set (heap_set (heap_set (heap_set (heap_set (heap_set kw6 _) _) _) _) _) _) _
  have hov9:=(HOV.out.below hb16).grown HG9.out (fun e=>by have:=(HOV.out.rW.lt _ e).2;omega) (fun e=>by have:=(HOV.out.rO.lt _ e).2;omega)
  have hoy9:=hoy.grown HG9.out (fun e=>by have:=(hoy.rW.lt _ e).1;omega) (fun e=>by have:=(hoy.rO.lt _ e).1;omega)
  obtain ⟨W7,hW7,hB7,hs7,-⟩:=boxes1 W9 #[.slice yW hm.words.length eW,.int .i64 hm.young,.int .i64 hm.old,.int .i64 hm.ytop,.int .i64 hm.otop,.slice yO hm.noted.length eO,.int .i64 hm.next] 24
  have HIS9:Hid (∀V,Below W7.heap.size W7 V->Calls Tryz.prog 19 #[.agg #[.slice nW hm.words.length dW,.int .i64 hm.young,.int .i64 hm.old,.int .i64 hm.ytop,.int .i64 hm.otop,.slice nO hm.noted.length dO,.int .i64 hm.next],.int .i64 0,.int .i64 0,.agg #[.slice yW hm.words.length eW,.int .i64 hm.young,.int .i64 hm.old,.int .i64 hm.ytop,.int .i64 hm.otop,.slice yO hm.noted.length eO,.int .i64 hm.next]] V fun r w'=>r=.returned (.bool true)/\Below V.heap.size V w'):=fun V hV=>by
   have hb:=hB7.trans (hV.mono hB7.size)
   have e1:=(hov9.below hb).sl HLM.out.1 HLM.out.2
   have e2:=(hoy9.below hb).sl HLM.out.1 HLM.out.2
   exact heapIs_ok V hm nW nO yW yO dW dO eW eO e1.1 e1.2 e2.1 e2.2
  have HKX9:=mk0 ((hB7.block _ (lt0 kx9)).trans kx9)
  have HKW9:=mk0 ((hB7.block _ (lt0 kw9)).trans kw9)
  have HB7:=mk0 (HB9.out.trans (hB7.mono HB9.out.size))
  have HW7:=mk0 hW7
  generalize topOf h old=tp at*
  clear h9v hW7 hB7 q0 q1 q2 q3 q4 q5 q6 hs7 kx6 kw6 hb16 hB6 hov9 hoy9 kx9 kw9 hb6 hoy s2 s4 s5 s6
  go_wp2_with fail
  rw [H9.out,<-HW7.out]
  clear r0 r1 r2 r3 r4 r5 r6 rz rl
  refine (heapBegun_any _).mono ?_
  rintro r w8 ⟨rfl,hb8⟩
  have p0:=(hb8.block _ (lt0 HKX9.out)).trans HKX9.out
  have p1:=(hb8.block _ (lt0 HKW9.out)).trans HKW9.out
  obtain ⟨a0,a1,a2,a3,a4,a5,a6,az,al⟩:=cells7 p0
  obtain ⟨b0,b1,b2,b3,b4,b5,b6,bz,bl⟩:=cells7 p1
  have HIS:=mk0 (HIS9.out w8 hb8)
  have HB8:Hid (Below w.heap.size w w8):=HB0.out.trans ((HB7.out.trans (hb8.mono HB7.out.size)).mono HB0.out.size)
  clear hb8 p0 p1 HIS9
  go_wp2_with fail
  refine HIS.out.mono ?_
  rintro r w9 ⟨rfl,hb9⟩
  have HB9':=mk0 (HB8.out.trans (hb9.mono HB8.out.size))
  clear hb9
  go_wp2_with fail
  go_ret
  exact ⟨rfl,HB9'.out⟩
 ·
  clear HMK
  by_cases hE:heapErr d h=0
  ·
   rw [make_bad hE]at h0 ⊢
   have HRT:=mk0 (right_of hE HG.out.ww)
   have HFW:=mk0 HRT.out.2.1
   by_cases hF:formErr d tag len=0
   ·
    cases hR:roomB h old len with
    | true=>rw [if_pos hF,hR]at h0;exact absurd rfl h0
    | false=>
      rw [if_pos hF]
      have HLN:=mk0 (form_len HFW.out hF)
      simp only [Bool.false_eq_true,if_false]
      clear h0
      obtain ⟨W2,hW2,hB2,hs2,kx⟩:=boxes1 w1 #[.slice none 0 0,.int .i64 0,.int .i64 0,.int .i64 0,.int .i64 0,.slice none 0 0,.int .i64 0] 24
      have hb02:Below W0.heap.size W0 W2:=hb1.trans (hB2.mono hb1.size)
      have j0:=(hb1.block _ lk0).trans HK0.out.1
      have j1:=(hb1.block _ lk1).trans HK0.out.2
      have HOP:=mk0 (openHeap_any W2 B _ _ _ _ _ _ _ h d (HG.out.below ((HB0.out.trans (hb02.mono HB0.out.size)).mono HG.out.le)) hnb)
      rw [hE]at HOP
      obtain ⟨a0,a1,a2,a3,a4,a5,a6,az,al⟩:=cells7 j0
      obtain ⟨b0,b1,b2,b3,b4,bl⟩:=cells5 j1
      have HW2:=mk0 hW2
      have HKX:=mk0 kx
      have HB2:=mk0 hb02
      have HS2:Hid (w1.heap.size<=W2.heap.size/\W0.heap.size<=w1.heap.size/\w1.heap.size<W2.heap.size):=⟨by omega,hb1.size,by omega⟩
      have HD2:=mk0 hB2
      clear hW2 hs2 kx hb02 j0 j1 hB2
      go_wp2_with fail
      rw [<-HW2.out]
      refine HOP.out.mono ?_
      rintro r w3 ⟨rfl,hb3⟩
      clear HOP
      clear a0 a1 a2 a3 a4 a5 a6 al az
      clear b0 b1 b2 b3 b4 bl
      obtain ⟨W4,hW4,hB4,hs4,kw⟩:=boxes1 w3 #[.slice none 0 0,.int .i64 0,.int .i64 0,.int .i64 0,.int .i64 0,.slice none 0 0,.int .i64 0] 24
      have hb24:Below W2.heap.size W2 W4:=hb3.trans (hB4.mono hb3.size)
      have hb03:Below W0.heap.size W0 w3:=HB2.out.trans (hb3.mono HB2.out.size)
      have hb04:Below W0.heap.size W0 W4:=HB2.out.trans (hb24.mono HB2.out.size)
      have j1:=(hb03.block _ lk1).trans HK0.out.2
      have kx:=(hb24.block _ (lt0 HKX.out)).trans HKX.out
      have HW4:=mk0 hW4
      have HB4:=mk0 hb04
      have HD4:=mk0 hb24
      have HS4:Hid (W2.heap.size<=w3.heap.size/\w3.heap.size<W4.heap.size):=⟨hb3.size,by omega⟩
      have HKX4:=mk0 kx
      have HKW:=mk0 kw
      clear hW4 hs4 hb24 hb04 hb03 hB4 hb3 kx kw
      have HFO:=mk0 (formOf_any W4 B _ _ _ _ _ d (HG.out.below ((HB0.out.trans (HB4.out.mono HB0.out.size)).mono HG.out.le)).lk (Nat.le_trans HG.out.le (HB0.out.trans (HB4.out.mono HB0.out.size)).size) HFW.out tag len)
      rw [hF]at HFO
      obtain ⟨b0,b1,b2,b3,b4,bl⟩:=cells5 j1
      clear j1
      go_wp2_with fail
      rw [<-HW4.out]
      refine HFO.out.mono ?_
      rintro r w5 ⟨rfl,hb5⟩
      clear HFO
      clear b0 b1 b2 b3 b4 bl
      have hb05:Below W0.heap.size W0 w5:=HB4.out.trans (hb5.mono HB4.out.size)
      have j0:=(hb05.block _ lk0).trans HK0.out.1
      have kx5:=(hb5.block _ (lt0 HKX4.out)).trans HKX4.out
      have kw5:=(hb5.block _ (lt0 HKW.out)).trans HKW.out
      have HB5:=mk0 hb05
      have HD5:=mk0 hb5
      have HS5:=mk0 hb5.size
      have HKX5:=mk0 kx5
      have HKW5:=mk0 kw5
      clear hb05 hb5 kx5 kw5
      have g5:=HG.out.below ((HB0.out.trans (HB5.out.mono HB0.out.size)).mono HG.out.le)
      have HMO:=mk0 (rMake_any w5 B _ _ h d g5.sW g5.sO g5.le HRT.out.2.2 HRT.out.1 tag len HLN.out old)
      obtain ⟨a0,a1,a2,a3,a4,a5,a6,az,al⟩:=cells7 j0
      clear g5 j0
      go_wp2_with fail
      refine HMO.out.mono ?_
      rintro r w6 ⟨hb6,⟨hr,-⟩ | ⟨-,rfl⟩⟩
      ·
       rw [hR]at hr;cases hr
      clear HMO
      clear a0 a1 a2 a3 a4 a5 a6 al az
      obtain ⟨W7,hW7,hB7,hs7,ky⟩:=boxes1 w6 #[.slice aW h.words.length cW,.int .i64 h.young,.int .i64 h.old,.int .i64 h.ytop,.int .i64 h.otop,.slice aO h.noted.length cO,.int .i64 h.next] 24
      have hb57:Below w5.heap.size w5 W7:=hb6.trans (hB7.mono hb6.size)
      have kx7:=(hb57.block _ (lt0 HKX5.out)).trans HKX5.out
      have kw7:=(hb57.block _ (lt0 HKW5.out)).trans HKW5.out
      have HKX7:=mk0 kx7
      have HKW7:=mk0 kw7
      have HB7:=mk0 (HB5.out.trans (hb57.mono HB5.out.size))
      have HW7:=mk0 hW7
      clear hW7 hB7 hs7 ky hb57 kx7 kw7 hb6
      go_wp2_with fail
      rw [<-HW7.out]
      refine (heapBegun_any _).mono ?_
      rintro r w8 ⟨rfl,hb8⟩
      have p0:=(hb8.block _ (lt0 HKX7.out)).trans HKX7.out
      have p1:=(hb8.block _ (lt0 HKW7.out)).trans HKW7.out
      obtain ⟨a0,a1,a2,a3,a4,a5,a6,az,al⟩:=cells7 p0
      obtain ⟨b0,b1,b2,b3,b4,b5,b6,bz,bl⟩:=cells7 p1
      have HIS:=mk0 (heapIs_bad w8 ⟨[],0,0,0,0,[],0⟩ none none 0 0 8 (by decide))
      have HB8:Hid (Below w.heap.size w w8):=HB0.out.trans ((HB7.out.trans (hb8.mono HB7.out.size)).mono HB0.out.size)
      clear hb8 p0 p1
      go_wp2_with fail
      refine HIS.out.mono ?_
      rintro r w9 ⟨rfl,hb9⟩
      have HB9':=mk0 (HB8.out.trans (hb9.mono HB8.out.size))
      clear hb9
      go_wp2_with fail
      go_ret
      exact ⟨rfl,HB9'.out⟩
   ·
    rw [if_neg hF]
    clear h0
    obtain ⟨W2,hW2,hB2,hs2,kx⟩:=boxes1 w1 #[.slice none 0 0,.int .i64 0,.int .i64 0,.int .i64 0,.int .i64 0,.slice none 0 0,.int .i64 0] 24
    have hb02:Below W0.heap.size W0 W2:=hb1.trans (hB2.mono hb1.size)
    have j0:=(hb1.block _ lk0).trans HK0.out.1
    have j1:=(hb1.block _ lk1).trans HK0.out.2
    have HOP:=mk0 (openHeap_any W2 B _ _ _ _ _ _ _ h d (HG.out.below ((HB0.out.trans (hb02.mono HB0.out.size)).mono HG.out.le)) hnb)
    rw [hE]at HOP
    obtain ⟨a0,a1,a2,a3,a4,a5,a6,az,al⟩:=cells7 j0
    obtain ⟨b0,b1,b2,b3,b4,bl⟩:=cells5 j1
    have HW2:=mk0 hW2
    have HKX:=mk0 kx
    have HB2:=mk0 hb02
    have HS2:Hid (w1.heap.size<=W2.heap.size/\W0.heap.size<=w1.heap.size/\w1.heap.size<W2.heap.size):=⟨by omega,hb1.size,by omega⟩
    have HD2:=mk0 hB2
    clear hW2 hs2 kx hb02 j0 j1 hB2
    go_wp2_with fail
    rw [<-HW2.out]
    refine HOP.out.mono ?_
    rintro r w3 ⟨rfl,hb3⟩
    clear HOP
    clear a0 a1 a2 a3 a4 a5 a6 al az
    clear b0 b1 b2 b3 b4 bl
    obtain ⟨W4,hW4,hB4,hs4,kw⟩:=boxes1 w3 #[.slice none 0 0,.int .i64 0,.int .i64 0,.int .i64 0,.int .i64 0,.slice none 0 0,.int .i64 0] 24
    have hb24:Below W2.heap.size W2 W4:=hb3.trans (hB4.mono hb3.size)
    have hb03:Below W0.heap.size W0 w3:=HB2.out.trans (hb3.mono HB2.out.size)
    have hb04:Below W0.heap.size W0 W4:=HB2.out.trans (hb24.mono HB2.out.size)
    have j1:=(hb03.block _ lk1).trans HK0.out.2
    have kx:=(hb24.block _ (lt0 HKX.out)).trans HKX.out
    have HW4:=mk0 hW4
    have HB4:=mk0 hb04
    have HD4:=mk0 hb24
    have HS4:Hid (W2.heap.size<=w3.heap.size/\w3.heap.size<W4.heap.size):=⟨hb3.size,by omega⟩
    have HKX4:=mk0 kx
    have HKW:=mk0 kw
    clear hW4 hs4 hb24 hb04 hb03 hB4 hb3 kx kw
    have HFO:=mk0 (formOf_any W4 B _ _ _ _ _ d (HG.out.below ((HB0.out.trans (HB4.out.mono HB0.out.size)).mono HG.out.le)).lk (Nat.le_trans HG.out.le (HB0.out.trans (HB4.out.mono HB0.out.size)).size) HFW.out tag len)
    generalize formErr d tag len=er at*
    have hen:(er==0)=false:=beq_eq_false_iff_ne.2 hF
    obtain ⟨b0,b1,b2,b3,b4,bl⟩:=cells5 j1
    clear j1
    go_wp2_with fail
    rw [<-HW4.out]
    refine HFO.out.mono ?_
    rintro r w5 ⟨rfl,hb5⟩
    clear HFO
    clear b0 b1 b2 b3 b4 bl
    have hb05:Below W0.heap.size W0 w5:=HB4.out.trans (hb5.mono HB4.out.size)
    have j0:=(hb05.block _ lk0).trans HK0.out.1
    have kx5:=(hb5.block _ (lt0 HKX4.out)).trans HKX4.out
    have kw5:=(hb5.block _ (lt0 HKW.out)).trans HKW.out
    have HB5:=mk0 hb05
    have HD5:=mk0 hb5
    have HS5:=mk0 hb5.size
    have HKX5:=mk0 kx5
    have HKW5:=mk0 kw5
    clear hb05 hb5 kx5 kw5
    clear j0
    go_wp2_with fail
    refine (heapBegun_any _).mono ?_
    rintro r w8 ⟨rfl,hb8⟩
    have p0:=(hb8.block _ (lt0 HKX5.out)).trans HKX5.out
    have p1:=(hb8.block _ (lt0 HKW5.out)).trans HKW5.out
    obtain ⟨a0,a1,a2,a3,a4,a5,a6,az,al⟩:=cells7 p0
    obtain ⟨b0,b1,b2,b3,b4,b5,b6,bz,bl⟩:=cells7 p1
    have HIS:=mk0 (heapIs_bad w8 ⟨[],0,0,0,0,[],0⟩ none none 0 0 er hF)
    have HB8:Hid (Below w.heap.size w w8):=HB0.out.trans ((HB5.out.trans (hb8.mono HB5.out.size)).mono HB0.out.size)
    clear hb8 p0 p1
    go_wp2_with fail
    refine HIS.out.mono ?_
    rintro r w9 ⟨rfl,hb9⟩
    have HB9':=mk0 (HB8.out.trans (hb9.mono HB8.out.size))
    clear hb9
    go_wp2_with fail
    go_ret
    exact ⟨rfl,HB9'.out⟩
  ·
   have hme:makeRes d h tag len old=heapErr d h:=by unfold makeRes;rw [if_neg hE]
   rw [hme]
   clear h0 hme
   obtain ⟨W2,hW2,hB2,hs2,kx⟩:=boxes1 w1 #[.slice none 0 0,.int .i64 0,.int .i64 0,.int .i64 0,.int .i64 0,.slice none 0 0,.int .i64 0] 24
   have hb02:Below W0.heap.size W0 W2:=hb1.trans (hB2.mono hb1.size)
   have j0:=(hb1.block _ lk0).trans HK0.out.1
   have j1:=(hb1.block _ lk1).trans HK0.out.2
   have HOP:=mk0 (openHeap_any W2 B _ _ _ _ _ _ _ h d (HG.out.below ((HB0.out.trans (hb02.mono HB0.out.size)).mono HG.out.le)) hnb)
   obtain ⟨a0,a1,a2,a3,a4,a5,a6,az,al⟩:=cells7 j0
   obtain ⟨b0,b1,b2,b3,b4,bl⟩:=cells5 j1
   have HW2:=mk0 hW2
   have HKX:=mk0 kx
   have HB2:=mk0 hb02
   have HS2:Hid (w1.heap.size<=W2.heap.size/\W0.heap.size<=w1.heap.size/\w1.heap.size<W2.heap.size):=⟨by omega,hb1.size,by omega⟩
   have HD2:=mk0 hB2
   clear hW2 hs2 kx hb02 j0 j1 hB2
   go_wp2_with fail
   rw [<-HW2.out]
   refine HOP.out.mono ?_
   rintro r w3 ⟨rfl,hb3⟩
   clear HOP
   clear a0 a1 a2 a3 a4 a5 a6 al az
   clear b0 b1 b2 b3 b4 bl
   obtain ⟨W4,hW4,hB4,hs4,kw⟩:=boxes1 w3 #[.slice none 0 0,.int .i64 0,.int .i64 0,.int .i64 0,.int .i64 0,.slice none 0 0,.int .i64 0] 24
   have hb24:Below W2.heap.size W2 W4:=hb3.trans (hB4.mono hb3.size)
   have hb03:Below W0.heap.size W0 w3:=HB2.out.trans (hb3.mono HB2.out.size)
   have hb04:Below W0.heap.size W0 W4:=HB2.out.trans (hb24.mono HB2.out.size)
   have j1:=(hb03.block _ lk1).trans HK0.out.2
   have kx:=(hb24.block _ (lt0 HKX.out)).trans HKX.out
   have HW4:=mk0 hW4
   have HB4:=mk0 hb04
   have HD4:=mk0 hb24
   have HS4:Hid (W2.heap.size<=w3.heap.size/\w3.heap.size<W4.heap.size):=⟨hb3.size,by omega⟩
   have HKX4:=mk0 kx
   have HKW:=mk0 kw
   clear hW4 hs4 hb24 hb04 hb03 hB4 hb3 kx kw
   generalize heapErr d h=er at*
   have hen:(er==0)=false:=beq_eq_false_iff_ne.2 hE
   clear j1
   go_wp2_with fail
   rw [<-HW4.out]
   refine (heapBegun_any _).mono ?_
   rintro r w8 ⟨rfl,hb8⟩
   have p0:=(hb8.block _ (lt0 HKX4.out)).trans HKX4.out
   have p1:=(hb8.block _ (lt0 HKW.out)).trans HKW.out
   obtain ⟨a0,a1,a2,a3,a4,a5,a6,az,al⟩:=cells7 p0
   obtain ⟨b0,b1,b2,b3,b4,b5,b6,bz,bl⟩:=cells7 p1
   have HIS:=mk0 (heapIs_bad w8 ⟨[],0,0,0,0,[],0⟩ none none 0 0 er hE)
   have HB8:Hid (Below w.heap.size w w8):=HB0.out.trans ((HB4.out.trans (hb8.mono HB4.out.size)).mono HB0.out.size)
   clear hb8 p0 p1
   go_wp2_with fail
   refine HIS.out.mono ?_
   rintro r w9 ⟨rfl,hb9⟩
   have HB9':=mk0 (HB8.out.trans (hb9.mono HB8.out.size))
   clear hb9
   go_wp2_with fail
   go_ret
   exact ⟨rfl,HB9'.out⟩
end Go.Proofs.YtjdnmblggdobgaaGreat
