import Derived.Test.YtjdnmblggdobgaaGreatHuI
import Derived.Test.YtjdnmblggdobgaaGreatJHsMHuM
import Derived.Test.YtjdnmblggdobgaaGreatHqB
import Derived.Test.YtjdnmblggdobgaaGreatJTk2Dies
import Derived.Deep.RegionLawGrows
set_option maxHeartbeats 8000000
set_option maxRecDepth 100000
namespace Go.Proofs.YtjdnmblggdobgaaGreat
open Go.RowKit Go.Maps
theorem OwnV.sets {b:Nat} {w:World} {g cap:Nat} {nO:Value} {h:HeapD} (o:OwnV b w (.slice (some ⟨g,0,none⟩) h.words.length cap) nO h) (m:Nat) (v:Int):OwnV b (w.setCell ⟨g,m,none⟩ (.int .i64 v)) (.slice (some ⟨g,0,none⟩) h.words.length cap) nO (setW h m v):=by
 have hg:w.grownBy (w.setCell ⟨g,m,none⟩ (.int .i64 v)) (some g):=za8 (World.grownBy.refl _ _) _ _ (Or.inl rfl)
 refine ⟨?_,o.rO.kept hg (Or.inr (o.ne g rfl)),o.ne⟩
 show World.ownsRow _ _ _ _ _ (h.words.set m v).length (intV (h.words.set m v))
 rw [List.length_set,show intV (h.words.set m v)=(intV h.words).set m (.int .i64 v) by simp [intV,List.map_set]]
 exact zg7 o.rW m _
theorem zsj (h:HeapD) (v:Int):btw v 1 h.young=youngB h v:=by
 unfold btw youngB
 rfl
theorem zsk {M:Nat->Prop} {w:World} {a:Option Addr} {cap:Nat} {l:List Int} (h:SL 1 RI M w (.slice a l.length cap) l) (j:Nat) (hj:j<=l.length):SL 1 RI M w (sliced a j l.length cap 1) (l.drop j):=by
 cases l with
 | nil=>
   obtain rfl:j=0:=by simpa using hj
   obtain ⟨a',c',e,hc,hm,-⟩:=h
   obtain ⟨rfl,-,rfl⟩:=Value.slice.inj e
   exact ⟨_,_,rfl,by simp,by simp,fun i hi=>by simp at hi⟩
 | cons x l=>
   obtain ⟨b,off,rfl,-,-⟩:=h.atI 0 (by simp)
   have:=h.sub j (x::l).length hj (Nat.le_refl _)
   rw [List.take_length]at this
   exact this
theorem zsl {M:Nat->Prop} {w:World} {a:Option Addr} {cap:Nat} {l:List Int} (h:SL 1 RI M w (.slice a l.length cap) l) (j:Nat) (hj:j<=l.length):
 ∃a4,sliced a 0 (j:Int).toNat (j:Int).toNat 1=.slice a4 j j/\(a4=none->j=0/\j=0)/\∀b,a4=some b->∀i u,(intV (l.take j))[i]? =some u->w.cell? (b.add i)=some u:=by
 by_cases h0:j=0
 ·subst h0
  exact ⟨a,by simp [sliced],fun _=>⟨rfl,rfl⟩,fun b _ i u hu=>by simp [intV]at hu⟩
 obtain ⟨b,off,rfl,-,-⟩:=h.atI 0 (by omega)
 refine ⟨some ⟨b,off,none⟩,by simp [sliced,h0,Addr.add],fun e=>(by cases e),fun b' e i u hu=>?_⟩
 cases e
 refine h.intV i u ?_
 rw [zr9,List.getElem?_take]at hu
 rw [zr9]
 split at hu
 ·exact hu
 cases hu
theorem zsm {l:List Int} {x:Int} (hp:l.Pairwise (· <= ·)) {j:Nat} (hj:j<=l.length) (h1:∀q (hq:q<l.length),q<j->l[q]<x) (h2:∀hjl:j<l.length,¬l[j]<x):l.countP (· <x)=j:=by
 have e:l.countP (· <x)=(l.take j).countP (· <x)+(l.drop j).countP (· <x):=by rw [<-List.countP_append,List.take_append_drop]
 rw [e,List.countP_eq_length.2 (fun y hy=>?_),List.countP_eq_zero.2 (fun y hy=>?_)]
 ·simp;omega
 ·obtain ⟨i,hi,rfl⟩:=List.getElem_of_mem hy
  simp at hi
  have hlt:j<l.length:=by omega
  have h3:=h2 hlt
  have hge:l[j]<=l[j+i]:=by
   rcases Nat.eq_zero_or_pos i with h0 | h0
   ·subst h0;exact Int.le_refl _
   exact List.pairwise_iff_getElem.1 hp j (j+i) hlt (by omega) (by omega)
  rw [List.getElem_drop]
  simp only [decide_eq_true_eq]
  omega
 obtain ⟨i,hi,rfl⟩:=List.getElem_of_mem hy
 simp at hi
 rw [List.getElem_take]
 exact decide_eq_true (h1 i (by omega) (by omega))
theorem zsn {w:World} {B e len cap:Nat} {a:Option Addr} {xs:List Value} (h:w.ownsRow B e 1 (.slice a len cap) len xs):len<=cap:=(zga h).1
theorem Kp.below' {B:Nat} {T:List Nat} {w w':World} (h:Below w.heap.size w w'):Kp (MT B T w) w w':=⟨h.size,fun k _ hl=>h.block k hl⟩
theorem zso {d:LinkD} {h:HeapD} {t:ThD} {k:Nat} {v:Int} (hn:noteB d h t k v=true):setD d h t k v=noteH (setW h (t.loc+3+k).toNat v) t.loc:=by
 unfold setD noteH
 rw [hn]
 rfl
theorem zsp (w:World) (B:Nat) (vW vO kC kS kF kN kT:Value) (h:HeapD) (d:LinkD) (g:Hd B w vW vO kC kS kF kN kT h d) (ts:List ThD) (hE:heapErr d h=0) (hts:bothT d h=some ts) (hrs:h.noted.Pairwise (· <= ·)) (la:Nat) (t:ThD) (hp:plAt ts (la:Int)=some t) (k:Nat) (hk:(k:Int)<t.len) (v:Int):
 Calls Tryz.prog 32 #[.agg #[vW,.int .i64 h.young,.int .i64 h.old,.int .i64 h.ytop,.int .i64 h.otop,vO,.int .i64 h.next],.agg #[kC,kS,kF,kN,kT],.int .i64 (la:Int),.int .i64 (k:Int),.int .i64 v] w fun r w'=>Below w.heap.size w w'/\∃nW dW nO dO,r=.returned (.agg #[.slice nW (setD d h t k v).words.length dW,.int .i64 (setD d h t k v).young,.int .i64 (setD d h t k v).old,.int .i64 (setD d h t k v).ytop,.int .i64 (setD d h t k v).otop,.slice nO (setD d h t k v).noted.length dO,.int .i64 (setD d h t k v).next])/\OwnV w.heap.size w' (.slice nW (setD d h t k v).words.length dW) (.slice nO (setD d h t k v).noted.length dO) (setD d h t k v):=by
 have HG:=mk0 g
 obtain ⟨aW,cW,aO,cO,aC,cC,aS,cS,aF,cF,aN,cN,aT,cT,rfl,rfl,rfl,rfl,rfl,rfl,rfl⟩:=g.agg
 have HRT:=mk0 (zma hE hts g.ww)
 have HLN:=mk0 (zkp HRT.out.2.1 HRT.out.1 g.ww hts)
 obtain ⟨ht,hloc⟩:=zie ts hp
 obtain ⟨hft,hl0,hl1⟩:=HLN.out.fit t ht
 have hl2:=HLN.out.words
 have hlo:=hft.lo
 have hfi:t.fin=t.loc+3+t.len:=rfl
 obtain ⟨ys,os,hy1,hy2,rfl⟩:=zkn hts
 have hth:=zn4 hy1 hy2 t ht
 obtain ⟨m,hm⟩:∃m,m=la+3+k:=⟨_,rfl⟩
 have hml:m<h.words.length:=by omega
 have hal:la<h.words.length:=by omega
 have hma:m≠la:=by omega
 have e0:h.words[la]? =some t.tag:=by
  have q:t.tag=wd h.words t.loc:=congrArg ThD.tag hth
  rw [List.getElem?_eq_getElem hal,q,hloc,zen hal]
 have wa3:IntKind.i64.wrap ((la:Int)+3)=(la:Int)+3:=ws0 _ (by omega) (by omega)
 have wam:IntKind.i64.wrap ((la:Int)+3+k)=(m:Int):=by rw [hm];exact (ws0 _ (by omega) (by omega)).trans (by omega)
 have HSW:Hid (setW h (t.loc+3+k).toNat v=setW h m v):=by show _=_;rw [show (t.loc+3+k).toNat=m by omega]
 have HFT:=mk0 hft
 have HKL:=mk0 hk
 obtain ⟨W0,hW0,hB0,hs0,k0,k1,k2⟩:=boxes3 w #[.slice aW h.words.length cW,.int .i64 h.young,.int .i64 h.old,.int .i64 h.ytop,.int .i64 h.otop,.slice aO h.noted.length cO,.int .i64 h.next] #[.slice aC d.classes.length cC,.slice aS d.supers.length cS,.slice aF d.fields.length cF,.slice aN d.names.length cN,.slice aT d.targets.length cT] #[.slice none 0 0,.int .i64 0,.int .i64 0,.int .i64 0,.int .i64 0,.slice none 0 0,.int .i64 0] 24 36 24
 have lk0:=lt0 k0
 have lk1:=lt0 k1
 have lk2:=lt0 k2
 have g0:=g.below (hB0.mono g.le)
 have HCP:=mk0 (zrx W0 B _ _ h g0.sW g0.sO g0.le (by omega) HRT.out.2.2)
 have HB0:=mk0 hB0
 have HE0:=mk0 hW0
 rw [HE0.out]at HCP
 have HK:=mk0 (And.intro k0 (And.intro k1 k2))
 have HS0:Hid (w.heap.size+1+1+1<=W0.heap.size):=by show _<=_;omega
 have HLK:=mk0 g0.lk
 have HLE:=mk0 g0.le
 have HRS:=mk0 hrs
 have HWL:Hid (0<h.words.length):=by show _<_;omega
 have hlw:la<h.words.length:=hal
 clear hrs g g0 hW0 k0 k1 k2 hB0 hs0 hl0 hl1 hl2 hlo hfi hth ht hft hy1 hy2 hp hk hm
 go_enter Tryz.func32,Tryz.ntmps32
 go_wp2_with fail
 refine HCP.out.mono ?_
 rw [<-HE0.out]
 rintro r w1 ⟨hb1,nW,dW,nO,dO,rfl,hov⟩
 have hs1:=hb1.size
 have hS0:=HS0.out
 obtain ⟨gW,hnW,hgW⟩:∃gW,nW=some ⟨gW,0,none⟩/\W0.heap.size<=gW:=by
  rcases hov.rW.2 with ⟨-,q0⟩ | ⟨g,cap,cur,e,hg,-⟩
  ·have:=HWL.out;omega
  exact ⟨g,(Value.slice.inj e).1,hg⟩
 subst hnW
 have kb:=(hb1.block _ lk0).trans HK.out.1
 obtain ⟨W9,h9,hgS,hq,hr,rz,rl⟩:=setN (zs:=[.slice aW h.words.length cW,.int .i64 h.young,.int .i64 h.old,.int .i64 h.ytop,.int .i64 h.otop,.slice aO h.noted.length cO,.int .i64 h.next]) kb [.slice (some ⟨gW,0,none⟩) h.words.length dW,.int .i64 h.young,.int .i64 h.old,.int .i64 h.ytop,.int .i64 h.otop,.slice nO h.noted.length dO,.int .i64 h.next] rfl
 have r0:=hr 0 _ rfl
 have r1:=hr 1 _ rfl
 have r2:=hr 2 _ rfl
 have r3:=hr 3 _ rfl
 have r4:=hr 4 _ rfl
 have r5:=hr 5 _ rfl
 have r6:=hr 6 _ rfl
 have q0:=hq 0 _ rfl
 have q1:=hq 1 _ rfl
 have q2:=hq 2 _ rfl
 have q3:=hq 3 _ rfl
 have q4:=hq 4 _ rfl
 have q5:=hq 5 _ rfl
 have q6:=hq 6 _ rfl
 have hw9:=hgS.size
 have HB9:=mk0 (bg0 (HB0.out.trans (hb1.mono HB0.out.size)) hgS (by omega))
 have HG9:=mk0 hgS
 simp only [setL,Nat.reduceAdd]at h9
 have H9:=mk0 h9
 clear hgS hq hr h9
 have h9v:=H9.out
 have hgk:W9.heap[w.heap.size]? =some (.cells #[.slice (some ⟨gW,0,none⟩) h.words.length dW,.int .i64 h.young,.int .i64 h.old,.int .i64 h.ytop,.int .i64 h.otop,.slice nO h.noted.length dO,.int .i64 h.next] 24 (0,0)):=by
  rw [<-h9v]
  exact zg6 (zg6 (zg6 (zg6 (zg6 (zg6 (zg6 kb _) _) _) _) _) _) _
 have hov9:OwnV w.heap.size W9 (.slice (some ⟨gW,0,none⟩) h.words.length dW) (.slice nO h.noted.length dO) h:=(hov.mono (by omega)).grown HG9.out (by simp [Value.ownBlock];omega) (fun e=>by have:=(hov.rO.lt _ e).1;omega)
 have HGO:Hid (∀j,(Value.slice nO h.noted.length dO).ownBlock=some j->W0.heap.size<=j):=fun j e=>by have:=(hov.rO.lt _ e).1;omega
 obtain ⟨xc,zc,lc⟩:=zr0 hov9.rW
 obtain ⟨x0,hx0⟩:=xc m hml
 obtain ⟨Wa,hWa⟩:∃Wa,W9.setCell ⟨gW,m,none⟩ (.int .i64 v)=Wa:=⟨_,rfl⟩
 have hga:W9.grownBy Wa (some gW):=hWa ▸ za8 (World.grownBy.refl _ _) _ _ (Or.inl rfl)
 have hova:=hov9.sets m v
 rw [hWa]at hova
 have s9:=HG9.out.size
 have sa:=hga.size
 have ka:Wa.heap[w.heap.size]? =some (.cells #[.slice (some ⟨gW,0,none⟩) h.words.length dW,.int .i64 h.young,.int .i64 h.old,.int .i64 h.ytop,.int .i64 h.otop,.slice nO h.noted.length dO,.int .i64 h.next] 24 (0,0)):=(hga.block _ (by omega) (by intro e;injection e;omega)).trans hgk
 have k19:=(HG9.out.block _ (by omega) (by intro e;injection e;omega)).trans ((hb1.block _ lk1).trans HK.out.2.1)
 have k29:=(HG9.out.block _ (by omega) (by intro e;injection e;omega)).trans ((hb1.block _ lk2).trans HK.out.2.2)
 have ka1:=(hga.block _ (by omega) (by intro e;injection e;omega)).trans k19
 have kaz:=(hga.block _ (by omega) (by intro e;injection e;omega)).trans k29
 have hrw:=hova.rW
 rw [show (setW h m v).words.length=h.words.length from List.length_set]at hrw
 obtain ⟨cur,-,-,-,-,-,-,hcl⟩:=zr7 hrw
 have ha0:Wa.cell? ⟨gW,la,none⟩=some (.int .i64 t.tag):=hcl la _ (by
  show (intV (h.words.set m v))[la]? =_
  rw [zr9,List.getElem?_set_ne hma,e0];rfl)
 have hBa:Below w.heap.size w Wa:=bg0 HB9.out hga (by omega)
 have HLA:Hid (RLk (· <B) Wa (.slice aC d.classes.length cC) (.slice aS d.supers.length cS) (.slice aF d.fields.length cF) (.slice aN d.names.length cN) (.slice aT d.targets.length cT) d):=HLK.out.kept ⟨by omega,fun j hj hlj=>by
  have hjB:j<B:=hj
  have:=HG.out.le
  exact (hga.block j (by omega) (by intro e;injection e;omega)).trans ((HG9.out.block j (by omega) (by intro e;injection e;omega)).trans (hb1.block j (by omega)))⟩
 have HRF:Hid (∀V,Below Wa.heap.size Wa V->Calls Tryz.prog 31 #[.agg #[.slice aC d.classes.length cC,.slice aS d.supers.length cS,.slice aF d.fields.length cF,.slice aN d.names.length cN,.slice aT d.targets.length cT],.int .i64 t.tag,.int .i64 (k:Int)] V fun r w'=>r=.returned (.bool (refI d.fields t k))/\Below V.heap.size V w'):=fun V hV=>zkx V B _ _ _ _ _ d (HLA.out.kept (Kp.below (hV.mono (by have:=HLE.out;omega)))) t HFT.out k HKL.out
 have HSN:Hid (∀V,Below Wa.heap.size Wa V->SL 1 RI (MT w.heap.size [3] V) V (.slice nO h.noted.length dO) h.noted):=fun V hV=>zfb (zhj hova.rO hV) HRT.out.2.2
 have HKA:=mk0 ka
 have HZA:=mk0 kaz
 have HBA:=mk0 hBa
 have HOVA:=mk0 hova
 have HGW:=mk0 hgW
 have lXa:=lt0 ka
 have lZa:=lt0 kaz
 have lga:gW<Wa.heap.size:=by omega
 obtain ⟨u0,u1,u2,u3,u4,u5,u6,uz,ul⟩:=cells7 ka
 obtain ⟨b0,b1,b2,b3,b4,bl⟩:=cells5 ka1
 clear H9 hb1 hov hov9 hgk kb k19 k29 ka ka1 kaz hova hrw hga hcl xc hBa s9 sa e0 hma HCP
 go_wp2_with fail
 clear h9v hWa r0 r1 r2 r3 r4 r5 r6 rz rl q0 q1 q2 q3 q4 q5 q6 hx0 zc lc hml
 have hcase:(refI d.fields t k=true/\h.young<(la:Int)/\btw v 1 h.young=true/\h.noted.contains (la:Int)=false)\/refI d.fields t k=false\/(refI d.fields t k=true/\¬h.young<(la:Int))\/(refI d.fields t k=true/\h.young<(la:Int)/\btw v 1 h.young=false)\/(refI d.fields t k=true/\h.young<(la:Int)/\btw v 1 h.young=true/\h.noted.contains (la:Int)=true):=by
  cases refI d.fields t k<;>cases btw v 1 h.young<;>cases h.noted.contains (la:Int)<;>by_cases hx:h.young<(la:Int)<;>simp [hx]
 rcases hcase with ⟨hc1,hc2,hc3,hc4⟩ | hc1 | ⟨hc1,hc2⟩ | ⟨hc1,hc2,hc3⟩ | ⟨hc1,hc2,hc3,hc4⟩
 ·
  have HSD:Hid (setD d h t k v=⟨h.words.set m v,h.young,h.old,h.ytop,h.otop,insAt h.noted (h.noted.countP (· <(la:Int))) (la:Int),h.next⟩):=by
   show setD d h t k v=_
   rw [zso (by unfold noteB;rw [hc1,decide_eq_true (by rw [hloc];exact hc2),<-zsj,hc3];rfl),HSW.out,hloc]
   unfold noteH
   rw [show (setW h m v).noted=h.noted from rfl,zsh HRS.out hc4]
   rfl
  have HNL:=mk0 HRT.out.2.2
  obtain ⟨iI,hiI,hzI0,hzI1,hzI2⟩:=info_parts Tryz.infoInt
  refine wp_region_held_drew (S:=fun W'=>∀p:Addr,p.block<Wa.heap.size->W'.cell? p=Wa.cell? p) (by kernel_rfl) (fun p hp=>rfl) fun hH=>?_
  refine zag 27 rfl fun a ha=>?_
  have sza:a.tmps.size=80:=by rw [ha];rfl
  have ta2:∀h,a.tmps[2]'h=.int .i64 la:=by rw [ha];exact fun _=>rfl
  have ta3:∀h,a.tmps[3]'h=.int .i64 k:=by rw [ha];exact fun _=>rfl
  have ta4:∀h,a.tmps[4]'h=.int .i64 v:=by rw [ha];exact fun _=>rfl
  have ta5:∀h,a.tmps[5]'h=.pointer (some ⟨w.heap.size,0,none⟩):=by rw [ha];exact fun _=>rfl
  have ta6:∀h,a.tmps[6]'h=.pointer (some ⟨w.heap.size+1,0,none⟩):=by rw [ha];exact fun _=>rfl
  have HA:=mk0 ha
  clear ha
  refine tka 0 22 (.agg #[.slice aC d.classes.length cC,.slice aS d.supers.length cS,.slice aF d.fields.length cF,.slice aN d.names.length cN,.slice aT d.targets.length cT]) rfl hH ?_
  refine tka 1 23 (.pointer (some ⟨w.heap.size,0,none⟩)) rfl hH ?_
  refine tka 2 24 (.slice (some ⟨gW,0,none⟩) h.words.length dW) rfl hH ?_
  refine tka 3 25 (.int .i64 la) rfl hH ?_
  refine tka 4 26 (.pointer (some ⟨gW,la,none⟩)) rfl hH ?_
  refine tka 5 27 (.int .i64 t.tag) rfl hH ?_
  refine tka 6 28 (.int .i64 k) rfl hH ?_
  refine wpAnyH_ready (rs:=[7]) (by kernel_rfl) (by simp) ?_
  refine AllReadyH.cons rfl (fun K7 hK7=>?_) AllReadyH.nil
  go_simp
  refine (HRF.out _ (Below.refl _ _).drew).mono ?_
  rintro r wb ⟨rfl,hbb⟩
  rw [hc1]
  have hbB:Below Wa.heap.size Wa wb:=(Below.refl Wa.heap.size Wa).drew.trans hbb
  refine hK7.out _ _ (fun p hp=>hbB.cell hp) fun hH=>?_
  rw [zab]
  refine tka 8 30 (.bool true) rfl hH ?_
  refine tkga 9 31 8 30 true (.int .i64 la) rfl rfl hH ?_
  refine tkga 10 32 8 30 true (.pointer (some ⟨w.heap.size,1,none⟩)) rfl rfl hH ?_
  refine tkga 11 33 8 30 true (.int .i64 h.young) rfl rfl hH ?_
  refine tkga 12 34 8 30 true (.bool true) rfl rfl hH ?_
  refine tka 13 35 (.bool true) rfl hH ?_
  refine tka 14 36 (.bool true) rfl hH ?_
  refine tkga 15 37 14 36 true (.int .i64 v) rfl rfl hH ?_
  refine tkga 16 38 14 36 true (.pointer (some ⟨w.heap.size,1,none⟩)) rfl rfl hH ?_
  refine tkga 17 39 14 36 true (.int .i64 h.young) rfl rfl hH ?_
  refine wpAnyH_ready (rs:=[18]) (by kernel_rfl) (by simp) ?_
  refine AllReadyH.cons rfl (fun K18 hK18=>?_) AllReadyH.nil
  go_simp
  refine (zku _ _ _ _).mono ?_
  rintro r wx ⟨rfl,hx⟩
  rw [hx,hc3]
  clear hx hH
  refine hK18.out _ _ (fun p hp=>hbB.cell hp) fun hH=>?_
  rw [zab]
  refine tka 19 41 (.bool true) rfl hH ?_
  refine tka 20 42 (.bool true) rfl hH ?_
  refine tkga 21 43 20 42 true (.pointer (some ⟨w.heap.size,5,none⟩)) rfl rfl hH ?_
  refine tkga 22 44 20 42 true (.slice nO h.noted.length dO) rfl rfl hH ?_
  refine tkga 23 45 20 42 true (.int .i64 la) rfl rfl hH ?_
  refine wpAnyH_ready (rs:=[24]) (by kernel_rfl) (by simp) ?_
  refine AllReadyH.cons rfl (fun K24 hK24=>?_) AllReadyH.nil
  go_simp
  refine (zky _ _ _ _ (HSN.out _ hbB) _).mono ?_
  rintro r wy ⟨rfl,hx⟩
  rw [hx,hc4]
  clear hx hH
  refine hK24.out _ _ (fun p hp=>hbB.cell hp) fun hH=>?_
  rw [zab]
  refine tkga 25 47 20 42 true (.bool true) rfl rfl hH ?_
  refine tka 26 48 (.bool true) rfl hH ?_
  refine wpAnyH_done (by kernel_rfl) ?_ _
  clear hH
  rw [HA.out]
  simp only [Act.put,List.setIfInBounds_toArray,List.set_cons_zero,List.set_cons_succ]
  have kbx:=(hbB.block _ lXa).trans HKA.out
  clear u0 u1 u2 u3 u4 u5 u6 ul uz
  obtain ⟨u0,u1,u2,u3,u4,u5,u6,uz,ul⟩:=cells7 kbx
  have hnl:=HNL.out
  clear kbx
  go_wp2_with fail
  go_loopw [11] (fun i wr=>∃j:Nat,j<=h.noted.length/\i=.int .i64 j/\wr=wb/\Hid (∀q (hq:q<h.noted.length),q<j->h.noted[q]<(la:Int))) (fun i _=>h.noted.length - (intOf i).toNat)
  case atStart=>exact ⟨0,Nat.zero_le _,rfl,rfl,fun q hq hl=>by omega⟩
  case round=>
   obtain ⟨j,hj,rfl,hwr,HI⟩:=hrel
   rw [hwr]
   clear hwr
   by_cases hcn:∃hjl:j<h.noted.length,h.noted[j]<(la:Int)
   ·obtain ⟨hjl,hlt⟩:=hcn
    obtain ⟨bN,oN,hnO,hbN,xN⟩:=(HSN.out wb hbB).atI j hjl
    rw [hnO]at u5
    have HF:Hid (∀q (hq:q<h.noted.length),q<j+1->h.noted[q]<(la:Int)):=fun q hq hl=>by
     rcases Nat.lt_or_ge q j with hx | hx
     ·exact HI.out q hq hx
     have e:q=j:=by omega
     subst e;exact hlt
    have q1:(0:Int)<=j:=by omega
    have q2:(j:Int)<h.noted.length:=by omega
    generalize h.noted[j]=x at*
    clear hnO
    go_wp2_with fail
    go_roundw
    case rel=>exact ⟨j+1,by omega,by go_num,trivial,HF.out⟩
    case measure=>simp [intOf];omega
   have HJ:Hid (j=h.noted.countP (· <(la:Int))):=(zsm HRS.out hj HI.out (fun hjl hlt=>hcn ⟨hjl,hlt⟩)).symm
   by_cases hjl:j<h.noted.length
   focus
    obtain ⟨bN,oN,hnO,hbN,xN⟩:=(HSN.out wb hbB).atI j hjl
    have hlt:¬h.noted[j]<(la:Int):=fun hx=>hcn ⟨hjl,hx⟩
    have q1:(0:Int)<=j:=by omega
    have q2:(j:Int)<h.noted.length:=by omega
    generalize h.noted[j]=x at*
    have U5:=mk0 u5
    rw [hnO]at u5
    clear hnO
    go_wp2_with fail
    clear hlt xN u5
    have u5:=U5.out
   rotate_left
   focus
    have q2:¬(j:Int)<h.noted.length:=by omega
    go_wp2_with fail
   all_goals
    obtain ⟨s10,hs10⟩:∃s,s=sliced nO j h.noted.length dO 1:=⟨_,rfl⟩
    have rs10:∀V,(Instr.slice 22 (.slice nO h.noted.length dO) (some (.int .i64 (j:Int))) none none).run Tryz.prog V=.ok s10 V:=fun V=>by
     rw [hs10,run_slice_l V 22 _ _ _ Tryz.underlying22 .i64 (j:Int) (by omega) (by omega)]
     rfl
    have t10:SL 1 RI (MT w.heap.size [3] wb) wb s10 (h.noted.drop j):=hs10 ▸ zsk (HSN.out wb hbB) j hj
    obtain ⟨a4,e4,hn4,ho4⟩:=zsl (HSN.out wb hbB) j hj
    have rs4:∀V,(Instr.slice 22 (.slice nO h.noted.length dO) none (some (.int .i64 (j:Int))) (some (.int .i64 (j:Int)))).run Tryz.prog V=.ok (.slice a4 j j) V:=fun V=>by
     rw [<-e4,run_slice_hm V 22 _ _ _ Tryz.underlying22 .i64 .i64 (j:Int) (j:Int) (by omega) (by omega) (by have:=zsn HOVA.out.rO;omega)]
     rfl
    obtain ⟨a10,n10,c10,e10⟩:∃a n c,s10=.slice a n c:=by obtain ⟨a,c,e,-⟩:=t10;exact ⟨a,_,c,e⟩
    subst e10
    have HT10:=mk0 t10
    have HO4:=mk0 (And.intro hn4 ho4)
    clear t10 hs10 e4 hn4 ho4
    refine zrv (fun W'=>∀p:Addr,p.block<wb.heap.size->W'.cell? p=wb.cell? p) 14 (by kernel_rfl) (fun p hp=>rfl) fun hH=>?_
    obtain ⟨V0,hV0⟩:∃V0,V0=wb.drew:=⟨_,rfl⟩
    rw [<-hV0]at hH ⊢
    have hbV0:Below wb.heap.size wb V0:=hV0 ▸ (Below.refl _ _).drew
    clear hV0
    refine zrr 0 (.pointer (some ⟨w.heap.size,5,none⟩)) rfl (by kernel_rfl) (by kernel_rfl) (by kernel_rfl) (fun _ _ _ h=>h) ?_ hH ?_
    ·intro w hSw;go_simp
    refine zrr 1 (.slice nO h.noted.length dO) rfl (by kernel_rfl) (by kernel_rfl) (by kernel_rfl) (fun _ _ _ h=>h) ?_ hH ?_
    ·intro w hSw;go_simp
    refine zrr 2 (.int .i64 j) rfl (by kernel_rfl) (by kernel_rfl) (by kernel_rfl) (fun _ _ _ h=>h) ?_ hH ?_
    ·intro w hSw;go_simp
    refine zrr 3 (.int .i64 j) rfl (by kernel_rfl) (by kernel_rfl) (by kernel_rfl) (fun _ _ _ h=>h) ?_ hH ?_
    ·intro w hSw;go_simp
    refine zrr 4 (.slice a4 j j) rfl (by kernel_rfl) (by kernel_rfl) (by kernel_rfl) (fun _ _ _ h=>h) ?_ hH ?_
    ·intro w hSw;go_simp
    refine zrr 5 (.int .i64 la) rfl (by kernel_rfl) (by kernel_rfl) (by kernel_rfl) (fun _ _ _ h=>h) ?_ hH ?_
    ·intro w hSw;go_simp
    refine zrr 7 (.pointer (some ⟨w.heap.size,5,none⟩)) rfl (by kernel_rfl) (by kernel_rfl) (by kernel_rfl) (fun _ _ _ h=>h) ?_ hH ?_
    ·intro w hSw;go_simp
    refine zrr 8 (.slice nO h.noted.length dO) rfl (by kernel_rfl) (by kernel_rfl) (by kernel_rfl) (fun _ _ _ h=>h) ?_ hH ?_
    ·intro w hSw;go_simp
    refine zrr 9 (.int .i64 j) rfl (by kernel_rfl) (by kernel_rfl) (by kernel_rfl) (fun _ _ _ h=>h) ?_ hH ?_
    ·intro w hSw;go_simp
    refine zrr 10 (.slice a10 n10 c10) rfl (by kernel_rfl) (by kernel_rfl) (by kernel_rfl) (fun _ _ _ h=>h) ?_ hH ?_
    ·intro w hSw;go_simp
    refine zrt (rs:=[6]) (by kernel_rfl) (by simp) ?_
    refine TilR.cons rfl (fun K hK=>?_) TilR.nil
    go_simp
    obtain ⟨V1,hV1⟩:∃V1,V1=V0.alloc (.cells #[.int .i64 (la:Int)] 3):=⟨_,rfl⟩
    rw [<-hV1]
    have hq1:V1.heap[V0.heap.size]? =some (.cells #[.int .i64 (la:Int)] 3 (0,0)):=hV1 ▸ heap_alloc_new V0 _
    have hbV1:Below wb.heap.size wb V1:=hV1 ▸ hbV0.alloc hbV0.size _
    have hl1:V1.ownsRow V0.heap.size 3 1 (.slice (some ⟨V0.heap.size,0,none⟩) 1 1) 1 (intV [(la:Int)]):=zr6 hq1 (Nat.le_refl _) rfl (Nat.le_refl _) (by unfold maxLen;omega) rfl (fun i u hi=>by rw [zr5 hq1];simpa [intV]using hi)
    refine hK.out _ _ (fun _ _ p hp=>hbV1.cell hp) ?_
    clear hK hV1
    refine zrt (rs:=[11]) (by kernel_rfl) (by simp) ?_
    refine TilR.cons rfl (fun K hK=>?_) TilR.nil
    refine zrw V1 rfl (.tmp 71) (.tmp 75) rfl V0.heap.size (.slice (some ⟨V0.heap.size,0,none⟩) 1 1) [(la:Int)] rfl hl1 (MT w.heap.size [3] wb) (.slice a10 n10 c10) (h.noted.drop j) rfl (HT10.out.keptI (Kp.below' hbV1)) (by have:=HNL.out;simp;omega) (by have:=lt0 hq1;omega) ?_
    intro v6 V2 ho6 hg6 hw6
    have hs02:=hbV0.size
    have hlq:=lt0 hq1
    have hbV2:Below wb.heap.size wb V2:=hbV1.grown hg6 hbV1.size (fun i e=>by cases e;show wb.heap.size<=V0.heap.size;omega)
    refine hK.out _ _ (fun _ _ p hp=>hbV2.cell hp) ?_
    obtain ⟨g6,d6,e6⟩:∃g6 d6,v6=.slice (some ⟨g6,0,none⟩) ([(la:Int)]++h.noted.drop j).length d6:=by
     rcases ho6.2 with ⟨-,q0⟩ | ⟨g,cap,cur,e,-⟩
     ·simp at q0
     exact ⟨g,cap,e⟩
    subst e6
    obtain ⟨cur6,-,-,-,-,-,hx6,hc6⟩:=zr7 ho6
    clear hK hw6 hg6
    refine zrt (rs:=[12]) (by kernel_rfl) (by simp) ?_
    refine TilR.cons rfl (fun K hK=>?_) TilR.nil
    refine step_append_grows (w:=V2) rfl (.tmp 69) (.tmp 76) 22 rfl 3 iI (.int .i64 0) 1 8 Tryz.underlying22 hiI hzI0 hzI1 hzI2 rfl (by decide) a4 j j (intV (h.noted.take j)) rfl HO4.out.1 (by rw [ziq];simp;omega) (fun b hb i u hi=>(hbV2.cell (p:=b.add i) ?_).trans (HO4.out.2 b hb i u hi)) ⟨g6,0,none⟩ ([(la:Int)]++h.noted.drop j).length d6 (intV ([(la:Int)]++h.noted.drop j)) rfl (by rw [ziq];simp) (fun i u hi=>by rw [zg1,Nat.zero_add];exact hc6 i u hi) (zsd _) (by simp) (by unfold maxLen;have:=HNL.out;simp;omega) (by have:=HNL.out;simp;omega) ?_
    ·exact World.block_lt_of_cell? _ _ (HO4.out.2 b hb i u hi)
    intro v7 V3 ho7 hg7
    have hbV3:Below wb.heap.size wb V3:=hbV2.grown hg7 hbV2.size (fun i e=>by cases e)
    have hH:=fun (p:Addr) (hp:p.block<wb.heap.size)=>hbV3.cell hp
    refine hK.out _ _ (fun _ _=>hH) ?_
    clear hK
    refine zrs 13 (.pointer (some ⟨w.heap.size,5,none⟩)) rfl (by kernel_rfl) (by kernel_rfl) (fun _ _ _ h=>h) ?_ hH ?_
    ·intro w
     go_simp
    have hl7:j+([(la:Int)]++h.noted.drop j).length=h.noted.length+1:=by simp;omega
    rw [hl7,<-zip]at ho7
    have hli:h.noted.take j++([(la:Int)]++h.noted.drop j)=insAt h.noted j (la:Int):=rfl
    rw [hli]at ho7
    obtain ⟨a7,c7,e7⟩:=zfz ho7
    subst e7
    have hsb:=hbB.size
    have kb:=(hbV3.block _ (by omega)).trans ((hbB.block _ lXa).trans HKA.out)
    have kz:=(hbV3.block _ (by omega)).trans ((hbB.block _ lZa).trans HZA.out)
    have hov3:=(HOVA.out.below hbB).below hbV3
    have hV2s:=hbV2.size
    have hr7:∀i,(Value.slice a7 (h.noted.length+1) c7).ownBlock=some i->V2.heap.size<=i:=fun i e=>(ho7.lt i e).1
    refine zrt (rs:=[14]) (by kernel_rfl) (by simp) ?_
    refine TilR.cons rfl (fun K hK=>?_) TilR.nil
    have s5:=cl0 kb 5 (x:=.slice nO h.noted.length dO) rfl
    have sz:=zcf kb 5
    have sl:=lt0 kb
    go_simp
    obtain ⟨VD,hVD⟩:∃VD,VD=V3.setCell ⟨w.heap.size,5,none⟩ (.slice a7 (h.noted.length+1) c7):=⟨_,rfl⟩
    rw [<-hVD]
    have kd:VD.heap[w.heap.size]? =some (.cells #[.slice (some ⟨gW,0,none⟩) h.words.length dW,.int .i64 h.young,.int .i64 h.old,.int .i64 h.ytop,.int .i64 h.otop,.slice a7 (h.noted.length+1) c7,.int .i64 h.next] 24 (0,0)):=hVD ▸ zg6 kb (j:=5) (.slice a7 (h.noted.length+1) c7)
    have hgd:V3.grownBy VD (some w.heap.size):=hVD ▸ za8 (World.grownBy.refl _ _) _ _ (Or.inl rfl)
    refine hK.out _ _ (fun h=>absurd rfl h) ?_
    clear hK s5 sz sl hVD
    refine zru (by kernel_rfl) ?_ _
    try simp only [Act.put,List.setIfInBounds_toArray,List.set_cons_zero,List.set_cons_succ]
    have kz2:=(hgd.block _ (lt0 kz) (by intro e;injection e;omega)).trans kz
    have hBb:Below w.heap.size w VD:=bg0 ((HBA.out.trans (hbB.mono HBA.out.size)).trans (hbV3.mono (by have:=HBA.out.size;omega))) hgd (Nat.le_refl _)
    have hgo:=HGW.out
    have hrw:=(hov3.rW.kept hgd (Or.inr (by simp [Value.ownBlock];omega)))
    have hro:=ho7.kept hgd (Or.inr (fun e=>by have:=hr7 _ e;omega))
    obtain ⟨W9,h9,hgS,hq,hr,rz,rl⟩:=setN (zs:=[.slice none 0 0,.int .i64 0,.int .i64 0,.int .i64 0,.int .i64 0,.slice none 0 0,.int .i64 0]) kz2 [.slice (some ⟨gW,0,none⟩) h.words.length dW,.int .i64 h.young,.int .i64 h.old,.int .i64 h.ytop,.int .i64 h.otop,.slice a7 (h.noted.length+1) c7,.int .i64 h.next] rfl
    have r0:=hr 0 _ rfl
    have r1:=hr 1 _ rfl
    have r2:=hr 2 _ rfl
    have r3:=hr 3 _ rfl
    have r4:=hr 4 _ rfl
    have r5:=hr 5 _ rfl
    have r6:=hr 6 _ rfl
    have q0:=hq 0 _ rfl
    have q1:=hq 1 _ rfl
    have q2:=hq 2 _ rfl
    have q3:=hq 3 _ rfl
    have q4:=hq 4 _ rfl
    have q5:=hq 5 _ rfl
    have q6:=hq 6 _ rfl
    have hw9:=hgS.size
    have HB9:=mk0 (bg0 (hBb) hgS (by omega))
    have HG9:=mk0 hgS
    simp only [setL,Nat.reduceAdd]at h9
    have H9:=mk0 h9
    clear hgS hq hr h9
    have HF:Hid (OwnV w.heap.size W9 (.slice (some ⟨gW,0,none⟩) h.words.length dW) (.slice a7 (h.noted.length+1) c7) ⟨h.words.set m v,h.young,h.old,h.ytop,h.otop,insAt h.noted j (la:Int),h.next⟩):=by
     refine ⟨hrw.kept HG9.out (Or.inr (by simp [Value.ownBlock];omega)),?_,fun i e1 e2=>?_⟩
     ·show W9.ownsRow _ _ _ _ (insAt h.noted j (la:Int)).length (intV (insAt h.noted j (la:Int)))
      rw [zr8 _ hj]
      exact zhp (hro.kept HG9.out (Or.inr (fun e=>by have:=hr7 _ e;omega))) (by omega)
     have:=(HOVA.out.rW.lt i e1).2
     have:=hr7 i e2
     omega
    obtain ⟨u0,u1,u2,u3,u4,u5,u6,uz,ul⟩:=cells7 kd
    have h9v:=H9.out
    clear H9 hBb kb kz kz2 kd hov3 hrw hro hgd hbV3 hbV2 hbV1 hbV0 ho7 hg7 ho6 hc6 hx6 hl1 hq1
    go_wp2_with fail
    refine bodyPost_ret (v:=.agg #[.slice (some ⟨gW,0,none⟩) h.words.length dW,.int .i64 h.young,.int .i64 h.old,.int .i64 h.ytop,.int .i64 h.otop,.slice a7 (h.noted.length+1) c7,.int .i64 h.next]) (by simp [results,Tryz.results32,go_sem,q0,q1,q2,q3,q4,q5,q6]) rfl ⟨HB9.out,some ⟨gW,0,none⟩,dW,a7,c7,?_,?_⟩
    ·rw [HSD.out,<-HJ.out]
     show _=Ending.returned (.agg #[.slice (some ⟨gW,0,none⟩) (h.words.set m v).length dW,.int .i64 h.young,.int .i64 h.old,.int .i64 h.ytop,.int .i64 h.otop,.slice a7 (insAt h.noted j (la:Int)).length c7,.int .i64 h.next])
     rw [List.length_set,zr8 _ hj]
    rw [HSD.out,<-HJ.out]
    show OwnV _ _ (.slice (some ⟨gW,0,none⟩) (h.words.set m v).length dW) (.slice a7 (insAt h.noted j (la:Int)).length c7) _
    rw [List.length_set,zr8 _ hj]
    exact HF.out
 focus
  have HSD:Hid (setD d h t k v=setW h m v):=(zmp (by unfold noteB;rw [hc1];rfl)).trans HSW.out
  refine wp_region_held_drew (S:=fun W'=>∀p:Addr,p.block<Wa.heap.size->W'.cell? p=Wa.cell? p) (by kernel_rfl) (fun p hp=>rfl) fun hH=>?_
  refine zag 27 rfl fun a ha=>?_
  have sza:a.tmps.size=80:=by rw [ha];rfl
  have ta2:∀h,a.tmps[2]'h=.int .i64 la:=by rw [ha];exact fun _=>rfl
  have ta3:∀h,a.tmps[3]'h=.int .i64 k:=by rw [ha];exact fun _=>rfl
  have ta4:∀h,a.tmps[4]'h=.int .i64 v:=by rw [ha];exact fun _=>rfl
  have ta5:∀h,a.tmps[5]'h=.pointer (some ⟨w.heap.size,0,none⟩):=by rw [ha];exact fun _=>rfl
  have ta6:∀h,a.tmps[6]'h=.pointer (some ⟨w.heap.size+1,0,none⟩):=by rw [ha];exact fun _=>rfl
  have HA:=mk0 ha
  clear ha
  refine tka 0 22 (.agg #[.slice aC d.classes.length cC,.slice aS d.supers.length cS,.slice aF d.fields.length cF,.slice aN d.names.length cN,.slice aT d.targets.length cT]) rfl hH ?_
  refine tka 1 23 (.pointer (some ⟨w.heap.size,0,none⟩)) rfl hH ?_
  refine tka 2 24 (.slice (some ⟨gW,0,none⟩) h.words.length dW) rfl hH ?_
  refine tka 3 25 (.int .i64 la) rfl hH ?_
  refine tka 4 26 (.pointer (some ⟨gW,la,none⟩)) rfl hH ?_
  refine tka 5 27 (.int .i64 t.tag) rfl hH ?_
  refine tka 6 28 (.int .i64 k) rfl hH ?_
  refine wpAnyH_ready (rs:=[7]) (by kernel_rfl) (by simp) ?_
  refine AllReadyH.cons rfl (fun K7 hK7=>?_) AllReadyH.nil
  go_simp
  refine (HRF.out _ (Below.refl _ _).drew).mono ?_
  rintro r wb ⟨rfl,hbb⟩
  rw [hc1]
  have hbB:Below Wa.heap.size Wa wb:=(Below.refl Wa.heap.size Wa).drew.trans hbb
  refine hK7.out _ _ (fun p hp=>hbB.cell hp) fun hH=>?_
  rw [zab]
  refine tka 8 30 (.bool false) rfl hH ?_
  refine tksa 9 31 8 30 true rfl rfl hH ?_
  refine tksa 10 32 8 30 true rfl rfl hH ?_
  refine tksa 11 33 8 30 true rfl rfl hH ?_
  refine tksa 12 34 8 30 true rfl rfl hH ?_
  refine tka 13 35 (.bool false) rfl hH ?_
  refine tka 14 36 (.bool false) rfl hH ?_
  refine tksa 15 37 14 36 true rfl rfl hH ?_
  refine tksa 16 38 14 36 true rfl rfl hH ?_
  refine tksa 17 39 14 36 true rfl rfl hH ?_
  refine tksa 18 40 14 36 true rfl rfl hH ?_
  refine tka 19 41 (.bool false) rfl hH ?_
  refine tka 20 42 (.bool false) rfl hH ?_
  refine tksa 21 43 20 42 true rfl rfl hH ?_
  refine tksa 22 44 20 42 true rfl rfl hH ?_
  refine tksa 23 45 20 42 true rfl rfl hH ?_
  refine tksa 24 46 20 42 true rfl rfl hH ?_
  refine tksa 25 47 20 42 true rfl rfl hH ?_
  refine tka 26 48 (.bool false) rfl hH ?_
  refine wpAnyH_done (by kernel_rfl) ?_ _
  clear hH
  rw [HA.out]
  simp only [Act.put,List.setIfInBounds_toArray,List.set_cons_zero,List.set_cons_succ]
 rotate_left
 focus
  have HSD:Hid (setD d h t k v=setW h m v):=(zmp (by unfold noteB;rw [hc1,decide_eq_false (by rw [hloc];exact hc2)];rfl)).trans HSW.out
  refine wp_region_held_drew (S:=fun W'=>∀p:Addr,p.block<Wa.heap.size->W'.cell? p=Wa.cell? p) (by kernel_rfl) (fun p hp=>rfl) fun hH=>?_
  refine zag 27 rfl fun a ha=>?_
  have sza:a.tmps.size=80:=by rw [ha];rfl
  have ta2:∀h,a.tmps[2]'h=.int .i64 la:=by rw [ha];exact fun _=>rfl
  have ta3:∀h,a.tmps[3]'h=.int .i64 k:=by rw [ha];exact fun _=>rfl
  have ta4:∀h,a.tmps[4]'h=.int .i64 v:=by rw [ha];exact fun _=>rfl
  have ta5:∀h,a.tmps[5]'h=.pointer (some ⟨w.heap.size,0,none⟩):=by rw [ha];exact fun _=>rfl
  have ta6:∀h,a.tmps[6]'h=.pointer (some ⟨w.heap.size+1,0,none⟩):=by rw [ha];exact fun _=>rfl
  have HA:=mk0 ha
  clear ha
  refine tka 0 22 (.agg #[.slice aC d.classes.length cC,.slice aS d.supers.length cS,.slice aF d.fields.length cF,.slice aN d.names.length cN,.slice aT d.targets.length cT]) rfl hH ?_
  refine tka 1 23 (.pointer (some ⟨w.heap.size,0,none⟩)) rfl hH ?_
  refine tka 2 24 (.slice (some ⟨gW,0,none⟩) h.words.length dW) rfl hH ?_
  refine tka 3 25 (.int .i64 la) rfl hH ?_
  refine tka 4 26 (.pointer (some ⟨gW,la,none⟩)) rfl hH ?_
  refine tka 5 27 (.int .i64 t.tag) rfl hH ?_
  refine tka 6 28 (.int .i64 k) rfl hH ?_
  refine wpAnyH_ready (rs:=[7]) (by kernel_rfl) (by simp) ?_
  refine AllReadyH.cons rfl (fun K7 hK7=>?_) AllReadyH.nil
  go_simp
  refine (HRF.out _ (Below.refl _ _).drew).mono ?_
  rintro r wb ⟨rfl,hbb⟩
  rw [hc1]
  have hbB:Below Wa.heap.size Wa wb:=(Below.refl Wa.heap.size Wa).drew.trans hbb
  refine hK7.out _ _ (fun p hp=>hbB.cell hp) fun hH=>?_
  rw [zab]
  refine tka 8 30 (.bool true) rfl hH ?_
  refine tkga 9 31 8 30 true (.int .i64 la) rfl rfl hH ?_
  refine tkga 10 32 8 30 true (.pointer (some ⟨w.heap.size,1,none⟩)) rfl rfl hH ?_
  refine tkga 11 33 8 30 true (.int .i64 h.young) rfl rfl hH ?_
  refine tkga 12 34 8 30 true (.bool false) rfl rfl hH ?_
  refine tka 13 35 (.bool false) rfl hH ?_
  refine tka 14 36 (.bool false) rfl hH ?_
  refine tksa 15 37 14 36 true rfl rfl hH ?_
  refine tksa 16 38 14 36 true rfl rfl hH ?_
  refine tksa 17 39 14 36 true rfl rfl hH ?_
  refine tksa 18 40 14 36 true rfl rfl hH ?_
  refine tka 19 41 (.bool false) rfl hH ?_
  refine tka 20 42 (.bool false) rfl hH ?_
  refine tksa 21 43 20 42 true rfl rfl hH ?_
  refine tksa 22 44 20 42 true rfl rfl hH ?_
  refine tksa 23 45 20 42 true rfl rfl hH ?_
  refine tksa 24 46 20 42 true rfl rfl hH ?_
  refine tksa 25 47 20 42 true rfl rfl hH ?_
  refine tka 26 48 (.bool false) rfl hH ?_
  refine wpAnyH_done (by kernel_rfl) ?_ _
  clear hH
  rw [HA.out]
  simp only [Act.put,List.setIfInBounds_toArray,List.set_cons_zero,List.set_cons_succ]
 rotate_left
 focus
  have HSD:Hid (setD d h t k v=setW h m v):=(zmp (by unfold noteB;rw [hc1,decide_eq_true (by rw [hloc];exact hc2),<-zsj,hc3];rfl)).trans HSW.out
  refine wp_region_held_drew (S:=fun W'=>∀p:Addr,p.block<Wa.heap.size->W'.cell? p=Wa.cell? p) (by kernel_rfl) (fun p hp=>rfl) fun hH=>?_
  refine zag 27 rfl fun a ha=>?_
  have sza:a.tmps.size=80:=by rw [ha];rfl
  have ta2:∀h,a.tmps[2]'h=.int .i64 la:=by rw [ha];exact fun _=>rfl
  have ta3:∀h,a.tmps[3]'h=.int .i64 k:=by rw [ha];exact fun _=>rfl
  have ta4:∀h,a.tmps[4]'h=.int .i64 v:=by rw [ha];exact fun _=>rfl
  have ta5:∀h,a.tmps[5]'h=.pointer (some ⟨w.heap.size,0,none⟩):=by rw [ha];exact fun _=>rfl
  have ta6:∀h,a.tmps[6]'h=.pointer (some ⟨w.heap.size+1,0,none⟩):=by rw [ha];exact fun _=>rfl
  have HA:=mk0 ha
  clear ha
  refine tka 0 22 (.agg #[.slice aC d.classes.length cC,.slice aS d.supers.length cS,.slice aF d.fields.length cF,.slice aN d.names.length cN,.slice aT d.targets.length cT]) rfl hH ?_
  refine tka 1 23 (.pointer (some ⟨w.heap.size,0,none⟩)) rfl hH ?_
  refine tka 2 24 (.slice (some ⟨gW,0,none⟩) h.words.length dW) rfl hH ?_
  refine tka 3 25 (.int .i64 la) rfl hH ?_
  refine tka 4 26 (.pointer (some ⟨gW,la,none⟩)) rfl hH ?_
  refine tka 5 27 (.int .i64 t.tag) rfl hH ?_
  refine tka 6 28 (.int .i64 k) rfl hH ?_
  refine wpAnyH_ready (rs:=[7]) (by kernel_rfl) (by simp) ?_
  refine AllReadyH.cons rfl (fun K7 hK7=>?_) AllReadyH.nil
  go_simp
  refine (HRF.out _ (Below.refl _ _).drew).mono ?_
  rintro r wb ⟨rfl,hbb⟩
  rw [hc1]
  have hbB:Below Wa.heap.size Wa wb:=(Below.refl Wa.heap.size Wa).drew.trans hbb
  refine hK7.out _ _ (fun p hp=>hbB.cell hp) fun hH=>?_
  rw [zab]
  refine tka 8 30 (.bool true) rfl hH ?_
  refine tkga 9 31 8 30 true (.int .i64 la) rfl rfl hH ?_
  refine tkga 10 32 8 30 true (.pointer (some ⟨w.heap.size,1,none⟩)) rfl rfl hH ?_
  refine tkga 11 33 8 30 true (.int .i64 h.young) rfl rfl hH ?_
  refine tkga 12 34 8 30 true (.bool true) rfl rfl hH ?_
  refine tka 13 35 (.bool true) rfl hH ?_
  refine tka 14 36 (.bool true) rfl hH ?_
  refine tkga 15 37 14 36 true (.int .i64 v) rfl rfl hH ?_
  refine tkga 16 38 14 36 true (.pointer (some ⟨w.heap.size,1,none⟩)) rfl rfl hH ?_
  refine tkga 17 39 14 36 true (.int .i64 h.young) rfl rfl hH ?_
  refine wpAnyH_ready (rs:=[18]) (by kernel_rfl) (by simp) ?_
  refine AllReadyH.cons rfl (fun K18 hK18=>?_) AllReadyH.nil
  go_simp
  refine (zku _ _ _ _).mono ?_
  rintro r wx ⟨rfl,hx⟩
  rw [hx,hc3]
  clear hx hH
  refine hK18.out _ _ (fun p hp=>hbB.cell hp) fun hH=>?_
  rw [zab]
  refine tka 19 41 (.bool false) rfl hH ?_
  refine tka 20 42 (.bool false) rfl hH ?_
  refine tksa 21 43 20 42 true rfl rfl hH ?_
  refine tksa 22 44 20 42 true rfl rfl hH ?_
  refine tksa 23 45 20 42 true rfl rfl hH ?_
  refine tksa 24 46 20 42 true rfl rfl hH ?_
  refine tksa 25 47 20 42 true rfl rfl hH ?_
  refine tka 26 48 (.bool false) rfl hH ?_
  refine wpAnyH_done (by kernel_rfl) ?_ _
  clear hH
  rw [HA.out]
  simp only [Act.put,List.setIfInBounds_toArray,List.set_cons_zero,List.set_cons_succ]
 rotate_left
 focus
  have HSD:Hid (setD d h t k v=setW h m v):=by show setD d h t k v=setW h m v;rw [zso (by unfold noteB;rw [hc1,decide_eq_true (by rw [hloc];exact hc2),<-zsj,hc3];rfl),HSW.out];simp only [noteH,insN,setW,hloc,hc4,if_true]
  refine wp_region_held_drew (S:=fun W'=>∀p:Addr,p.block<Wa.heap.size->W'.cell? p=Wa.cell? p) (by kernel_rfl) (fun p hp=>rfl) fun hH=>?_
  refine zag 27 rfl fun a ha=>?_
  have sza:a.tmps.size=80:=by rw [ha];rfl
  have ta2:∀h,a.tmps[2]'h=.int .i64 la:=by rw [ha];exact fun _=>rfl
  have ta3:∀h,a.tmps[3]'h=.int .i64 k:=by rw [ha];exact fun _=>rfl
  have ta4:∀h,a.tmps[4]'h=.int .i64 v:=by rw [ha];exact fun _=>rfl
  have ta5:∀h,a.tmps[5]'h=.pointer (some ⟨w.heap.size,0,none⟩):=by rw [ha];exact fun _=>rfl
  have ta6:∀h,a.tmps[6]'h=.pointer (some ⟨w.heap.size+1,0,none⟩):=by rw [ha];exact fun _=>rfl
  have HA:=mk0 ha
  clear ha
  refine tka 0 22 (.agg #[.slice aC d.classes.length cC,.slice aS d.supers.length cS,.slice aF d.fields.length cF,.slice aN d.names.length cN,.slice aT d.targets.length cT]) rfl hH ?_
  refine tka 1 23 (.pointer (some ⟨w.heap.size,0,none⟩)) rfl hH ?_
  refine tka 2 24 (.slice (some ⟨gW,0,none⟩) h.words.length dW) rfl hH ?_
  refine tka 3 25 (.int .i64 la) rfl hH ?_
  refine tka 4 26 (.pointer (some ⟨gW,la,none⟩)) rfl hH ?_
  refine tka 5 27 (.int .i64 t.tag) rfl hH ?_
  refine tka 6 28 (.int .i64 k) rfl hH ?_
  refine wpAnyH_ready (rs:=[7]) (by kernel_rfl) (by simp) ?_
  refine AllReadyH.cons rfl (fun K7 hK7=>?_) AllReadyH.nil
  go_simp
  refine (HRF.out _ (Below.refl _ _).drew).mono ?_
  rintro r wb ⟨rfl,hbb⟩
  rw [hc1]
  have hbB:Below Wa.heap.size Wa wb:=(Below.refl Wa.heap.size Wa).drew.trans hbb
  refine hK7.out _ _ (fun p hp=>hbB.cell hp) fun hH=>?_
  rw [zab]
  refine tka 8 30 (.bool true) rfl hH ?_
  refine tkga 9 31 8 30 true (.int .i64 la) rfl rfl hH ?_
  refine tkga 10 32 8 30 true (.pointer (some ⟨w.heap.size,1,none⟩)) rfl rfl hH ?_
  refine tkga 11 33 8 30 true (.int .i64 h.young) rfl rfl hH ?_
  refine tkga 12 34 8 30 true (.bool true) rfl rfl hH ?_
  refine tka 13 35 (.bool true) rfl hH ?_
  refine tka 14 36 (.bool true) rfl hH ?_
  refine tkga 15 37 14 36 true (.int .i64 v) rfl rfl hH ?_
  refine tkga 16 38 14 36 true (.pointer (some ⟨w.heap.size,1,none⟩)) rfl rfl hH ?_
  refine tkga 17 39 14 36 true (.int .i64 h.young) rfl rfl hH ?_
  refine wpAnyH_ready (rs:=[18]) (by kernel_rfl) (by simp) ?_
  refine AllReadyH.cons rfl (fun K18 hK18=>?_) AllReadyH.nil
  go_simp
  refine (zku _ _ _ _).mono ?_
  rintro r wx ⟨rfl,hx⟩
  rw [hx,hc3]
  clear hx hH
  refine hK18.out _ _ (fun p hp=>hbB.cell hp) fun hH=>?_
  rw [zab]
  refine tka 19 41 (.bool true) rfl hH ?_
  refine tka 20 42 (.bool true) rfl hH ?_
  refine tkga 21 43 20 42 true (.pointer (some ⟨w.heap.size,5,none⟩)) rfl rfl hH ?_
  refine tkga 22 44 20 42 true (.slice nO h.noted.length dO) rfl rfl hH ?_
  refine tkga 23 45 20 42 true (.int .i64 la) rfl rfl hH ?_
  refine wpAnyH_ready (rs:=[24]) (by kernel_rfl) (by simp) ?_
  refine AllReadyH.cons rfl (fun K24 hK24=>?_) AllReadyH.nil
  go_simp
  refine (zky _ _ _ _ (HSN.out _ hbB) _).mono ?_
  rintro r wy ⟨rfl,hx⟩
  rw [hx,hc4]
  clear hx hH
  refine hK24.out _ _ (fun p hp=>hbB.cell hp) fun hH=>?_
  rw [zab]
  refine tkga 25 47 20 42 true (.bool false) rfl rfl hH ?_
  refine tka 26 48 (.bool false) rfl hH ?_
  refine wpAnyH_done (by kernel_rfl) ?_ _
  clear hH
  rw [HA.out]
  simp only [Act.put,List.setIfInBounds_toArray,List.set_cons_zero,List.set_cons_succ]
 rotate_left
 all_goals
  have kb:=(hbB.block _ lXa).trans HKA.out
  have kz:=(hbB.block _ lZa).trans HZA.out
  have hovb:=HOVA.out.below hbB
  have hBb:Below w.heap.size w wb:=HBA.out.trans (hbB.mono HBA.out.size)
  obtain ⟨W9,h9,hgS,hq,hr,rz,rl⟩:=setN (zs:=[.slice none 0 0,.int .i64 0,.int .i64 0,.int .i64 0,.int .i64 0,.slice none 0 0,.int .i64 0]) kz [.slice (some ⟨gW,0,none⟩) h.words.length dW,.int .i64 h.young,.int .i64 h.old,.int .i64 h.ytop,.int .i64 h.otop,.slice nO h.noted.length dO,.int .i64 h.next] rfl
  have r0:=hr 0 _ rfl
  have r1:=hr 1 _ rfl
  have r2:=hr 2 _ rfl
  have r3:=hr 3 _ rfl
  have r4:=hr 4 _ rfl
  have r5:=hr 5 _ rfl
  have r6:=hr 6 _ rfl
  have q0:=hq 0 _ rfl
  have q1:=hq 1 _ rfl
  have q2:=hq 2 _ rfl
  have q3:=hq 3 _ rfl
  have q4:=hq 4 _ rfl
  have q5:=hq 5 _ rfl
  have q6:=hq 6 _ rfl
  have hw9:=hgS.size
  have HB9:=mk0 (bg0 (hBb) hgS (by omega))
  have HG9:=mk0 hgS
  simp only [setL,Nat.reduceAdd]at h9
  have H9:=mk0 h9
  clear hgS hq hr h9
  obtain ⟨u0,u1,u2,u3,u4,u5,u6,uz,ul⟩:=cells7 kb
  have HOF:=mk0 (hovb.grown HG9.out (by simp [Value.ownBlock];have:=HGW.out;omega) (fun e=>by have:=HGO.out _ e;omega))
  have h9v:=H9.out
  clear H9 hovb hBb kb kz hbB
  go_wp2_with fail
  refine bodyPost_ret (v:=.agg #[.slice (some ⟨gW,0,none⟩) h.words.length dW,.int .i64 h.young,.int .i64 h.old,.int .i64 h.ytop,.int .i64 h.otop,.slice nO h.noted.length dO,.int .i64 h.next]) (by simp [results,Tryz.results32,go_sem,q0,q1,q2,q3,q4,q5,q6]) rfl ⟨HB9.out,some ⟨gW,0,none⟩,dW,nO,dO,?_,?_⟩
  ·rw [HSD.out]
   show _=Ending.returned (.agg #[.slice (some ⟨gW,0,none⟩) (h.words.set m v).length dW,.int .i64 h.young,.int .i64 h.old,.int .i64 h.ytop,.int .i64 h.otop,.slice nO h.noted.length dO,.int .i64 h.next])
   rw [List.length_set]
  rw [HSD.out]
  show OwnV _ _ (.slice (some ⟨gW,0,none⟩) (h.words.set m v).length dW) _ _
  rw [List.length_set]
  exact HOF.out
end Go.Proofs.YtjdnmblggdobgaaGreat
