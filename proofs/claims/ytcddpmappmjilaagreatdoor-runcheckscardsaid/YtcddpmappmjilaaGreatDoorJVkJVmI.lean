import Derived.Test.YtcddpmappmjilaaGreatDoorJLClVmM
import Derived.Test.YtcddpmappmjilaaGreatDoorTka
import Derived.Test.YtcddpmappmjilaaGreatDoorTil
import Derived.Deep.RegionHeld3
namespace Go.Proofs.YtcddpmappmjilaaGreatDoor
open Go.RowKit Go.Maps
theorem vup {a b c:World} (h:Below a.heap.size a b) (k:Below b.heap.size b c):Below a.heap.size a c:=h.trans (k.mono h.size)
set_option maxRecDepth 100000 in
set_option maxHeartbeats 8000000 in
theorem kJoin_any (w:World) (B:Nat) (kC kS kF kN kT:Value) (Bm:Nat) (d:LinkD) (hk:Kd B w kC kS kF kN kT Bm d) (hB:B<=w.heap.size) (hg:GlK w) {L:ByteArray->List ByteArray} (hc:Cls d L) (a b:KindD) (ha:GdK (fun s=>0<=num d.classes s) a) (hs:a.cls.size<=maxLen) (hb:GdK (fun s=>0<=num d.classes s) b) (hsb:b.cls.size<=maxLen):
 Calls Tryz.prog 307 #[kdV kC kS kF kN kT Bm,kv a,kv b] w fun r w'=>r=.returned (kv (joinB topName L a b))/\Below w.heap.size w w':=by
 obtain ⟨W0,hW0,hB0,hs0,k0,k1,k2,k3⟩:=boxes4 w #[kC,kS,kF,kN,kT,.map (some Bm)] #[.int .i64 a.kind,.string a.cls] #[.int .i64 b.kind,.string b.cls] #[.int .i64 0,.string ⟨#[]⟩] 181 80 80 80
 have hz:B<=W0.heap.size:=Nat.le_trans hB hB0.size
 have HV:Hid (∀V,Below W0.heap.size W0 V->V.heap[w.heap.size]? =some (.cells #[kC,kS,kF,kN,kT,.map (some Bm)] 181 (0,0))/\V.heap[w.heap.size+1]? =some (.cells #[.int .i64 a.kind,.string a.cls] 80 (0,0))/\V.heap[w.heap.size+1+1]? =some (.cells #[.int .i64 b.kind,.string b.cls] 80 (0,0))/\V.heap[w.heap.size+1+1+1]? =some (.cells #[.int .i64 0,.string ⟨#[]⟩] 80 (0,0))):=fun V hV=>⟨(hV.block _ (lt_of k0)).trans k0,(hV.block _ (lt_of k1)).trans k1,(hV.block _ (lt_of k2)).trans k2,(hV.block _ (lt_of k3)).trans k3⟩
 have HG:Hid (∀V,Below W0.heap.size W0 V->GlK V):=fun V hV=>(hg.below hB0).below hV
 have HK:Hid (∀V,Below W0.heap.size W0 V->Kd B V kC kS kF kN kT Bm d/\B<=V.heap.size):=fun V hV=>⟨(hk.below (hB0.mono hB)).below (hV.mono hz),Nat.le_trans hz hV.size⟩
 have HFB:Hid (∀V,Below W0.heap.size W0 V->Calls Tryz.prog 332 #[kdV kC kS kF kN kT Bm,kv b,kv a] V fun r w'=>r=.returned (.bool (fitB topName L b a))/\Below V.heap.size V w'):=fun V hV=>kFits_any V B _ _ _ _ _ _ d (HK.out V hV).1 (HK.out V hV).2 (HG.out V hV) hc b a hb hsb
 have HFA:Hid (∀V,Below W0.heap.size W0 V->Calls Tryz.prog 332 #[kdV kC kS kF kN kT Bm,kv a,kv b] V fun r w'=>r=.returned (.bool (fitB topName L a b))/\Below V.heap.size V w'):=fun V hV=>kFits_any V B _ _ _ _ _ _ d (HK.out V hV).1 (HK.out V hV).2 (HG.out V hV) hc a b ha hs
 have HAB:Hid (a.kind=3->b.kind=3->∀V,Below W0.heap.size W0 V->Calls Tryz.prog 334 #[kdV kC kS kF kN kT Bm,.string a.cls,.string b.cls] V fun r w'=>r=.returned (.string (abvN (L a.cls) (L b.cls) a.cls))/\Below V.heap.size V w'):=fun h1 h2 V hV=>kAbove_any V B _ _ _ _ _ _ d (HK.out V hV).1 (HK.out V hV).2 hc _ _ (ha.cls h1) hs (hb.cls h2) hsb
 have HB0:=mkHid hB0
 have HP3:Hid (w.heap.size<=w.heap.size+1+1+1):=by show _<=_;omega
 have HR:Hid (joinB topName L a b=if fitB topName L b a then a else if fitB topName L a b then b else if decide (a.kind=3)&&decide (b.kind=3) then ⟨3,abvN (L a.cls) (L b.cls) a.cls⟩ else if (!sameK a numK&& !sameK a anyK)&&(!sameK b numK&& !sameK b anyK) then ⟨3,topName⟩ else anyK):=rfl
 clear ha hb hk hg k0 k1 k2 k3 hB0 hs0
 cases h1:fitB topName L b a with
 | true=>
   rw [h1]at HR
   go_enter Tryz.func307,Tryz.ntmps307
   go_wp2_with fail
   rw [<-hW0]
   refine (HFB.out _ (Below.refl _ _)).mono ?_
   rw [h1]
   rintro r w2 ⟨rfl,hb2⟩
   have HB2:=mkHid hb2
   clear hb2 hW0
   obtain ⟨q0,q1,q2,q3⟩:=HV.out _ HB2.out;have x0:=cell_of q0 0 (x:=kC) rfl;have x1:=cell_of q0 1 (x:=kS) rfl;have x2:=cell_of q0 2 (x:=kF) rfl;have x3:=cell_of q0 3 (x:=kN) rfl;have x4:=cell_of q0 4 (x:=kT) rfl;have x5:=cell_of q0 5 (x:=.map (some Bm)) rfl;have y0:=cell_of q1 0 (x:=.int .i64 a.kind) rfl;have y1:=cell_of q1 1 (x:=.string a.cls) rfl;have z0:=cell_of q2 0 (x:=.int .i64 b.kind) rfl;have z1:=cell_of q2 1 (x:=.string b.cls) rfl;have r0:=cell_of q3 0 (x:=.int .i64 0) rfl;have r1:=cell_of q3 1 (x:=.string ⟨#[]⟩) rfl;have rf:=frz_of q3;clear q0 q1 q2 q3
   go_wp2_with fail
   exact bodyPost_ret (v:=kv a) (by simp [results,Tryz.results307,go_sem,r0,r1]) rfl ⟨by rw [HR.out];rfl,((HB0.out.trans (HB2.out.mono HB0.out.size)).setCell HP3.out _).setCell HP3.out _⟩
 | false=>
   rw [h1]at HR
   cases h2:fitB topName L a b with
   | true=>
     rw [h2]at HR
     go_enter Tryz.func307,Tryz.ntmps307
     go_wp2_with fail
     rw [<-hW0]
     refine (HFB.out _ (Below.refl _ _)).mono ?_
     rw [h1]
     rintro r w2 ⟨rfl,hb2⟩
     have HB2:=mkHid hb2
     clear hb2 hW0
     obtain ⟨q0,q1,q2,q3⟩:=HV.out _ HB2.out;have x0:=cell_of q0 0 (x:=kC) rfl;have x1:=cell_of q0 1 (x:=kS) rfl;have x2:=cell_of q0 2 (x:=kF) rfl;have x3:=cell_of q0 3 (x:=kN) rfl;have x4:=cell_of q0 4 (x:=kT) rfl;have x5:=cell_of q0 5 (x:=.map (some Bm)) rfl;have y0:=cell_of q1 0 (x:=.int .i64 a.kind) rfl;have y1:=cell_of q1 1 (x:=.string a.cls) rfl;have z0:=cell_of q2 0 (x:=.int .i64 b.kind) rfl;have z1:=cell_of q2 1 (x:=.string b.cls) rfl;have r0:=cell_of q3 0 (x:=.int .i64 0) rfl;have r1:=cell_of q3 1 (x:=.string ⟨#[]⟩) rfl;have rf:=frz_of q3;clear q0 q1 q2 q3
     go_wp2_with fail
     refine (HFA.out _ HB2.out).mono ?_
     rw [h2]
     rintro r w3 ⟨rfl,hb3⟩
     have HB3:=mkHid (vup HB2.out hb3)
     clear hb3
     clear x0 x1 x2 x3 x4 x5 y0 y1 z0 z1 r0 r1 rf;obtain ⟨q0,q1,q2,q3⟩:=HV.out _ HB3.out;have x0:=cell_of q0 0 (x:=kC) rfl;have x1:=cell_of q0 1 (x:=kS) rfl;have x2:=cell_of q0 2 (x:=kF) rfl;have x3:=cell_of q0 3 (x:=kN) rfl;have x4:=cell_of q0 4 (x:=kT) rfl;have x5:=cell_of q0 5 (x:=.map (some Bm)) rfl;have y0:=cell_of q1 0 (x:=.int .i64 a.kind) rfl;have y1:=cell_of q1 1 (x:=.string a.cls) rfl;have z0:=cell_of q2 0 (x:=.int .i64 b.kind) rfl;have z1:=cell_of q2 1 (x:=.string b.cls) rfl;have r0:=cell_of q3 0 (x:=.int .i64 0) rfl;have r1:=cell_of q3 1 (x:=.string ⟨#[]⟩) rfl;have rf:=frz_of q3;clear q0 q1 q2 q3
     go_wp2_with fail
     exact bodyPost_ret (v:=kv b) (by simp [results,Tryz.results307,go_sem,r0,r1]) rfl ⟨by rw [HR.out];rfl,((HB0.out.trans (HB3.out.mono HB0.out.size)).setCell HP3.out _).setCell HP3.out _⟩
   | false=>
     rw [h2]at HR
     cases ho:(decide (a.kind=3)&&decide (b.kind=3))with
     | true=>
       rw [ho]at HR
       have HO:=mkHid ho
       have HK3:Hid (a.kind=3/\b.kind=3):=by rw [Bool.and_eq_true,decide_eq_true_iff,decide_eq_true_iff]at ho;exact ho
       clear ho
       go_enter Tryz.func307,Tryz.ntmps307
       go_wp2_with fail
       rw [<-hW0]
       refine (HFB.out _ (Below.refl _ _)).mono ?_
       rw [h1]
       rintro r w2 ⟨rfl,hb2⟩
       have HB2:=mkHid hb2
       clear hb2 hW0
       obtain ⟨q0,q1,q2,q3⟩:=HV.out _ HB2.out;have x0:=cell_of q0 0 (x:=kC) rfl;have x1:=cell_of q0 1 (x:=kS) rfl;have x2:=cell_of q0 2 (x:=kF) rfl;have x3:=cell_of q0 3 (x:=kN) rfl;have x4:=cell_of q0 4 (x:=kT) rfl;have x5:=cell_of q0 5 (x:=.map (some Bm)) rfl;have y0:=cell_of q1 0 (x:=.int .i64 a.kind) rfl;have y1:=cell_of q1 1 (x:=.string a.cls) rfl;have z0:=cell_of q2 0 (x:=.int .i64 b.kind) rfl;have z1:=cell_of q2 1 (x:=.string b.cls) rfl;have r0:=cell_of q3 0 (x:=.int .i64 0) rfl;have r1:=cell_of q3 1 (x:=.string ⟨#[]⟩) rfl;have rf:=frz_of q3;clear q0 q1 q2 q3
       go_wp2_with fail
       refine (HFA.out _ HB2.out).mono ?_
       rw [h2]
       rintro r w3 ⟨rfl,hb3⟩
       have HB3:=mkHid (vup HB2.out hb3)
       clear hb3
       clear x0 x1 x2 x3 x4 x5 y0 y1 z0 z1 r0 r1 rf;obtain ⟨q0,q1,q2,q3⟩:=HV.out _ HB3.out;have x0:=cell_of q0 0 (x:=kC) rfl;have x1:=cell_of q0 1 (x:=kS) rfl;have x2:=cell_of q0 2 (x:=kF) rfl;have x3:=cell_of q0 3 (x:=kN) rfl;have x4:=cell_of q0 4 (x:=kT) rfl;have x5:=cell_of q0 5 (x:=.map (some Bm)) rfl;have y0:=cell_of q1 0 (x:=.int .i64 a.kind) rfl;have y1:=cell_of q1 1 (x:=.string a.cls) rfl;have z0:=cell_of q2 0 (x:=.int .i64 b.kind) rfl;have z1:=cell_of q2 1 (x:=.string b.cls) rfl;have r0:=cell_of q3 0 (x:=.int .i64 0) rfl;have r1:=cell_of q3 1 (x:=.string ⟨#[]⟩) rfl;have rf:=frz_of q3;clear q0 q1 q2 q3
       go_wp2_with fail
       refine (areObjects_any _ a b).mono ?_
       rw [HO.out]
       rintro r w4 ⟨rfl,hb4⟩
       have HB4:=mkHid (vup HB3.out hb4)
       clear hb4
       clear x0 x1 x2 x3 x4 x5 y0 y1 z0 z1 r0 r1 rf;obtain ⟨q0,q1,q2,q3⟩:=HV.out _ HB4.out;have x0:=cell_of q0 0 (x:=kC) rfl;have x1:=cell_of q0 1 (x:=kS) rfl;have x2:=cell_of q0 2 (x:=kF) rfl;have x3:=cell_of q0 3 (x:=kN) rfl;have x4:=cell_of q0 4 (x:=kT) rfl;have x5:=cell_of q0 5 (x:=.map (some Bm)) rfl;have y0:=cell_of q1 0 (x:=.int .i64 a.kind) rfl;have y1:=cell_of q1 1 (x:=.string a.cls) rfl;have z0:=cell_of q2 0 (x:=.int .i64 b.kind) rfl;have z1:=cell_of q2 1 (x:=.string b.cls) rfl;have r0:=cell_of q3 0 (x:=.int .i64 0) rfl;have r1:=cell_of q3 1 (x:=.string ⟨#[]⟩) rfl;have rf:=frz_of q3;clear q0 q1 q2 q3
       go_wp2_with fail
       refine (HAB.out HK3.out.1 HK3.out.2 _ HB4.out).mono ?_
       rintro r w5 ⟨rfl,hb5⟩
       have HB5:=mkHid (vup HB4.out hb5)
       clear hb5
       clear x0 x1 x2 x3 x4 x5 y0 y1 z0 z1 r0 r1 rf;obtain ⟨q0,q1,q2,q3⟩:=HV.out _ HB5.out;have x0:=cell_of q0 0 (x:=kC) rfl;have x1:=cell_of q0 1 (x:=kS) rfl;have x2:=cell_of q0 2 (x:=kF) rfl;have x3:=cell_of q0 3 (x:=kN) rfl;have x4:=cell_of q0 4 (x:=kT) rfl;have x5:=cell_of q0 5 (x:=.map (some Bm)) rfl;have y0:=cell_of q1 0 (x:=.int .i64 a.kind) rfl;have y1:=cell_of q1 1 (x:=.string a.cls) rfl;have z0:=cell_of q2 0 (x:=.int .i64 b.kind) rfl;have z1:=cell_of q2 1 (x:=.string b.cls) rfl;have r0:=cell_of q3 0 (x:=.int .i64 0) rfl;have r1:=cell_of q3 1 (x:=.string ⟨#[]⟩) rfl;have rf:=frz_of q3;clear q0 q1 q2 q3
       go_wp2_with fail
       refine (object_any _ _).mono ?_
       rintro r w6 ⟨rfl,hb6⟩
       have HB6:=mkHid (vup HB5.out hb6)
       clear hb6
       clear x0 x1 x2 x3 x4 x5 y0 y1 z0 z1 r0 r1 rf;obtain ⟨q0,q1,q2,q3⟩:=HV.out _ HB6.out;have x0:=cell_of q0 0 (x:=kC) rfl;have x1:=cell_of q0 1 (x:=kS) rfl;have x2:=cell_of q0 2 (x:=kF) rfl;have x3:=cell_of q0 3 (x:=kN) rfl;have x4:=cell_of q0 4 (x:=kT) rfl;have x5:=cell_of q0 5 (x:=.map (some Bm)) rfl;have y0:=cell_of q1 0 (x:=.int .i64 a.kind) rfl;have y1:=cell_of q1 1 (x:=.string a.cls) rfl;have z0:=cell_of q2 0 (x:=.int .i64 b.kind) rfl;have z1:=cell_of q2 1 (x:=.string b.cls) rfl;have r0:=cell_of q3 0 (x:=.int .i64 0) rfl;have r1:=cell_of q3 1 (x:=.string ⟨#[]⟩) rfl;have rf:=frz_of q3;clear q0 q1 q2 q3
       go_wp2_with fail
       exact bodyPost_ret (v:=kv ⟨3,abvN (L a.cls) (L b.cls) a.cls⟩) (by simp [results,Tryz.results307,go_sem,r0,r1]) rfl ⟨by rw [HR.out];rfl,((HB0.out.trans (HB6.out.mono HB0.out.size)).setCell HP3.out _).setCell HP3.out _⟩
     | false=>
       rw [ho]at HR
       have HO:=mkHid ho
       clear ho
       cases h4:isTh a with
       | true=>
         have e4:(!sameK a numK&& !sameK a anyK)=true:=h4
         rw [e4]at HR
         cases h5:isTh b with
         | true=>
           have e5:(!sameK b numK&& !sameK b anyK)=true:=h5
           rw [e5]at HR
           clear e4 e5
           go_enter Tryz.func307,Tryz.ntmps307
           go_wp2_with fail
           rw [<-hW0]
           refine (HFB.out _ (Below.refl _ _)).mono ?_
           rw [h1]
           rintro r w2 ⟨rfl,hb2⟩
           have HB2:=mkHid hb2
           clear hb2 hW0
           obtain ⟨q0,q1,q2,q3⟩:=HV.out _ HB2.out;have x0:=cell_of q0 0 (x:=kC) rfl;have x1:=cell_of q0 1 (x:=kS) rfl;have x2:=cell_of q0 2 (x:=kF) rfl;have x3:=cell_of q0 3 (x:=kN) rfl;have x4:=cell_of q0 4 (x:=kT) rfl;have x5:=cell_of q0 5 (x:=.map (some Bm)) rfl;have y0:=cell_of q1 0 (x:=.int .i64 a.kind) rfl;have y1:=cell_of q1 1 (x:=.string a.cls) rfl;have z0:=cell_of q2 0 (x:=.int .i64 b.kind) rfl;have z1:=cell_of q2 1 (x:=.string b.cls) rfl;have r0:=cell_of q3 0 (x:=.int .i64 0) rfl;have r1:=cell_of q3 1 (x:=.string ⟨#[]⟩) rfl;have rf:=frz_of q3;clear q0 q1 q2 q3
           go_wp2_with fail
           refine (HFA.out _ HB2.out).mono ?_
           rw [h2]
           rintro r w3 ⟨rfl,hb3⟩
           have HB3:=mkHid (vup HB2.out hb3)
           clear hb3
           clear x0 x1 x2 x3 x4 x5 y0 y1 z0 z1 r0 r1 rf;obtain ⟨q0,q1,q2,q3⟩:=HV.out _ HB3.out;have x0:=cell_of q0 0 (x:=kC) rfl;have x1:=cell_of q0 1 (x:=kS) rfl;have x2:=cell_of q0 2 (x:=kF) rfl;have x3:=cell_of q0 3 (x:=kN) rfl;have x4:=cell_of q0 4 (x:=kT) rfl;have x5:=cell_of q0 5 (x:=.map (some Bm)) rfl;have y0:=cell_of q1 0 (x:=.int .i64 a.kind) rfl;have y1:=cell_of q1 1 (x:=.string a.cls) rfl;have z0:=cell_of q2 0 (x:=.int .i64 b.kind) rfl;have z1:=cell_of q2 1 (x:=.string b.cls) rfl;have r0:=cell_of q3 0 (x:=.int .i64 0) rfl;have r1:=cell_of q3 1 (x:=.string ⟨#[]⟩) rfl;have rf:=frz_of q3;clear q0 q1 q2 q3
           go_wp2_with fail
           refine (areObjects_any _ a b).mono ?_
           rw [HO.out]
           rintro r w4 ⟨rfl,hb4⟩
           have HB4:=mkHid (vup HB3.out hb4)
           clear hb4
           clear x0 x1 x2 x3 x4 x5 y0 y1 z0 z1 r0 r1 rf;obtain ⟨q0,q1,q2,q3⟩:=HV.out _ HB4.out;have x0:=cell_of q0 0 (x:=kC) rfl;have x1:=cell_of q0 1 (x:=kS) rfl;have x2:=cell_of q0 2 (x:=kF) rfl;have x3:=cell_of q0 3 (x:=kN) rfl;have x4:=cell_of q0 4 (x:=kT) rfl;have x5:=cell_of q0 5 (x:=.map (some Bm)) rfl;have y0:=cell_of q1 0 (x:=.int .i64 a.kind) rfl;have y1:=cell_of q1 1 (x:=.string a.cls) rfl;have z0:=cell_of q2 0 (x:=.int .i64 b.kind) rfl;have z1:=cell_of q2 1 (x:=.string b.cls) rfl;have r0:=cell_of q3 0 (x:=.int .i64 0) rfl;have r1:=cell_of q3 1 (x:=.string ⟨#[]⟩) rfl;have rf:=frz_of q3;clear q0 q1 q2 q3
           go_wp2_with fail
           refine (isThing_any _ a (HG.out _ HB4.out)).mono ?_
           rw [h4]
           rintro r w5 ⟨rfl,hb5⟩
           have HB5:=mkHid (vup HB4.out hb5)
           clear hb5
           clear x0 x1 x2 x3 x4 x5 y0 y1 z0 z1 r0 r1 rf;obtain ⟨q0,q1,q2,q3⟩:=HV.out _ HB5.out;have x0:=cell_of q0 0 (x:=kC) rfl;have x1:=cell_of q0 1 (x:=kS) rfl;have x2:=cell_of q0 2 (x:=kF) rfl;have x3:=cell_of q0 3 (x:=kN) rfl;have x4:=cell_of q0 4 (x:=kT) rfl;have x5:=cell_of q0 5 (x:=.map (some Bm)) rfl;have y0:=cell_of q1 0 (x:=.int .i64 a.kind) rfl;have y1:=cell_of q1 1 (x:=.string a.cls) rfl;have z0:=cell_of q2 0 (x:=.int .i64 b.kind) rfl;have z1:=cell_of q2 1 (x:=.string b.cls) rfl;have r0:=cell_of q3 0 (x:=.int .i64 0) rfl;have r1:=cell_of q3 1 (x:=.string ⟨#[]⟩) rfl;have rf:=frz_of q3;clear q0 q1 q2 q3
           go_wp2_with fail
           refine (isThing_any _ b (HG.out _ HB5.out)).mono ?_
           rw [h5]
           rintro r w6 ⟨rfl,hb6⟩
           have HB6:=mkHid (vup HB5.out hb6)
           clear hb6
           clear x0 x1 x2 x3 x4 x5 y0 y1 z0 z1 r0 r1 rf;obtain ⟨q0,q1,q2,q3⟩:=HV.out _ HB6.out;have x0:=cell_of q0 0 (x:=kC) rfl;have x1:=cell_of q0 1 (x:=kS) rfl;have x2:=cell_of q0 2 (x:=kF) rfl;have x3:=cell_of q0 3 (x:=kN) rfl;have x4:=cell_of q0 4 (x:=kT) rfl;have x5:=cell_of q0 5 (x:=.map (some Bm)) rfl;have y0:=cell_of q1 0 (x:=.int .i64 a.kind) rfl;have y1:=cell_of q1 1 (x:=.string a.cls) rfl;have z0:=cell_of q2 0 (x:=.int .i64 b.kind) rfl;have z1:=cell_of q2 1 (x:=.string b.cls) rfl;have r0:=cell_of q3 0 (x:=.int .i64 0) rfl;have r1:=cell_of q3 1 (x:=.string ⟨#[]⟩) rfl;have rf:=frz_of q3;clear q0 q1 q2 q3
           obtain ⟨t0,t1,a0,a1,-,-,-,-,-,-,-⟩:=HG.out _ HB6.out
           go_wp2_with fail
           exact bodyPost_ret (v:=kv ⟨3,topName⟩) (by simp [results,Tryz.results307,go_sem,r0,r1]) rfl ⟨by rw [HR.out];rfl,((HB0.out.trans (HB6.out.mono HB0.out.size)).setCell HP3.out _).setCell HP3.out _⟩
         | false=>
           have e5:(!sameK b numK&& !sameK b anyK)=false:=h5
           rw [e5]at HR
           clear e4 e5
           go_enter Tryz.func307,Tryz.ntmps307
           go_wp2_with fail
           rw [<-hW0]
           refine (HFB.out _ (Below.refl _ _)).mono ?_
           rw [h1]
           rintro r w2 ⟨rfl,hb2⟩
           have HB2:=mkHid hb2
           clear hb2 hW0
           obtain ⟨q0,q1,q2,q3⟩:=HV.out _ HB2.out;have x0:=cell_of q0 0 (x:=kC) rfl;have x1:=cell_of q0 1 (x:=kS) rfl;have x2:=cell_of q0 2 (x:=kF) rfl;have x3:=cell_of q0 3 (x:=kN) rfl;have x4:=cell_of q0 4 (x:=kT) rfl;have x5:=cell_of q0 5 (x:=.map (some Bm)) rfl;have y0:=cell_of q1 0 (x:=.int .i64 a.kind) rfl;have y1:=cell_of q1 1 (x:=.string a.cls) rfl;have z0:=cell_of q2 0 (x:=.int .i64 b.kind) rfl;have z1:=cell_of q2 1 (x:=.string b.cls) rfl;have r0:=cell_of q3 0 (x:=.int .i64 0) rfl;have r1:=cell_of q3 1 (x:=.string ⟨#[]⟩) rfl;have rf:=frz_of q3;clear q0 q1 q2 q3
           go_wp2_with fail
           refine (HFA.out _ HB2.out).mono ?_
           rw [h2]
           rintro r w3 ⟨rfl,hb3⟩
           have HB3:=mkHid (vup HB2.out hb3)
           clear hb3
           clear x0 x1 x2 x3 x4 x5 y0 y1 z0 z1 r0 r1 rf;obtain ⟨q0,q1,q2,q3⟩:=HV.out _ HB3.out;have x0:=cell_of q0 0 (x:=kC) rfl;have x1:=cell_of q0 1 (x:=kS) rfl;have x2:=cell_of q0 2 (x:=kF) rfl;have x3:=cell_of q0 3 (x:=kN) rfl;have x4:=cell_of q0 4 (x:=kT) rfl;have x5:=cell_of q0 5 (x:=.map (some Bm)) rfl;have y0:=cell_of q1 0 (x:=.int .i64 a.kind) rfl;have y1:=cell_of q1 1 (x:=.string a.cls) rfl;have z0:=cell_of q2 0 (x:=.int .i64 b.kind) rfl;have z1:=cell_of q2 1 (x:=.string b.cls) rfl;have r0:=cell_of q3 0 (x:=.int .i64 0) rfl;have r1:=cell_of q3 1 (x:=.string ⟨#[]⟩) rfl;have rf:=frz_of q3;clear q0 q1 q2 q3
           go_wp2_with fail
           refine (areObjects_any _ a b).mono ?_
           rw [HO.out]
           rintro r w4 ⟨rfl,hb4⟩
           have HB4:=mkHid (vup HB3.out hb4)
           clear hb4
           clear x0 x1 x2 x3 x4 x5 y0 y1 z0 z1 r0 r1 rf;obtain ⟨q0,q1,q2,q3⟩:=HV.out _ HB4.out;have x0:=cell_of q0 0 (x:=kC) rfl;have x1:=cell_of q0 1 (x:=kS) rfl;have x2:=cell_of q0 2 (x:=kF) rfl;have x3:=cell_of q0 3 (x:=kN) rfl;have x4:=cell_of q0 4 (x:=kT) rfl;have x5:=cell_of q0 5 (x:=.map (some Bm)) rfl;have y0:=cell_of q1 0 (x:=.int .i64 a.kind) rfl;have y1:=cell_of q1 1 (x:=.string a.cls) rfl;have z0:=cell_of q2 0 (x:=.int .i64 b.kind) rfl;have z1:=cell_of q2 1 (x:=.string b.cls) rfl;have r0:=cell_of q3 0 (x:=.int .i64 0) rfl;have r1:=cell_of q3 1 (x:=.string ⟨#[]⟩) rfl;have rf:=frz_of q3;clear q0 q1 q2 q3
           go_wp2_with fail
           refine (isThing_any _ a (HG.out _ HB4.out)).mono ?_
           rw [h4]
           rintro r w5 ⟨rfl,hb5⟩
           have HB5:=mkHid (vup HB4.out hb5)
           clear hb5
           clear x0 x1 x2 x3 x4 x5 y0 y1 z0 z1 r0 r1 rf;obtain ⟨q0,q1,q2,q3⟩:=HV.out _ HB5.out;have x0:=cell_of q0 0 (x:=kC) rfl;have x1:=cell_of q0 1 (x:=kS) rfl;have x2:=cell_of q0 2 (x:=kF) rfl;have x3:=cell_of q0 3 (x:=kN) rfl;have x4:=cell_of q0 4 (x:=kT) rfl;have x5:=cell_of q0 5 (x:=.map (some Bm)) rfl;have y0:=cell_of q1 0 (x:=.int .i64 a.kind) rfl;have y1:=cell_of q1 1 (x:=.string a.cls) rfl;have z0:=cell_of q2 0 (x:=.int .i64 b.kind) rfl;have z1:=cell_of q2 1 (x:=.string b.cls) rfl;have r0:=cell_of q3 0 (x:=.int .i64 0) rfl;have r1:=cell_of q3 1 (x:=.string ⟨#[]⟩) rfl;have rf:=frz_of q3;clear q0 q1 q2 q3
           go_wp2_with fail
           refine (isThing_any _ b (HG.out _ HB5.out)).mono ?_
           rw [h5]
           rintro r w6 ⟨rfl,hb6⟩
           have HB6:=mkHid (vup HB5.out hb6)
           clear hb6
           clear x0 x1 x2 x3 x4 x5 y0 y1 z0 z1 r0 r1 rf;obtain ⟨q0,q1,q2,q3⟩:=HV.out _ HB6.out;have x0:=cell_of q0 0 (x:=kC) rfl;have x1:=cell_of q0 1 (x:=kS) rfl;have x2:=cell_of q0 2 (x:=kF) rfl;have x3:=cell_of q0 3 (x:=kN) rfl;have x4:=cell_of q0 4 (x:=kT) rfl;have x5:=cell_of q0 5 (x:=.map (some Bm)) rfl;have y0:=cell_of q1 0 (x:=.int .i64 a.kind) rfl;have y1:=cell_of q1 1 (x:=.string a.cls) rfl;have z0:=cell_of q2 0 (x:=.int .i64 b.kind) rfl;have z1:=cell_of q2 1 (x:=.string b.cls) rfl;have r0:=cell_of q3 0 (x:=.int .i64 0) rfl;have r1:=cell_of q3 1 (x:=.string ⟨#[]⟩) rfl;have rf:=frz_of q3;clear q0 q1 q2 q3
           obtain ⟨t0,t1,a0,a1,-,-,-,-,-,-,-⟩:=HG.out _ HB6.out
           go_wp2_with fail
           exact bodyPost_ret (v:=kv anyK) (by simp [results,Tryz.results307,go_sem,r0,r1,anyK]) rfl ⟨by rw [HR.out];rfl,((HB0.out.trans (HB6.out.mono HB0.out.size)).setCell HP3.out _).setCell HP3.out _⟩
       | false=>
         have e4:(!sameK a numK&& !sameK a anyK)=false:=h4
         rw [e4]at HR
         clear e4
         go_enter Tryz.func307,Tryz.ntmps307
         go_wp2_with fail
         rw [<-hW0]
         refine (HFB.out _ (Below.refl _ _)).mono ?_
         rw [h1]
         rintro r w2 ⟨rfl,hb2⟩
         have HB2:=mkHid hb2
         clear hb2 hW0
         obtain ⟨q0,q1,q2,q3⟩:=HV.out _ HB2.out;have x0:=cell_of q0 0 (x:=kC) rfl;have x1:=cell_of q0 1 (x:=kS) rfl;have x2:=cell_of q0 2 (x:=kF) rfl;have x3:=cell_of q0 3 (x:=kN) rfl;have x4:=cell_of q0 4 (x:=kT) rfl;have x5:=cell_of q0 5 (x:=.map (some Bm)) rfl;have y0:=cell_of q1 0 (x:=.int .i64 a.kind) rfl;have y1:=cell_of q1 1 (x:=.string a.cls) rfl;have z0:=cell_of q2 0 (x:=.int .i64 b.kind) rfl;have z1:=cell_of q2 1 (x:=.string b.cls) rfl;have r0:=cell_of q3 0 (x:=.int .i64 0) rfl;have r1:=cell_of q3 1 (x:=.string ⟨#[]⟩) rfl;have rf:=frz_of q3;clear q0 q1 q2 q3
         go_wp2_with fail
         refine (HFA.out _ HB2.out).mono ?_
         rw [h2]
         rintro r w3 ⟨rfl,hb3⟩
         have HB3:=mkHid (vup HB2.out hb3)
         clear hb3
         clear x0 x1 x2 x3 x4 x5 y0 y1 z0 z1 r0 r1 rf;obtain ⟨q0,q1,q2,q3⟩:=HV.out _ HB3.out;have x0:=cell_of q0 0 (x:=kC) rfl;have x1:=cell_of q0 1 (x:=kS) rfl;have x2:=cell_of q0 2 (x:=kF) rfl;have x3:=cell_of q0 3 (x:=kN) rfl;have x4:=cell_of q0 4 (x:=kT) rfl;have x5:=cell_of q0 5 (x:=.map (some Bm)) rfl;have y0:=cell_of q1 0 (x:=.int .i64 a.kind) rfl;have y1:=cell_of q1 1 (x:=.string a.cls) rfl;have z0:=cell_of q2 0 (x:=.int .i64 b.kind) rfl;have z1:=cell_of q2 1 (x:=.string b.cls) rfl;have r0:=cell_of q3 0 (x:=.int .i64 0) rfl;have r1:=cell_of q3 1 (x:=.string ⟨#[]⟩) rfl;have rf:=frz_of q3;clear q0 q1 q2 q3
         go_wp2_with fail
         refine (areObjects_any _ a b).mono ?_
         rw [HO.out]
         rintro r w4 ⟨rfl,hb4⟩
         have HB4:=mkHid (vup HB3.out hb4)
         clear hb4
         clear x0 x1 x2 x3 x4 x5 y0 y1 z0 z1 r0 r1 rf;obtain ⟨q0,q1,q2,q3⟩:=HV.out _ HB4.out;have x0:=cell_of q0 0 (x:=kC) rfl;have x1:=cell_of q0 1 (x:=kS) rfl;have x2:=cell_of q0 2 (x:=kF) rfl;have x3:=cell_of q0 3 (x:=kN) rfl;have x4:=cell_of q0 4 (x:=kT) rfl;have x5:=cell_of q0 5 (x:=.map (some Bm)) rfl;have y0:=cell_of q1 0 (x:=.int .i64 a.kind) rfl;have y1:=cell_of q1 1 (x:=.string a.cls) rfl;have z0:=cell_of q2 0 (x:=.int .i64 b.kind) rfl;have z1:=cell_of q2 1 (x:=.string b.cls) rfl;have r0:=cell_of q3 0 (x:=.int .i64 0) rfl;have r1:=cell_of q3 1 (x:=.string ⟨#[]⟩) rfl;have rf:=frz_of q3;clear q0 q1 q2 q3
         go_wp2_with fail
         refine (isThing_any _ a (HG.out _ HB4.out)).mono ?_
         rw [h4]
         rintro r w5 ⟨rfl,hb5⟩
         have HB5:=mkHid (vup HB4.out hb5)
         clear hb5
         clear x0 x1 x2 x3 x4 x5 y0 y1 z0 z1 r0 r1 rf;obtain ⟨q0,q1,q2,q3⟩:=HV.out _ HB5.out;have x0:=cell_of q0 0 (x:=kC) rfl;have x1:=cell_of q0 1 (x:=kS) rfl;have x2:=cell_of q0 2 (x:=kF) rfl;have x3:=cell_of q0 3 (x:=kN) rfl;have x4:=cell_of q0 4 (x:=kT) rfl;have x5:=cell_of q0 5 (x:=.map (some Bm)) rfl;have y0:=cell_of q1 0 (x:=.int .i64 a.kind) rfl;have y1:=cell_of q1 1 (x:=.string a.cls) rfl;have z0:=cell_of q2 0 (x:=.int .i64 b.kind) rfl;have z1:=cell_of q2 1 (x:=.string b.cls) rfl;have r0:=cell_of q3 0 (x:=.int .i64 0) rfl;have r1:=cell_of q3 1 (x:=.string ⟨#[]⟩) rfl;have rf:=frz_of q3;clear q0 q1 q2 q3
         obtain ⟨t0,t1,a0,a1,-,-,-,-,-,-,-⟩:=HG.out _ HB5.out
         go_wp2_with fail
         exact bodyPost_ret (v:=kv anyK) (by simp [results,Tryz.results307,go_sem,r0,r1,anyK]) rfl ⟨by rw [HR.out];rfl,((HB0.out.trans (HB5.out.mono HB0.out.size)).setCell HP3.out _).setCell HP3.out _⟩
end Go.Proofs.YtcddpmappmjilaaGreatDoor
namespace Go.Proofs.YtcddpmappmjilaaGreatDoor
open Go.RowKit Go.Maps
theorem heap_setX {W:World} {k j t:Nat} {cs:Array Value} {fr:Nat×Nat} (h:W.heap[k]? =some (.cells cs t fr)) (v:Value):(W.setCell ⟨k,j,none⟩ v).heap[k]? =some (.cells (cs.setIfInBounds j v) t fr):=by
 simp only [World.setCell,Array.getElem?_modify,h]
 simp
structure Wr (M:Nat->Prop) (w w':World):Prop where
 os:w'.os=w.os
 tape:w'.tape=w.tape
 output:w'.output=w.output
 size:w.heap.size<=w'.heap.size
 block:∀k,k<w.heap.size->¬M k->w'.heap[k]? =w.heap[k]?
 nf:∀k,M k->(∃cs t,w.heap[k]? =some (.cells cs t (0,0)))->∃cs t,w'.heap[k]? =some (.cells cs t (0,0))
theorem Wr.refl (M:Nat->Prop) (w:World):Wr M w w:=⟨rfl,rfl,rfl,Nat.le_refl _,fun _ _ _=>rfl,fun _ _ h=>h⟩
theorem Wr.trans {M:Nat->Prop} {a b c:World} (h:Wr M a b) (k:Wr M b c):Wr M a c:=
 ⟨k.os.trans h.os,k.tape.trans h.tape,k.output.trans h.output,Nat.le_trans h.size k.size,fun i hi hM=>(k.block i (Nat.lt_of_lt_of_le hi h.size) hM).trans (h.block i hi hM),fun i hM he=>k.nf i hM (h.nf i hM he)⟩
theorem Wr.of {M:Nat->Prop} {w w':World} (h:Below w.heap.size w w'):Wr M w w':=
 ⟨h.os,h.tape,h.output,h.size,fun k hk _=>h.block k hk,fun k _ ⟨cs,t,e⟩=>⟨cs,t,(h.block k (lt_of e)).trans e⟩⟩
theorem Wr.mono {M M':Nat->Prop} {w w':World} (h:Wr M w w') (hM:∀b,M b->M' b):Wr M' w w':=
 ⟨h.os,h.tape,h.output,h.size,fun k hk hk'=>h.block k hk fun hm=>hk' (hM k hm),fun k hk he=>by
  by_cases hm:M k
  ·
   exact h.nf k hm he
  obtain ⟨cs,t,e⟩:=he
  exact ⟨cs,t,(h.block k (lt_of e) hm).trans e⟩⟩
theorem Wr.below {M:Nat->Prop} {w w':World} {B:Nat} (h:Wr M w w') (hM:∀b,M b->B<=b) (hB:B<=w.heap.size):Below B w w':=
 ⟨h.os,h.tape,h.output,h.size,fun k hk=>h.block k (by omega) fun hm=>by have:=hM k hm;omega⟩
theorem Wr.set {M:Nat->Prop} {w:World} {b:Nat} (hM:M b) (j:Nat) (u:Value):Wr M w (w.setCell ⟨b,j,none⟩ u):=
 ⟨rfl,rfl,rfl,by simp [World.setCell],fun k _ hk=>Below.heap_setCell _ _ _ _ (fun e=>hk (e ▸ hM)),fun k _ ⟨cs,t,e⟩=>by
  by_cases hb:k=b
  ·
   subst hb
   exact ⟨_,t,heap_setX e u⟩
  exact ⟨cs,t,(Below.heap_setCell _ _ _ _ hb).trans e⟩⟩
theorem SL.setK {M:Nat->Prop} {w:World} {b off len cap:Nat} {l:List KindD} (h:SL 2 RK M w (.slice (some ⟨b,off,none⟩) len cap) l) {k:Nat} (hk:k<l.length) (x:KindD) (hx:x.cls.size<=maxLen):
 SL 2 RK M ((w.setCell ⟨b,off+k*2,none⟩ (.int .i64 x.kind)).setCell ⟨b,off+k*2+1,none⟩ (.string x.cls)) (.slice (some ⟨b,off,none⟩) len cap) (l.set k x):=by
 obtain ⟨b0,off0,e0,-,c0,c1,-⟩:=h.atK k hk
 cases e0
 obtain ⟨ao,cap',e,h1,h2,h3⟩:=h
 cases e
 refine ⟨_,_,by rw [List.length_set],by rw [List.length_set];exact h1,by rw [List.length_set];exact h2,fun j hj=>?_⟩
 rw [List.length_set]at hj
 obtain ⟨b',off',cs,e,hM,hb,hn,hc,hR,hs⟩:=h3 j hj
 cases e
 by_cases hjk:k=j
 ·
  subst hjk
  refine ⟨b,off,[.int .i64 x.kind,.string x.cls],rfl,hM,by simpa [World.setCell]using hb,rfl,fun i hi=>?_,by rw [List.getElem_set_self],by rw [List.getElem_set_self];exact hx⟩
  match i,hi with
  | 0,_=>exact (World.cell?_setCell_other _ _ _ _ (by simp)).trans (World.cell?_setCell_same _ _ _ c0)
  | 1,_=>exact World.cell?_setCell_same _ _ _ ((World.cell?_setCell_other _ _ _ _ (by simp)).trans c1)
 refine ⟨b,off,cs,rfl,hM,by simpa [World.setCell]using hb,hn,fun i hi=>?_,by rw [List.getElem_set_ne hjk];exact hR,by rw [List.getElem_set_ne hjk];exact hs⟩
 rw [World.cell?_setCell_other _ _ _ _ (by simp<;>omega),World.cell?_setCell_other _ _ _ _ (by simp<;>omega)]
 exact hc i hi
def mixL (c:Lkr) (known come:List KindD) (k:Nat):List KindD:=(joinL c known come).take k++known.drop k
section
variable {c:Lkr} {known come:List KindD}
theorem joinL_len (hl:known.length=come.length):(joinL c known come).length=known.length:=by unfold joinL;rw [List.length_zipWith,<-hl,Nat.min_self]
theorem mixL_len (hl:known.length=come.length) (k:Nat) (hk:k<=known.length):(mixL c known come k).length=known.length:=by
 unfold mixL
 rw [List.length_append,List.length_take,List.length_drop,joinL_len hl,Nat.min_eq_left hk]
 omega
theorem mixL_get (hl:known.length=come.length) (k:Nat) (hk:k<known.length):(mixL c known come k)[k]'(by rw [mixL_len hl k (Nat.le_of_lt hk)];exact hk)=known[k]:=by
 have e:((joinL c known come).take k).length=k:=by rw [List.length_take,joinL_len hl];omega
 unfold mixL
 rw [List.getElem_append_right (by omega)]
 simp [e]
theorem mixL_set (hl:known.length=come.length) (k:Nat) (hk:k<known.length):(mixL c known come k).set k (c.join known[k] (come[k]'(by omega)))=mixL c known come (k+1):=by
 have e:((joinL c known come).take k).length=k:=by rw [List.length_take,joinL_len hl];omega
 unfold mixL
 rw [List.set_append_right _ _ (by omega),e,Nat.sub_self,List.drop_eq_getElem_cons hk,List.set_cons_zero,List.take_succ_eq_append_getElem (by rw [joinL_len hl];exact hk)]
 simp [joinL]
theorem mixL_end (hl:known.length=come.length) (k:Nat) (hk:¬k<known.length):mixL c known come k=joinL c known come:=by
 unfold mixL
 rw [List.drop_of_length_le (by omega),List.append_nil,List.take_of_length_le (by rw [joinL_len hl];omega)]
def chgK (c:Lkr) (known come:List KindD) (k:Nat):Bool:=((known.zip come).take k).any fun p=>!sameK (c.join p.1 p.2) p.1
theorem chgK_succ (hl:known.length=come.length) (k:Nat) (hk:k<known.length):chgK c known come (k+1)=(chgK c known come k|| !sameK (c.join known[k] (come[k]'(by omega))) known[k]):=by
 unfold chgK
 rw [List.take_succ_eq_append_getElem (by rw [List.length_zip];omega),List.any_append,List.getElem_zip]
 simp
theorem chgK_end (hl:known.length=come.length) (k:Nat) (hk:¬k<known.length):chgK c known come k=chgL c known come:=by
 unfold chgK chgL
 rw [List.take_of_length_le (by rw [List.length_zip];omega)]
theorem sameK_self (a:KindD):sameK a a=true:=by simp [sameK]
theorem join_self (c:Lkr) (a:KindD):c.join a a=a:=by
 unfold Lkr.join joinB
 rw [if_pos (by unfold fitB;rw [sameK_self];rfl)]
theorem joinL_self (c:Lkr) (l:List KindD):joinL c l l=l:=by
 unfold joinL
 induction l with
 | nil=>rfl
 | cons x l ih=>rw [List.zipWith_cons_cons,join_self,ih]
theorem mixL_self (c:Lkr) (l:List KindD) (k:Nat):mixL c l l k=l:=by unfold mixL;rw [joinL_self,List.take_append_drop]
theorem join_gd (hc:Cls c.d c.L) {a b:KindD} (ha:GdK (Kn c) a) (hb:GdK (Kn c) b):GdK (Kn c) (c.join a b):=(joinB_spec hc.lin ha hb).1
end
set_option maxRecDepth 100000 in
set_option maxHeartbeats 8000000 in
theorem joinInto_any {c:Lkr} {B P:Nat} {v:LkV} (hc:Cls c.d c.L) (w:World) (hl:LkW c B P v w) (M M2:Nat->Prop) (vK vC:Value) (known come:List KindD) (hK:SL 2 RK M w vK known) (hC:SL 2 RK M2 w vC come) (hd:(∀b,M b->¬M2 b)\/(vC=vK/\come=known)) (hM:∀b,M b->B<=b/\∃cs t,w.heap[b]? =some (.cells cs t (0,0))) (hlen:known.length=come.length) (hsm:known.length<=1000) (hg:∀k∈known,GdK (Kn c) k) (hg2:∀k∈come,GdK (Kn c) k):
 Calls Tryz.prog 243 #[.pointer (some ⟨P,0,none⟩),vK,vC] w fun r w'=>r=.returned (.bool (chgL c known come))/\Wr M w w'/\SL 2 RK M w' vK (joinL c known come):=by
 have HL:=mkHid hl
 have HK0:=mkHid hK
 have HM:=mkHid hM
 have HG:=mkHid hg
 have HG2:=mkHid hg2
 have HLN:=mkHid hlen
 have HC:Hid (∀k wr,Wr M w wr->SL 2 RK M wr vK (mixL c known come k)->SL 2 RK (fun b=>M2 b\/M b) wr vC come):=fun k wr hW hS=>by
  rcases hd with hd | ⟨rfl,rfl⟩
  ·
   exact (hC.keptK ⟨hW.size,fun b hb hbl=>hW.block b hbl fun hm=>hd b hm hb⟩).monoK fun b hb=>Or.inl hb
  rw [mixL_self]at hS
  exact hS.monoK fun b hb=>Or.inr hb
 have hBW:=hl.bw
 obtain ⟨aK,cK,rfl,-⟩:=hK
 obtain ⟨aC,cC,rfl,-⟩:=hC
 have HLB:Hid (∀wr,Wr M w wr->LkW c B P v wr):=fun wr hW=>HL.out.below (hW.below (fun b hb=>(HM.out b hb).1) HL.out.bw)
 clear hl hd hM hg hg2 hlen
 go_enter Tryz.func243,Tryz.ntmps243
 go_wp2_with fail
 go_loopw [7,12] (fun ch i wr=>∃k:Nat,k<=known.length/\i=.int .i64 k/\ch=.bool (chgK c known come k)/\Hid (Wr M w wr/\SL 2 RK M wr (.slice aK known.length cK) (mixL c known come k))) (fun _ i _=>known.length - (intOf i).toNat)
 case atStart=>exact ⟨0,Nat.zero_le _,rfl,rfl,Wr.refl _ _,HK0.out⟩
 case round=>
  rename World=>wr
  obtain ⟨k,hk,rfl,rfl,HST⟩:=hrel
  by_cases hlt:k<known.length
  ·
   have hltc:k<come.length:=by rw [<-HLN.out];exact hlt
   have hltm:k<(mixL c known come k).length:=by rw [mixL_len HLN.out k hk];exact hlt
   have HSK:=mkHid HST.out.2
   have hAt:=HST.out.2.at k hltm
   obtain ⟨bK,oK,e9,hbK,t0,t1,tsz⟩:=HST.out.2.atK k hltm
   rw [mixL_get HLN.out k hlt]at t0 t1 tsz
   subst e9
   obtain ⟨bC,oC,e9,hbC,s0,s1,ssz⟩:=(HC.out k wr HST.out.1 HST.out.2).atK k hltc
   subst e9
   have hMb:M bK:=by
    obtain ⟨b9,o9,_,e9,hm,-⟩:=hAt
    cases e9
    exact hm
   clear hAt
   obtain ⟨csK,tyK,hKB⟩:=HST.out.1.nf bK hMb (HM.out bK hMb).2
   have HGA:=mkHid (HG.out _ (List.getElem_mem hlt))
   have HGB:=mkHid (HG2.out _ (List.getElem_mem hltc))
   have HMS:=mkHid (mixL_set (c:=c) HLN.out k hlt)
   have HCS:=mkHid (chgK_succ (c:=c) HLN.out k hlt)
   have HMT:=mkHid (And.intro hlt (Nat.succ_le_of_lt hlt))
   have HMM:=mkHid hMb
   generalize known[k]=ka at*
   generalize come[k]=kb at*
   obtain ⟨W1,hW1,hBW1,hs1,kx⟩:=boxes1 wr #[.int .i64 ka.kind,.string ka.cls] 80
   have hlr:=HLB.out wr HST.out.1
   have hl1:=hlr.below (hBW1.mono hlr.bw)
   have HB1:=mkHid hBW1
   obtain ⟨kj,hkj⟩:∃kj,kj=c.join ka kb:=⟨_,rfl⟩
   have HKJ:=mkHid hkj
   have HJS:Hid (kj.cls.size<=maxLen):=by
    show kj.cls.size<=maxLen
    rw [hkj]
    exact gd_small hc hl1.kd (join_gd hc HGA.out HGB.out)
   have HJ:Hid (∀W,Below W1.heap.size W1 W->Calls Tryz.prog 307 #[kdV v.kC v.kS v.kF v.kN v.kT v.Bm,kv ka,kv kb] W fun r w'=>r=.returned (kv kj)/\Below W1.heap.size W1 w'):=fun W hW=>by
    have hl:=hl1.below (hW.mono hl1.bw)
    rw [hkj]
    exact (kJoin_any W B _ _ _ _ _ _ c.d hl.kd hl.bw hl.gl hc ka kb HGA.out tsz HGB.out ssz).mono fun r w' ⟨e,h⟩=>⟨e,hW.trans (h.mono hW.size)⟩
   have e1:∀W,(binOp BinOp.neq 80 (kv kj) (kv ka)).run Tryz.prog W=.ok (.bool (!sameK kj ka)) W:=kindNeq kj ka
   have eg:=kindNeqG
   have p0:=cell_of hl1.blk 0 (x:=v.kC) rfl
   have p1:=cell_of hl1.blk 1 (x:=v.kS) rfl
   have p2:=cell_of hl1.blk 2 (x:=v.kF) rfl
   have p3:=cell_of hl1.blk 3 (x:=v.kN) rfl
   have p4:=cell_of hl1.blk 4 (x:=v.kT) rfl
   have p5:=cell_of hl1.blk 5 (x:=.map (some v.Bm)) rfl
   have x0:=cell_of kx 0 (x:=.int .i64 ka.kind) rfl
   have x1:=cell_of kx 1 (x:=.string ka.cls) rfl
   have y0:=(hBW1.cell (p:=⟨bC,oC+k*2,none⟩) hbC).trans s0
   have y1:=(hBW1.cell (p:=⟨bC,oC+k*2+1,none⟩) hbC).trans s1
   have z0:=(hBW1.cell (p:=⟨bK,oK+k*2,none⟩) hbK).trans t0
   have z1:=(hBW1.cell (p:=⟨bK,oK+k*2+1,none⟩) hbK).trans t1
   have zf:=frz_of ((hBW1.block bK hbK).trans hKB)
   have lP:P<W1.heap.size:=lt_of hl1.blk
   have lC:bC<W1.heap.size:=by omega
   have lK:bK<W1.heap.size:=by omega
   have lX:wr.heap.size<W1.heap.size:=by omega
   have hne:¬bK=wr.heap.size:=by omega
   have h00:(0:Int)<=k:=by omega
   have h01:(k:Int)<known.length:=by omega
   have h02:(k:Int)<come.length:=by omega
   have HMW:Hid (∀w4,Below W1.heap.size W1 w4->Wr M w ((w4.setCell ⟨bK,oK+k*2,none⟩ (.int .i64 kj.kind)).setCell ⟨bK,oK+k*2+1,none⟩ (.string kj.cls))/\SL 2 RK M ((w4.setCell ⟨bK,oK+k*2,none⟩ (.int .i64 kj.kind)).setCell ⟨bK,oK+k*2+1,none⟩ (.string kj.cls)) (.slice (some ⟨bK,oK,none⟩) known.length cK) (mixL c known come (k+1))):=fun w4 hb4=>by
    have hb:=hBW1.trans (hb4.mono hBW1.size)
    refine ⟨HST.out.1.trans ((Wr.of hb).trans ((Wr.set hMb _ _).trans (Wr.set hMb _ _))),?_⟩
    rw [<-HMS.out,<-hkj]
    exact (HST.out.2.keptK ⟨hb.size,fun b _ hbl=>hb.block b hbl⟩).setK hltm kj HJS.out
   clear hl1 hlr kx hBW1 s0 s1 HLB hKB hMb hkj hltm HC
   go_wp2_with fail
   rw [<-hW1]
   clear hW1 hs1
   refine wp_region_til (fun W'=>∀p:Addr,p.block<W1.heap.size->W'.cell? p=W1.cell? p) 13 (by kernel_rfl) (fun p hp=>rfl) fun hH=>?_
   refine til_take 0 (.slice (some ⟨bK,oK,none⟩) known.length cK) rfl (by kernel_rfl) (by kernel_rfl) (by kernel_rfl) (fun _ _ _ h=>h) ?_ hH ?_
   ·
    intro w hSw;go_simp
   refine til_take 1 (.int .i64 k) rfl (by kernel_rfl) (by kernel_rfl) (by kernel_rfl) (fun _ _ _ h=>h) ?_ hH ?_
   ·
    intro w hSw;go_simp
   refine til_take 2 (.pointer (some ⟨P,0,none⟩)) rfl (by kernel_rfl) (by kernel_rfl) (by kernel_rfl) (fun _ _ _ h=>h) ?_ hH ?_
   ·
    intro w hSw;go_simp
   refine til_take 3 (.pointer (some ⟨P,0,none⟩)) rfl (by kernel_rfl) (by kernel_rfl) (by kernel_rfl) (fun _ _ _ h=>h) ?_ hH ?_
   ·
    intro w hSw;go_simp
   refine til_take 4 (.pointer (some ⟨P,0,none⟩)) rfl (by kernel_rfl) (by kernel_rfl) (by kernel_rfl) (fun _ _ _ h=>h) ?_ hH ?_
   ·
    intro w hSw;go_simp
   refine til_take 5 (.agg #[v.kC,v.kS,v.kF,v.kN,v.kT,.map (some v.Bm)]) rfl (by kernel_rfl) (by kernel_rfl) (by kernel_rfl) (fun _ _ _ h=>h) ?_ hH ?_
   ·
    intro w hSw;go_simp
   refine til_take 6 (.agg #[.int .i64 ka.kind,.string ka.cls]) rfl (by kernel_rfl) (by kernel_rfl) (by kernel_rfl) (fun _ _ _ h=>h) ?_ hH ?_
   ·
    intro w hSw;go_simp
   refine til_take 7 (.slice (some ⟨bC,oC,none⟩) come.length cC) rfl (by kernel_rfl) (by kernel_rfl) (by kernel_rfl) (fun _ _ _ h=>h) ?_ hH ?_
   ·
    intro w hSw;go_simp
   refine til_take 8 (.int .i64 k) rfl (by kernel_rfl) (by kernel_rfl) (by kernel_rfl) (fun _ _ _ h=>h) ?_ hH ?_
   ·
    intro w hSw;go_simp
   refine til_take 9 (.pointer (some ⟨bC,oC+k*2,none⟩)) rfl (by kernel_rfl) (by kernel_rfl) (by kernel_rfl) (fun _ _ _ h=>h) ?_ hH ?_
   ·
    intro w hSw;go_simp
   refine til_take 10 (.agg #[.int .i64 kb.kind,.string kb.cls]) rfl (by kernel_rfl) (by kernel_rfl) (by kernel_rfl) (fun _ _ _ h=>h) ?_ hH ?_
   ·
    intro w hSw;go_simp
   refine til_ready (rs:=[11]) (by kernel_rfl) (by simp) ?_
   refine TilR.cons rfl (fun K11 hK11=>?_) TilR.nil
   go_simp
   refine (HJ.out _ ((Below.refl _ _).drew)).mono ?_
   rintro r w4 ⟨rfl,hb4⟩
   have HB4:=mkHid hb4
   have d0:=(hb4.cell (p:=⟨bK,oK+k*2,none⟩) lK).trans z0
   have d1:=(hb4.cell (p:=⟨bK,oK+k*2+1,none⟩) lK).trans z1
   have df:=(hb4.frozen (p:=⟨bK,oK+k*2,none⟩) lK).trans (zf (oK+k*2))
   have df1:=(hb4.frozen (p:=⟨bK,oK+k*2+1,none⟩) lK).trans (zf (oK+k*2+1))
   refine hK11.out _ _ (fun _ _ p hp=>hb4.cell hp) ?_
   replace hH:∀p:Addr,p.block<W1.heap.size->w4.cell? p=W1.cell? p:=fun p hp=>hb4.cell hp
   clear hb4
   refine til_take 12 (.pointer (some ⟨bK,oK+k*2,none⟩)) rfl (by kernel_rfl) (by kernel_rfl) (by kernel_rfl) (fun _ _ _ h=>h) ?_ hH ?_
   ·
    intro w hSw;go_simp
   refine til_ready (rs:=[13]) (by kernel_rfl) (by simp) ?_
   refine TilR.cons rfl (fun K13 hK13=>?_) TilR.nil
   go_simp
   refine hK13.out _ _ (fun h=>absurd rfl h) ?_
   refine til_done (by kernel_rfl) ?_ _
   clear hH
   try simp only [Act.put,List.setIfInBounds_toArray,List.set_cons_zero,List.set_cons_succ,List.getElem_toArray,List.getElem_cons_zero,List.getElem_cons_succ]
   have HW2:=mkHid (HMW.out w4 HB4.out)
   have w0:((w4.setCell ⟨bK,oK+k*2,none⟩ (.int .i64 kj.kind)).setCell ⟨bK,oK+k*2+1,none⟩ (.string kj.cls)).cell? ⟨bK,oK+k*2,none⟩=some (.int .i64 kj.kind):=(World.cell?_setCell_other _ _ _ _ (by simp)).trans (World.cell?_setCell_same _ _ _ d0)
   have w1:((w4.setCell ⟨bK,oK+k*2,none⟩ (.int .i64 kj.kind)).setCell ⟨bK,oK+k*2+1,none⟩ (.string kj.cls)).cell? ⟨bK,oK+k*2+1,none⟩=some (.string kj.cls):=World.cell?_setCell_same _ _ _ ((World.cell?_setCell_other _ _ _ _ (by simp)).trans d1)
   have u0:((w4.setCell ⟨bK,oK+k*2,none⟩ (.int .i64 kj.kind)).setCell ⟨bK,oK+k*2+1,none⟩ (.string kj.cls)).cell? ⟨wr.heap.size,0,none⟩=some (.int .i64 ka.kind):=(World.cell?_setCell_other _ _ _ _ (by simp<;>omega)).trans ((World.cell?_setCell_other _ _ _ _ (by simp<;>omega)).trans ((HB4.out.cell (p:=⟨wr.heap.size,0,none⟩) lX).trans x0))
   have u1:((w4.setCell ⟨bK,oK+k*2,none⟩ (.int .i64 kj.kind)).setCell ⟨bK,oK+k*2+1,none⟩ (.string kj.cls)).cell? ⟨wr.heap.size,1,none⟩=some (.string ka.cls):=(World.cell?_setCell_other _ _ _ _ (by simp<;>omega)).trans ((World.cell?_setCell_other _ _ _ _ (by simp<;>omega)).trans ((HB4.out.cell (p:=⟨wr.heap.size,1,none⟩) lX).trans x1))
   have s2:W1.heap.size<=((w4.setCell ⟨bK,oK+k*2,none⟩ (.int .i64 kj.kind)).setCell ⟨bK,oK+k*2+1,none⟩ (.string kj.cls)).heap.size:=by simp [World.setCell];exact HB4.out.size
   clear d0 d1 df df1 HMW z0 z1 zf y0 y1 x0 x1 p0 p1 p2 p3 p4 p5
   go_wp2_with fail
   generalize ((w4.setCell ⟨bK,oK+k*2,none⟩ (.int .i64 kj.kind)).setCell ⟨bK,oK+k*2+1,none⟩ (.string kj.cls))=W2 at*
   have l2K:bK<W2.heap.size:=by omega
   have l2X:wr.heap.size<W2.heap.size:=by omega
   cases hch:chgK c known come k with
   | true=>
     rw [hch]at HCS
     refine wp_region_held_drew (S:=fun W'=>∀p:Addr,p.block<W2.heap.size->W'.cell? p=W2.cell? p) (by kernel_rfl) (fun p hp=>rfl) fun hH=>?_
     refine ta 0 (.bool true) rfl hH ?_
     refine ta 1 (.bool true) rfl hH ?_
     refine tan 2 rfl hH ?_
     refine tan 3 rfl hH ?_
     refine tan 4 rfl hH ?_
     refine tan 5 rfl hH ?_
     refine tan 6 rfl hH ?_
     refine tan 7 rfl hH ?_
     refine ta 8 (.bool true) rfl hH ?_
     refine ta 9 (.bool true) rfl hH ?_
     refine wpAnyH_done (by kernel_rfl) ?_ _
     clear hH
     try simp only [Act.put,List.setIfInBounds_toArray,List.set_cons_zero,List.set_cons_succ,List.getElem_toArray,List.getElem_cons_zero,List.getElem_cons_succ]
     go_wp2_with fail
     go_roundw
     case rel=>exact ⟨k+1,HMT.out.2,by go_num,by rw [HCS.out];rfl,HW2.out.1.trans (Wr.of (Below.refl _ _).drew),HW2.out.2.keptK ⟨Nat.le_refl _,fun _ _ _=>rfl⟩⟩
     case measure=>have hmt9:=HMT.out.1;simp [intOf];omega
   | false=>
     rw [hch]at HCS
     refine wp_region_held_drew (S:=fun W'=>∀p:Addr,p.block<W2.heap.size->W'.cell? p=W2.cell? p) (by kernel_rfl) (fun p hp=>rfl) fun hH=>?_
     refine ta 0 (.bool false) rfl hH ?_
     refine ta 1 (.bool false) rfl hH ?_
     refine ta 2 (.slice (some ⟨bK,oK,none⟩) known.length cK) rfl hH ?_
     refine ta 3 (.int .i64 k) rfl hH ?_
     refine ta 4 (.pointer (some ⟨bK,oK+k*2,none⟩)) rfl hH ?_
     refine ta 5 (.agg #[.int .i64 kj.kind,.string kj.cls]) rfl hH ?_
     refine ta 6 (.agg #[.int .i64 ka.kind,.string ka.cls]) rfl hH ?_
     refine ta 7 (.bool (!sameK kj ka)) rfl hH ?_
     refine ta 8 (.bool (!sameK kj ka)) rfl hH ?_
     refine ta 9 (.bool (!sameK kj ka)) rfl hH ?_
     refine wpAnyH_done (by kernel_rfl) ?_ _
     clear hH
     try simp only [Act.put,List.setIfInBounds_toArray,List.set_cons_zero,List.set_cons_succ,List.getElem_toArray,List.getElem_cons_zero,List.getElem_cons_succ]
     go_wp2_with fail
     go_roundw
     case rel=>exact ⟨k+1,HMT.out.2,by go_num,by rw [HCS.out,<-HKJ.out];rfl,HW2.out.1.trans (Wr.of (Below.refl _ _).drew),HW2.out.2.keptK ⟨Nat.le_refl _,fun _ _ _=>rfl⟩⟩
     case measure=>have hmt9:=HMT.out.1;simp [intOf];omega
  have HE1:=mkHid (mixL_end (c:=c) HLN.out k hlt)
  have HE2:=mkHid (chgK_end (c:=c) HLN.out k hlt)
  have h01:¬(k:Int)<known.length:=by omega
  go_wp2_with fail
  go_ret
  exact ⟨by rw [<-HE2.out];rfl,HST.out.1,by rw [<-HE1.out];exact HST.out.2⟩
end Go.Proofs.YtcddpmappmjilaaGreatDoor
namespace Go.Proofs.YtcddpmappmjilaaGreatDoor
open Go.RowKit Go.Maps
abbrev Own:=Nat->Option (Nat×Nat)
structure LkM (c:Lkr) (B:Nat) (v:LkV) (own:Own) (sl:Nat->Value×Value) (s:SA) (w:World):Prop where
 ls:s.S.length=c.ins.length
 la:s.A.length=c.ins.length
 oS:own v.bS=some (0,2)
 oA:own v.bA=some (0,3)
 blk:∀b t,own b=some t->B<=b/\∃cs ty,w.heap[b]? =some (.cells cs ty (0,0))
 cS:∀n (h:n<s.S.length),w.cell? ⟨v.bS,n*3,none⟩=some (.bool s.S[n].comes)/\w.cell? ⟨v.bS,n*3+1,none⟩=some (sl n).1/\w.cell? ⟨v.bS,n*3+2,none⟩=some (sl n).2
 cA:∀n (h:n<s.A.length),w.cell? ⟨v.bA,n,none⟩=some (.bool s.A[n])
 rL:∀n (h:n<s.S.length),SL 2 RK (fun b=>own b=some (n,0)) w (sl n).1 s.S[n].locals
 rS:∀n (h:n<s.S.length),SL 2 RK (fun b=>own b=some (n,1)) w (sl n).2 s.S[n].stack
section
variable {c:Lkr} {B:Nat} {v:LkV} {own:Own} {sl:Nat->Value×Value} {s:SA} {w w':World}
theorem LkM.lt (h:LkM c B v own sl s w) {b:Nat} {t:Nat×Nat} (e:own b=some t):b<w.heap.size:=by
 obtain ⟨-,cs,ty,e'⟩:=h.blk b t e
 exact lt_of e'
theorem LkM.neSA (h:LkM c B v own sl s w):v.bS≠v.bA:=fun e=>by
 have h1:=h.oS
 rw [e,h.oA]at h1
 simp at h1
theorem LkM.up (h:LkM c B v own sl s w) (hb:Below w.heap.size w w'):LkM c B v own sl s w':=by
 have hS:=h.lt h.oS
 have hA:=h.lt h.oA
 refine ⟨h.ls,h.la,h.oS,h.oA,fun b t e=>?_,fun n hn=>?_,fun n hn=>(hb.cell (p:=⟨v.bA,n,none⟩) hA).trans (h.cA n hn),fun n hn=>(h.rL n hn).keptK ⟨hb.size,fun b _ hl=>hb.block b hl⟩,fun n hn=>(h.rS n hn).keptK ⟨hb.size,fun b _ hl=>hb.block b hl⟩⟩
 ·
  obtain ⟨h1,cs,ty,h2⟩:=h.blk b t e
  exact ⟨h1,cs,ty,(hb.block b (lt_of h2)).trans h2⟩
 obtain ⟨h1,h2,h3⟩:=h.cS n hn
 exact ⟨(hb.cell (p:=⟨v.bS,_,none⟩) hS).trans h1,(hb.cell (p:=⟨v.bS,_,none⟩) hS).trans h2,(hb.cell (p:=⟨v.bS,_,none⟩) hS).trans h3⟩
theorem LkM.mark (h:LkM c B v own sl s w) {n:Nat} (hn:n<s.A.length) (b:Bool):LkM c B v own sl ⟨s.S,s.A.set n b⟩ (w.setCell ⟨v.bA,n,none⟩ (.bool b)):=by
 have hne:=h.neSA
 have hrow:∀(t:Nat×Nat),t≠(0,3)->Kp (fun x=>own x=some t) w (w.setCell ⟨v.bA,n,none⟩ (.bool b)):=fun t ht=>⟨by simp [World.setCell],fun x hx _=>Below.heap_setCell _ _ _ _ (fun e=>ht (by have:=h.oA;rw [show x=v.bA from e]at hx;rw [this]at hx;exact (Option.some.inj hx).symm))⟩
 refine ⟨h.ls,by show (s.A.set n b).length=_;rw [List.length_set];exact h.la,h.oS,h.oA,fun x t e=>?_,fun k hk=>?_,fun k hk=>?_,fun k hk=>(h.rL k hk).keptK (hrow _ (by simp)),fun k hk=>(h.rS k hk).keptK (hrow _ (by simp))⟩
 ·
  obtain ⟨h1,cs,ty,h2⟩:=h.blk x t e
  by_cases hx:x=v.bA
  ·
   subst hx
   exact ⟨h1,_,ty,heap_setX h2 _⟩
  exact ⟨h1,cs,ty,(Below.heap_setCell _ _ _ _ hx).trans h2⟩
 ·
  obtain ⟨h1,h2,h3⟩:=h.cS k hk
  exact ⟨(World.cell?_setCell_other _ _ _ _ (fun e=>hne (congrArg Addr.block e).symm)).trans h1,(World.cell?_setCell_other _ _ _ _ (fun e=>hne (congrArg Addr.block e).symm)).trans h2,(World.cell?_setCell_other _ _ _ _ (fun e=>hne (congrArg Addr.block e).symm)).trans h3⟩
 have hk':k<s.A.length:=by simpa using hk
 by_cases e:n=k
 ·
  subst e
  show _=some (Value.bool (s.A.set n b)[n])
  rw [List.getElem_set_self]
  exact World.cell?_setCell_same _ _ _ (h.cA n hn)
 show _=some (Value.bool (s.A.set n b)[k])
 rw [List.getElem_set_ne e]
 exact (World.cell?_setCell_other _ _ _ _ (by simp<;>omega)).trans (h.cA k hk')
theorem LkM.row0 (h:LkM c B v own sl s w) {n:Nat} (hn:n<s.S.length) {lo':List KindD} (hW:Wr (fun b=>own b=some (n,0)) w w') (hS:SL 2 RK (fun b=>own b=some (n,0)) w' (sl n).1 lo'):LkM c B v own sl ⟨s.S.set n ⟨s.S[n].comes,lo',s.S[n].stack⟩,s.A⟩ w':=by
 have hb:∀x t,own x=some t->t≠(n,0)->w'.heap[x]? =w.heap[x]? :=fun x t e ht=>hW.block x (h.lt e) fun e'=>ht (by rw [e]at e';exact Option.some.inj e')
 have hS2:∀j,w'.cell? ⟨v.bS,j,none⟩=w.cell? ⟨v.bS,j,none⟩:=fun j=>World.cell?_of_block (a:=⟨v.bS,j,none⟩) (hb _ _ h.oS (by simp))
 have hA2:∀j,w'.cell? ⟨v.bA,j,none⟩=w.cell? ⟨v.bA,j,none⟩:=fun j=>World.cell?_of_block (a:=⟨v.bA,j,none⟩) (hb _ _ h.oA (by simp))
 refine ⟨by show (List.set _ _ _).length=_;rw [List.length_set];exact h.ls,h.la,h.oS,h.oA,fun x t e=>?_,fun k hk=>?_,fun k hk=>(hA2 k).trans (h.cA k hk),fun k hk=>?_,fun k hk=>?_⟩
 ·
  obtain ⟨h1,h2⟩:=h.blk x t e
  by_cases ht:t=(n,0)
  ·
   subst ht
   exact ⟨h1,hW.nf x e h2⟩
  obtain ⟨cs,ty,h2⟩:=h2
  exact ⟨h1,cs,ty,(hb x t e ht).trans h2⟩
 ·
  have hk':k<s.S.length:=by simpa using hk
  obtain ⟨h1,h2,h3⟩:=h.cS k hk'
  refine ⟨(hS2 _).trans (h1.trans ?_),(hS2 _).trans h2,(hS2 _).trans h3⟩
  show some (Value.bool s.S[k].comes)=some (Value.bool (s.S.set n _)[k].comes)
  by_cases e:n=k
  ·
   subst e;rw [List.getElem_set_self]
  rw [List.getElem_set_ne e]
 ·
  have hk':k<s.S.length:=by simpa using hk
  show SL 2 RK _ w' _ (s.S.set n _)[k].locals
  by_cases e:n=k
  ·
   subst e;rw [List.getElem_set_self];exact hS
  rw [List.getElem_set_ne e]
  exact (h.rL k hk').keptK ⟨hW.size,fun x hx _=>hb x _ hx (by simp;omega)⟩
 have hk':k<s.S.length:=by simpa using hk
 show SL 2 RK _ w' _ (s.S.set n _)[k].stack
 have:=(h.rS k hk').keptK (w':=w') ⟨hW.size,fun x hx _=>hb x _ hx (by simp)⟩
 by_cases e:n=k
 ·
  subst e;rw [List.getElem_set_self];exact this
 rw [List.getElem_set_ne e];exact this
theorem LkM.row1 (h:LkM c B v own sl s w) {n:Nat} (hn:n<s.S.length) {st':List KindD} (hW:Wr (fun b=>own b=some (n,1)) w w') (hS:SL 2 RK (fun b=>own b=some (n,1)) w' (sl n).2 st'):LkM c B v own sl ⟨s.S.set n ⟨s.S[n].comes,s.S[n].locals,st'⟩,s.A⟩ w':=by
 have hb:∀x t,own x=some t->t≠(n,1)->w'.heap[x]? =w.heap[x]? :=fun x t e ht=>hW.block x (h.lt e) fun e'=>ht (by rw [e]at e';exact Option.some.inj e')
 have hS2:∀j,w'.cell? ⟨v.bS,j,none⟩=w.cell? ⟨v.bS,j,none⟩:=fun j=>World.cell?_of_block (a:=⟨v.bS,j,none⟩) (hb _ _ h.oS (by simp))
 have hA2:∀j,w'.cell? ⟨v.bA,j,none⟩=w.cell? ⟨v.bA,j,none⟩:=fun j=>World.cell?_of_block (a:=⟨v.bA,j,none⟩) (hb _ _ h.oA (by simp))
 refine ⟨by show (List.set _ _ _).length=_;rw [List.length_set];exact h.ls,h.la,h.oS,h.oA,fun x t e=>?_,fun k hk=>?_,fun k hk=>(hA2 k).trans (h.cA k hk),fun k hk=>?_,fun k hk=>?_⟩
 ·
  obtain ⟨h1,h2⟩:=h.blk x t e
  by_cases ht:t=(n,1)
  ·
   subst ht
   exact ⟨h1,hW.nf x e h2⟩
  obtain ⟨cs,ty,h2⟩:=h2
  exact ⟨h1,cs,ty,(hb x t e ht).trans h2⟩
 ·
  have hk':k<s.S.length:=by simpa using hk
  obtain ⟨h1,h2,h3⟩:=h.cS k hk'
  refine ⟨(hS2 _).trans (h1.trans ?_),(hS2 _).trans h2,(hS2 _).trans h3⟩
  show some (Value.bool s.S[k].comes)=some (Value.bool (s.S.set n _)[k].comes)
  by_cases e:n=k
  ·
   subst e;rw [List.getElem_set_self]
  rw [List.getElem_set_ne e]
 ·
  have hk':k<s.S.length:=by simpa using hk
  show SL 2 RK _ w' _ (s.S.set n _)[k].locals
  have:=(h.rL k hk').keptK (w':=w') ⟨hW.size,fun x hx _=>hb x _ hx (by simp)⟩
  by_cases e:n=k
  ·
   subst e;rw [List.getElem_set_self];exact this
  rw [List.getElem_set_ne e];exact this
 have hk':k<s.S.length:=by simpa using hk
 show SL 2 RK _ w' _ (s.S.set n _)[k].stack
 by_cases e:n=k
 ·
  subst e;rw [List.getElem_set_self];exact hS
 rw [List.getElem_set_ne e]
 exact (h.rS k hk').keptK ⟨hW.size,fun x hx _=>hb x _ hx (by simp;omega)⟩
def ownN (own:Own) (n:Nat) (vL vS:Value):Own:=fun b=>if vL.ownBlock=some b then some (n,0) else if vS.ownBlock=some b then some (n,1) else own b
def slN (sl:Nat->Value×Value) (n:Nat) (vL vS:Value):Nat->Value×Value:=fun k=>if k=n then (vL,vS) else sl k
theorem ownN_old {X n:Nat} {vL vS:Value} (hL:∀b,vL.ownBlock=some b->X<=b) (hS:∀b,vS.ownBlock=some b->X<=b) {b:Nat} (hb:b<X):ownN own n vL vS b=own b:=by
 unfold ownN
 rw [if_neg (fun e=>by have:=hL b e;omega),if_neg (fun e=>by have:=hS b e;omega)]
theorem LkM.new (h:LkM c B v own sl s w) (n:Nat) {vL vS:Value} {lo st:List KindD} {w2:World} (hb:Below w.heap.size w w2) (oL:OwnK w2 w.heap.size vL lo) (oS:OwnK w2 w.heap.size vS st) (hne:∀b,vL.ownBlock=some b->vS.ownBlock≠some b) (sL:∀k∈lo,k.cls.size<=maxLen) (sS:∀k∈st,k.cls.size<=maxLen):
 LkM c B v (ownN own n vL vS) (slN sl n vL vS) ⟨s.S.set n ⟨true,lo,st⟩,s.A⟩ (((w2.setCell ⟨v.bS,n*3,none⟩ (.bool true)).setCell ⟨v.bS,n*3+1,none⟩ vL).setCell ⟨v.bS,n*3+2,none⟩ vS):=by
 have h2:=h.up hb
 have hSl:=h.lt h.oS
 have hAl:=h.lt h.oA
 have old:∀ {b:Nat},b<w.heap.size->ownN own n vL vS b=own b:=fun hb=>ownN_old (fun b e=>(oL.lt b e).1) (fun b e=>(oS.lt b e).1) hb
 have hset:∀x,x≠v.bS->(((w2.setCell ⟨v.bS,n*3,none⟩ (.bool true)).setCell ⟨v.bS,n*3+1,none⟩ vL).setCell ⟨v.bS,n*3+2,none⟩ vS).heap[x]? =w2.heap[x]? :=fun x hx=>by
  rw [Below.heap_setCell _ _ _ _ hx,Below.heap_setCell _ _ _ _ hx,Below.heap_setCell _ _ _ _ hx]
 have hsz:(((w2.setCell ⟨v.bS,n*3,none⟩ (.bool true)).setCell ⟨v.bS,n*3+1,none⟩ vL).setCell ⟨v.bS,n*3+2,none⟩ vS).heap.size=w2.heap.size:=by simp [World.setCell]
 have hBb:B<=v.bS:=(h.blk _ _ h.oS).1
 refine ⟨by show (List.set _ _ _).length=_;rw [List.length_set];exact h.ls,h.la,by rw [old hSl];exact h.oS,by rw [old hAl];exact h.oA,fun x t e=>?_,fun k hk=>?_,fun k hk=>?_,fun k hk=>?_,fun k hk=>?_⟩
 ·
  by_cases hx:x<w.heap.size
  ·
   rw [old hx]at e
   obtain ⟨g1,cs,ty,g2⟩:=h2.blk x t e
   by_cases hxS:x=v.bS
   ·
    subst hxS
    exact ⟨g1,_,ty,heap_setX (heap_setX (heap_setX g2 _) _) _⟩
   exact ⟨g1,cs,ty,(hset x hxS).trans g2⟩
  refine ⟨by omega,?_⟩
  rw [hset x (by omega)]
  unfold ownN at e
  split at e
  ·
   rename_i e1
   rcases oL.2 with ⟨rfl,-⟩ | ⟨g,cap,cur,rfl,-,hg,-⟩
   ·
    cases e1
   cases e1
   exact ⟨cur,_,hg⟩
  split at e
  ·
   rename_i e1
   rcases oS.2 with ⟨rfl,-⟩ | ⟨g,cap,cur,rfl,-,hg,-⟩
   ·
    cases e1
   cases e1
   exact ⟨cur,_,hg⟩
  exact absurd (h.lt e) hx
 ·
  have hk':k<s.S.length:=by simpa using hk
  obtain ⟨g1,g2,g3⟩:=h2.cS k hk'
  show _=some (Value.bool (s.S.set n _)[k].comes)/\_
  by_cases e:n=k
  ·
   subst e
   rw [List.getElem_set_self]
   unfold slN
   rw [if_pos rfl]
   exact ⟨(World.cell?_setCell_other _ _ _ _ (by simp)).trans ((World.cell?_setCell_other _ _ _ _ (by simp)).trans (World.cell?_setCell_same _ _ _ g1)),(World.cell?_setCell_other _ _ _ _ (by simp)).trans (World.cell?_setCell_same _ _ _ ((World.cell?_setCell_other _ _ _ _ (by simp)).trans g2)),World.cell?_setCell_same _ _ _ ((World.cell?_setCell_other _ _ _ _ (by simp)).trans ((World.cell?_setCell_other _ _ _ _ (by simp)).trans g3))⟩
  rw [List.getElem_set_ne e]
  unfold slN
  rw [if_neg (fun e'=>e e'.symm)]
  have oth:∀j,j<3->(((w2.setCell ⟨v.bS,n*3,none⟩ (.bool true)).setCell ⟨v.bS,n*3+1,none⟩ vL).setCell ⟨v.bS,n*3+2,none⟩ vS).cell? ⟨v.bS,k*3+j,none⟩=w2.cell? ⟨v.bS,k*3+j,none⟩:=fun j hj=>by
   rw [World.cell?_setCell_other _ _ _ _ (by simp<;>omega),World.cell?_setCell_other _ _ _ _ (by simp<;>omega),World.cell?_setCell_other _ _ _ _ (by simp<;>omega)]
  exact ⟨(oth 0 (by omega)).trans g1,(oth 1 (by omega)).trans g2,(oth 2 (by omega)).trans g3⟩
 ·
  exact (World.cell?_of_block (a:=⟨v.bA,k,none⟩) (hset _ (fun e=>h.neSA e.symm))).trans (h2.cA k hk)
 ·
  have hk':k<s.S.length:=by simpa using hk
  show SL 2 RK _ _ _ (s.S.set n _)[k].locals
  by_cases e:n=k
  ·
   subst e
   rw [List.getElem_set_self]
   unfold slN
   rw [if_pos rfl]
   refine ((own_SLK oL sL).keptK ⟨by rw [hsz];exact Nat.le_refl _,fun b hb _=>hset b (by have:=(oL.lt b hb).1;omega)⟩).monoK fun b hb=>?_
   unfold ownN
   rw [if_pos hb]
  rw [List.getElem_set_ne e]
  unfold slN
  rw [if_neg (fun e'=>e e'.symm)]
  refine ((h2.rL k hk').keptK ⟨by rw [hsz];exact Nat.le_refl _,fun b hb _=>hset b (fun e'=>by rw [e',h.oS]at hb;simp at hb)⟩).monoK fun b hb=>?_
  rw [old (h.lt hb)]
  exact hb
 have hk':k<s.S.length:=by simpa using hk
 show SL 2 RK _ _ _ (s.S.set n _)[k].stack
 by_cases e:n=k
 ·
  subst e
  rw [List.getElem_set_self]
  unfold slN
  rw [if_pos rfl]
  refine ((own_SLK oS sS).keptK ⟨by rw [hsz];exact Nat.le_refl _,fun b hb _=>hset b (by have:=(oS.lt b hb).1;omega)⟩).monoK fun b hb=>?_
  unfold ownN
  rw [if_neg (fun e'=>hne b e' hb),if_pos hb]
 rw [List.getElem_set_ne e]
 unfold slN
 rw [if_neg (fun e'=>e e'.symm)]
 refine ((h2.rS k hk').keptK ⟨by rw [hsz];exact Nat.le_refl _,fun b hb _=>hset b (fun e'=>by rw [e',h.oS]at hb;simp at hb)⟩).monoK fun b hb=>?_
 rw [old (h.lt hb)]
 exact hb
end
abbrev Kpo (own:Own) (w w':World):Prop:=Wr (fun b=>own b≠none) w w'
def Inv (c:Lkr) (s:SA):Prop:=∀n (h:n<s.S.length),(s.S[n].comes=true->s.S[n].locals.length=c.m.locals.toNat/\s.S[n].stack.length<=10)/\(∀k∈s.S[n].locals,GdK (Kn c) k)/\(∀k∈s.S[n].stack,GdK (Kn c) k)
def CmOut (c:Lkr) (B:Nat) (v:LkV) (own:Own) (sl:Nat->Value×Value) (s:SA) (res:Option SA) (r:Ending) (w w':World):Prop:=
 Kpo own w w'/\((∃s' own' sl',res=some s'/\r=.returned (.tuple #[])/\(∀b,b<w.heap.size->own' b=own b)/\(∀n (h:n<s.S.length),s.S[n].comes=true->sl' n=sl n)/\LkM c B v own' sl' s' w')\/(res=none/\∃e p,e≠0/\r=.panicked [wrongV e p]))
end Go.Proofs.YtcddpmappmjilaaGreatDoor
namespace Go.Proofs.YtcddpmappmjilaaGreatDoor
open Go.RowKit Go.Maps
theorem st_at {c:Lkr} {s:SA} {n:Nat} (hn:n<s.S.length):c.st s n=s.S[n]:=by unfold Lkr.st;rw [List.getElem?_eq_getElem hn];rfl
theorem come_new {c:Lkr} {s:SA} {n:Nat} {lo st:List KindD} (hn:n<s.S.length) (h0:s.S[n].comes=false):comeD c s n lo st=if decide ((st.length:Int)<=c.m.stack) then some ⟨s.S.set n ⟨true,lo,st⟩,s.A.set n true⟩ else none:=by
 unfold comeD
 rw [st_at hn,h0]
 rfl
theorem come_old {c:Lkr} {s:SA} {n:Nat} {lo st:List KindD} (hn:n<s.S.length) (h0:s.S[n].comes=true):comeD c s n lo st=if decide (s.S[n].stack.length=st.length)&&decide ((st.length:Int)<=c.m.stack) then some ⟨s.S.set n ⟨true,joinL c s.S[n].locals lo,joinL c s.S[n].stack st⟩,if chgL c s.S[n].locals lo||chgL c s.S[n].stack st then s.A.set n true else s.A⟩ else none:=by
 unfold comeD
 rw [st_at hn,h0]
 rfl
theorem Cd_at {c:Lkr} {B P:Nat} {v:LkV} {w:World} (hl:LkW c B P v w) {n:Nat} (hn:n<c.ins.length):w.cell? ⟨v.gI,n*4,none⟩=some (.int .i64 (Cd.get4 c.ins n).loc):=by
 have:=hl.hi.c0 n hn
 rwa [Nat.zero_add]at this
set_option maxRecDepth 100000 in
set_option maxHeartbeats 8000000 in
theorem comeNew_any {c:Lkr} {B P:Nat} {v:LkV} (w:World) (hl:LkW c B P v w) {own:Own} {sl:Nat->Value×Value} {s:SA} (hm:LkM c B v own sl s w) (n:Nat) (hn:n<c.ins.length) (h0:(s.S[n]'(by rw [hm.ls];exact hn)).comes=false) (vL vS:Value) (lo st:List KindD) (M1 M2:Nat->Prop) (hL:SL 2 RK M1 w vL lo) (hS:SL 2 RK M2 w vS st) (hlo:lo.length<=1000) (hst:st.length<=1000):
 Calls Tryz.prog 173 #[.pointer (some ⟨P,0,none⟩),.int .i64 (n:Int),vL,vS] w fun r w'=>CmOut c B v own sl s (comeD c s n lo st) r w w':=by
 have hnS:n<s.S.length:=by rw [hm.ls];exact hn
 have hnA:n<s.A.length:=by rw [hm.la];exact hn
 have HD:=mkHid (come_new (c:=c) (lo:=lo) (st:=st) hnS h0)
 have HL:=mkHid hl
 have HM:=mkHid hm
 have HLo:=mkHid hL
 have HSt:=mkHid hS
 have p11:=cell_of hl.blk 11 (x:=.int .i64 c.m.stack) rfl
 have p15:=cell_of hl.blk 15 (x:=.slice (some ⟨v.gI,0,none⟩) c.ins.length v.cI) rfl
 have p16:=cell_of hl.blk 16 (x:=.slice (some ⟨v.bS,0,none⟩) c.ins.length c.ins.length) rfl
 have i0:=Cd_at hl hn
 obtain ⟨k0,-,-⟩:=hm.cS n hnS
 rw [h0]at k0
 have lP:P<w.heap.size:=lt_of hl.blk
 have lS:v.bS<w.heap.size:=hm.lt hm.oS
 have lI:v.gI<w.heap.size:=hl.hi.lt
 have hn0:(0:Int)<=n:=by omega
 have hn1:(n:Int)<c.ins.length:=by omega
 have hSL:=hS
 obtain ⟨aS,cS,rfl,-,hls,-⟩:=hS
 have hsz:st.length<=9223372036854775807:=by omega
 have H0:=mkHid h0
 clear hSL hls hL h0
 go_enter Tryz.func173,Tryz.ntmps173
 go_wp2_with fail
 refine wp_region_held_drew (S:=fun W'=>∀p:Addr,p.block<w.heap.size->W'.cell? p=w.cell? p) (by kernel_rfl) (fun p hp=>rfl) fun hH=>?_
 refine ta 0 (.pointer (some ⟨P,0,none⟩)) rfl hH ?_
 refine ta 1 (.pointer (some ⟨P,0,none⟩)) rfl hH ?_
 refine ta 2 (.pointer (some ⟨P,16,none⟩)) rfl hH ?_
 refine ta 3 (.slice (some ⟨v.bS,0,none⟩) c.ins.length c.ins.length) rfl hH ?_
 refine ta 4 (.int .i64 (n:Int)) rfl hH ?_
 refine ta 5 (.pointer (some ⟨v.bS,n*3,none⟩)) rfl hH ?_
 refine ta 6 (.pointer (some ⟨P,0,none⟩)) rfl hH ?_
 refine ta 7 (.pointer (some ⟨P,0,none⟩)) rfl hH ?_
 refine ta 8 (.pointer (some ⟨P,15,none⟩)) rfl hH ?_
 refine ta 9 (.slice (some ⟨v.gI,0,none⟩) c.ins.length v.cI) rfl hH ?_
 refine ta 10 (.int .i64 (n:Int)) rfl hH ?_
 refine ta 11 (.pointer (some ⟨v.gI,n*4,none⟩)) rfl hH ?_
 refine ta 12 (.pointer (some ⟨v.gI,n*4,none⟩)) rfl hH ?_
 refine ta 13 (.int .i64 (Cd.get4 c.ins n).loc) rfl hH ?_
 refine ta 14 (.pointer (some ⟨v.bS,n*3,none⟩)) rfl hH ?_
 refine ta 15 (.int .i64 (Cd.get4 c.ins n).loc) rfl hH ?_
 refine wpAnyH_done (by kernel_rfl) ?_ _
 clear hH
 try simp only [Act.put,List.setIfInBounds_toArray,List.set_cons_zero,List.set_cons_succ,List.getElem_toArray,List.getElem_cons_zero,List.getElem_cons_succ]
 go_wp2_with fail
 refine (demandAt_any _ _ _ _).mono ?_
 rintro r w1 ⟨hw1,⟨hb,rfl⟩ | ⟨hb,rfl⟩⟩
 ·
  exact absurd hb (by simp)
 rw [hw1]
 clear hb hw1 w1
 go_wp2_with fail
 refine (demandAt_any _ _ _ _).mono ?_
 rintro r w1 ⟨hw1,⟨hb,rfl⟩ | ⟨hb,rfl⟩⟩
 ·
  refine ⟨rfl,?_⟩
  rw [hw1]
  exact ⟨Wr.of (Below.refl _ _).drew,Or.inr ⟨by rw [HD.out,hb];rfl,2,_,by decide,rfl⟩⟩
 rw [hw1,hb]
 have HOK:=mkHid hb
 clear hb hw1 w1
 go_wp2_with fail
 refine (cloneKK_any w.drew M1 vL lo (HLo.out.keptK (w':=w.drew) ⟨Nat.le_refl _,fun _ _ _=>rfl⟩) (by omega)).mono ?_
 rintro r w2 ⟨hb2,v2,rfl,ho2⟩
 have HB2:Hid (Below w.heap.size w w2):=(Below.refl w.heap.size w).drew.trans hb2
 obtain ⟨a2,c2,rfl⟩:=own_shape ho2
 have HO2:Hid (OwnK w2 w.heap.size (.slice a2 lo.length c2) lo):=ho2
 clear hb2 ho2
 go_wp2_with fail
 refine (cloneKK_any _ M2 _ st (HSt.out.keptK ⟨HB2.out.size,fun b _ hb=>HB2.out.block b hb⟩) (by omega)).mono ?_
 rintro r w3 ⟨hb3,v3,rfl,ho3⟩
 have HB3:Hid (Below w.heap.size w w3):=HB2.out.trans (hb3.mono HB2.out.size)
 obtain ⟨a3,c3,rfl⟩:=own_shape ho3
 have HO3:=mkHid ho3
 have HO2':=mkHid (own_up HO2.out hb3)
 have HNE:Hid (∀b,(Value.slice a2 lo.length c2).ownBlock=some b->(Value.slice a3 st.length c3).ownBlock≠some b):=fun b e e'=>by
  have h1:=(HO2.out.lt b e).2
  have h2:=(ho3.lt b e').1
  omega
 have HM3:=mkHid (HM.out.up HB3.out)
 have HL3:=mkHid (HL.out.below (HB3.out.mono HL.out.bw))
 obtain ⟨j0,j1,j2⟩:=HM3.out.cS n hnS
 obtain ⟨-,csS,tyS,hbS⟩:=HM3.out.blk _ _ HM3.out.oS
 have fz:=frz_of hbS
 have HNW:=mkHid (HM.out.new n HB3.out HO2'.out (own_lower HO3.out HB2.out.size) HNE.out HLo.out.small HSt.out.small)
 have q17:=cell_of HL3.out.blk 17 (x:=.slice (some ⟨v.bA,0,none⟩) c.ins.length c.ins.length) rfl
 have a0:=HM3.out.cA n hnA
 obtain ⟨-,csA,tyA,hbA⟩:=HM3.out.blk _ _ HM3.out.oA
 have fa:=frz_of hbA
 have nSA:=HM.out.neSA
 have nPS:¬P=v.bS:=fun e=>by
  have:=(HM.out.blk _ _ HM.out.oS).1
  have:=HL.out.pB
  omega
 have nPA:¬P=v.bA:=fun e=>by
  have:=(HM.out.blk _ _ HM.out.oA).1
  have:=HL.out.pB
  omega
 clear hb3 ho3 hbS hbA p11 p15 p16 i0 k0
 go_wp2_with fail
 refine bodyPost_ret (results_none rfl _ _ _) rfl ?_
 have oSn:own v.bS≠none:=by rw [HM.out.oS];simp
 have oAn:own v.bA≠none:=by rw [HM.out.oA];simp
 refine ⟨(Wr.of HB3.out).trans ((Wr.set oSn _ _).trans ((Wr.set oSn _ _).trans ((Wr.set oSn _ _).trans (Wr.set oAn _ _)))),Or.inl ⟨_,_,_,by rw [HD.out,HOK.out];rfl,rfl,fun b hb=>ownN_old (fun b e=>(HO2'.out.lt b e).1) (fun b e=>Nat.le_trans HB2.out.size (HO3.out.lt b e).1) hb,fun k hk hc=>?_,HNW.out.mark hnA true⟩⟩
 unfold slN
 rw [if_neg fun e=>?_]
 subst e
 rw [H0.out]at hc
 cases hc
theorem LkM.row1' {c:Lkr} {B:Nat} {v:LkV} {own:Own} {sl:Nat->Value×Value} {S:List StD} {A:List Bool} {w w':World} {n:Nat} {jl s0 st':List KindD} (hn:n<S.length) (h:LkM c B v own sl ⟨S.set n ⟨true,jl,s0⟩,A⟩ w) (hW:Wr (fun b=>own b=some (n,1)) w w') (hS:SL 2 RK (fun b=>own b=some (n,1)) w' (sl n).2 st'):LkM c B v own sl ⟨S.set n ⟨true,jl,st'⟩,A⟩ w':=by
 have h9:=h.row1 (n:=n) (by simpa using hn) hW hS
 have e:(S.set n (⟨true,jl,s0⟩:StD)).set n ⟨(S.set n (⟨true,jl,s0⟩:StD))[n]'(by simpa using hn) |>.comes,(S.set n (⟨true,jl,s0⟩:StD))[n]'(by simpa using hn) |>.locals,st'⟩=S.set n ⟨true,jl,st'⟩:=by
  rw [List.set_set]
  simp
 exact e ▸ h9
theorem LkM.row0' {c:Lkr} {B:Nat} {v:LkV} {own:Own} {sl:Nat->Value×Value} {s:SA} {w w':World} {n:Nat} {jl:List KindD} (hn:n<s.S.length) (h0:s.S[n].comes=true) (h:LkM c B v own sl s w) (hW:Wr (fun b=>own b=some (n,0)) w w') (hS:SL 2 RK (fun b=>own b=some (n,0)) w' (sl n).1 jl):LkM c B v own sl ⟨s.S.set n ⟨true,jl,s.S[n].stack⟩,s.A⟩ w':=by
 have h9:=h.row0 hn hW hS
 rwa [h0]at h9
theorem LkM.rowS {c:Lkr} {B:Nat} {v:LkV} {own:Own} {sl:Nat->Value×Value} {S:List StD} {A:List Bool} {w:World} {n:Nat} {jl s0:List KindD} (hn:n<S.length) (h:LkM c B v own sl ⟨S.set n ⟨true,jl,s0⟩,A⟩ w):SL 2 RK (fun b=>own b=some (n,1)) w (sl n).2 s0:=by
 have:=h.rS n (by simpa using hn)
 simpa using this
theorem wr_kpo {own:Own} {t:Nat×Nat} {w w':World} (h:Wr (fun b=>own b=some t) w w'):Kpo own w w':=h.mono fun b hb=>by rw [hb];simp
set_option maxRecDepth 100000 in
set_option maxHeartbeats 8000000 in
theorem comeOld_any {c:Lkr} {B P:Nat} {v:LkV} (hc:Cls c.d c.L) (w:World) (hl:LkW c B P v w) {own:Own} {sl:Nat->Value×Value} {s:SA} (hm:LkM c B v own sl s w) (n:Nat) (hn:n<c.ins.length) (h0:(s.S[n]'(by rw [hm.ls];exact hn)).comes=true) (vL vS:Value) (lo st:List KindD) (M1 M2:Nat->Prop) (hL:SL 2 RK M1 w vL lo) (hS:SL 2 RK M2 w vS st) (hlo:(s.S[n]'(by rw [hm.ls];exact hn)).locals.length=lo.length) (hl10:lo.length<=1000) (hst:st.length<=1000)
 (hd1:(∀b,own b=some (n,0)->¬M1 b)\/(vL=(sl n).1/\lo=(s.S[n]'(by rw [hm.ls];exact hn)).locals)) (hd2:∀b,M2 b->own b=none) (gk:(∀k∈(s.S[n]'(by rw [hm.ls];exact hn)).locals,GdK (Kn c) k)/\∀k∈(s.S[n]'(by rw [hm.ls];exact hn)).stack,GdK (Kn c) k) (gl:∀k∈lo,GdK (Kn c) k) (gs:∀k∈st,GdK (Kn c) k):
 Calls Tryz.prog 173 #[.pointer (some ⟨P,0,none⟩),.int .i64 (n:Int),vL,vS] w fun r w'=>CmOut c B v own sl s (comeD c s n lo st) r w w':=by
 have hnS:n<s.S.length:=by rw [hm.ls];exact hn
 have hnA:n<s.A.length:=by rw [hm.la];exact hn
 have HD:=mkHid (come_old (c:=c) (lo:=lo) (st:=st) hnS h0)
 have HL:=mkHid hl
 have HM:=mkHid hm
 have HLo:=mkHid hL
 have HSt:=mkHid hS
 have H0:=mkHid h0
 have HGK:=mkHid gk
 have HGL:=mkHid gl
 have HGS:=mkHid gs
 have HLL:=mkHid hlo
 have HD1:=mkHid hd1
 have p11:=cell_of hl.blk 11 (x:=.int .i64 c.m.stack) rfl
 have p15:=cell_of hl.blk 15 (x:=.slice (some ⟨v.gI,0,none⟩) c.ins.length v.cI) rfl
 have p16:=cell_of hl.blk 16 (x:=.slice (some ⟨v.bS,0,none⟩) c.ins.length c.ins.length) rfl
 have p17:=cell_of hl.blk 17 (x:=.slice (some ⟨v.bA,0,none⟩) c.ins.length c.ins.length) rfl
 have i0:=Cd_at hl hn
 obtain ⟨k0,k1,k2⟩:=hm.cS n hnS
 rw [h0]at k0
 obtain ⟨aJ,cJ,eJ,-⟩:=hm.rL n hnS
 obtain ⟨aK,cK,eK,-⟩:=hm.rS n hnS
 have HEJ:=mkHid eJ
 have HEK:=mkHid eK
 rw [eJ]at k1
 rw [eK]at k2
 have lP:P<w.heap.size:=lt_of hl.blk
 have lS:v.bS<w.heap.size:=hm.lt hm.oS
 have lI:v.gI<w.heap.size:=hl.hi.lt
 have hn0:(0:Int)<=n:=by omega
 have hn1:(n:Int)<c.ins.length:=by omega
 obtain ⟨aS,cS,rfl,-⟩:=hS
 have hsz:st.length<=9223372036854775807:=by omega
 have hBW:=hl.bw
 clear hL h0 gk gl gs hlo hd1 eJ eK
 by_cases hq:s.S[n].stack.length=st.length
 rotate_left
 ·
  have HQ:=mkHid hq
  have hqb:(((s.S[n].stack.length:Nat):Int)==((st.length:Nat):Int))=false:=by rw [beq_eq_false_iff_ne];omega
  clear hq
  go_enter Tryz.func173,Tryz.ntmps173
  go_wp2_with fail
  refine wp_region_held_drew (S:=fun W'=>∀p:Addr,p.block<w.heap.size->W'.cell? p=w.cell? p) (by kernel_rfl) (fun p hp=>rfl) fun hH=>?_
  refine ta 0 (.pointer (some ⟨P,0,none⟩)) rfl hH ?_
  refine ta 1 (.pointer (some ⟨P,0,none⟩)) rfl hH ?_
  refine ta 2 (.pointer (some ⟨P,16,none⟩)) rfl hH ?_
  refine ta 3 (.slice (some ⟨v.bS,0,none⟩) c.ins.length c.ins.length) rfl hH ?_
  refine ta 4 (.int .i64 (n:Int)) rfl hH ?_
  refine ta 5 (.pointer (some ⟨v.bS,n*3,none⟩)) rfl hH ?_
  refine ta 6 (.pointer (some ⟨P,0,none⟩)) rfl hH ?_
  refine ta 7 (.pointer (some ⟨P,0,none⟩)) rfl hH ?_
  refine ta 8 (.pointer (some ⟨P,15,none⟩)) rfl hH ?_
  refine ta 9 (.slice (some ⟨v.gI,0,none⟩) c.ins.length v.cI) rfl hH ?_
  refine ta 10 (.int .i64 (n:Int)) rfl hH ?_
  refine ta 11 (.pointer (some ⟨v.gI,n*4,none⟩)) rfl hH ?_
  refine ta 12 (.pointer (some ⟨v.gI,n*4,none⟩)) rfl hH ?_
  refine ta 13 (.int .i64 (Cd.get4 c.ins n).loc) rfl hH ?_
  refine ta 14 (.pointer (some ⟨v.bS,n*3,none⟩)) rfl hH ?_
  refine ta 15 (.int .i64 (Cd.get4 c.ins n).loc) rfl hH ?_
  refine wpAnyH_done (by kernel_rfl) ?_ _
  clear hH
  try simp only [Act.put,List.setIfInBounds_toArray,List.set_cons_zero,List.set_cons_succ,List.getElem_toArray,List.getElem_cons_zero,List.getElem_cons_succ]
  go_wp2_with fail
  refine (demandAt_any _ _ _ _).mono ?_
  rintro r w1 ⟨hw1,⟨hb,rfl⟩ | ⟨hb,rfl⟩⟩
  ·
   refine ⟨rfl,?_⟩
   rw [hw1]
   exact ⟨Wr.of (Below.refl _ _).drew,Or.inr ⟨by rw [HD.out,decide_eq_false HQ.out];rfl,4,_,by decide,rfl⟩⟩
  exact absurd hb (by simp)
 have HQ:=mkHid hq
 have hqb:(((s.S[n].stack.length:Nat):Int)==((st.length:Nat):Int))=true:=by rw [beq_iff_eq];omega
 clear hq
 go_enter Tryz.func173,Tryz.ntmps173
 go_wp2_with fail
 refine wp_region_held_drew (S:=fun W'=>∀p:Addr,p.block<w.heap.size->W'.cell? p=w.cell? p) (by kernel_rfl) (fun p hp=>rfl) fun hH=>?_
 refine ta 0 (.pointer (some ⟨P,0,none⟩)) rfl hH ?_
 refine ta 1 (.pointer (some ⟨P,0,none⟩)) rfl hH ?_
 refine ta 2 (.pointer (some ⟨P,16,none⟩)) rfl hH ?_
 refine ta 3 (.slice (some ⟨v.bS,0,none⟩) c.ins.length c.ins.length) rfl hH ?_
 refine ta 4 (.int .i64 (n:Int)) rfl hH ?_
 refine ta 5 (.pointer (some ⟨v.bS,n*3,none⟩)) rfl hH ?_
 refine ta 6 (.pointer (some ⟨P,0,none⟩)) rfl hH ?_
 refine ta 7 (.pointer (some ⟨P,0,none⟩)) rfl hH ?_
 refine ta 8 (.pointer (some ⟨P,15,none⟩)) rfl hH ?_
 refine ta 9 (.slice (some ⟨v.gI,0,none⟩) c.ins.length v.cI) rfl hH ?_
 refine ta 10 (.int .i64 (n:Int)) rfl hH ?_
 refine ta 11 (.pointer (some ⟨v.gI,n*4,none⟩)) rfl hH ?_
 refine ta 12 (.pointer (some ⟨v.gI,n*4,none⟩)) rfl hH ?_
 refine ta 13 (.int .i64 (Cd.get4 c.ins n).loc) rfl hH ?_
 refine ta 14 (.pointer (some ⟨v.bS,n*3,none⟩)) rfl hH ?_
 refine ta 15 (.int .i64 (Cd.get4 c.ins n).loc) rfl hH ?_
 refine wpAnyH_done (by kernel_rfl) ?_ _
 clear hH
 try simp only [Act.put,List.setIfInBounds_toArray,List.set_cons_zero,List.set_cons_succ,List.getElem_toArray,List.getElem_cons_zero,List.getElem_cons_succ]
 go_wp2_with fail
 refine (demandAt_any _ _ _ _).mono ?_
 rintro r w1 ⟨hw1,⟨hb,rfl⟩ | ⟨hb,rfl⟩⟩
 ·
  exact absurd hb (by simp)
 rw [hw1]
 clear hb hw1 w1
 go_wp2_with fail
 refine (demandAt_any _ _ _ _).mono ?_
 rintro r w1 ⟨hw1,⟨hb,rfl⟩ | ⟨hb,rfl⟩⟩
 ·
  refine ⟨rfl,?_⟩
  rw [hw1]
  exact ⟨Wr.of (Below.refl _ _).drew,Or.inr ⟨by rw [HD.out,hb,Bool.and_false];rfl,2,_,by decide,rfl⟩⟩
 rw [hw1,hb]
 rw [decide_eq_true HQ.out,hb]at HD
 clear hb hw1 w1
 go_wp2_with fail
 have hld:LkW c B P v w.drew:=HL.out.below (Below.refl B w).drew
 have hmd:LkM c B v own sl s w.drew:=HM.out.up (Below.refl _ w).drew
 rw [<-HEJ.out]
 refine (joinInto_any hc w.drew hld (fun b=>own b=some (n,0)) M1 (sl n).1 vL s.S[n].locals lo (hmd.rL n hnS) (HLo.out.keptK ⟨Nat.le_refl _,fun _ _ _=>rfl⟩) HD1.out (fun b hb=>hmd.blk b _ hb) HLL.out (by rw [HLL.out];exact hl10) HGK.out.1 HGL.out).mono ?_
 rintro r w2 ⟨rfl,hW2,hS2⟩
 have HW2:Hid (Kpo own w w2):=(Wr.of (Below.refl _ w).drew).trans (wr_kpo hW2)
 have HM2:=mkHid (hmd.row0' hnS H0.out hW2 hS2)
 have HSt2:Hid (SL 2 RK M2 w2 (.slice aS st.length cS) st):=HSt.out.keptK ⟨hW2.size,fun b hb hbl=>hW2.block b hbl (by rw [hd2 b hb];simp)⟩
 have HL2:=mkHid (HL.out.below (HW2.out.below (fun b hb=>by
  cases e:own b with
  | none=>exact absurd e hb
  | some t=>exact (HM.out.blk b t e).1) hBW))
 have oAn:own v.bA≠none:=by rw [HM.out.oA];simp
 have nPA:¬P=v.bA:=fun e=>by
  have:=(HM.out.blk _ _ HM.out.oA).1
  have:=HL.out.pB
  omega
 have nSA:=HM.out.neSA
 have q17:=cell_of HL2.out.blk 17 (x:=.slice (some ⟨v.bA,0,none⟩) c.ins.length c.ins.length) rfl
 have a0:=HM2.out.cA n hnA
 obtain ⟨-,csA,tyA,hbA⟩:=HM2.out.blk _ _ HM2.out.oA
 have fa:=frz_of hbA
 have m2:w2.cell? ⟨v.bS,n*3+2,none⟩=some (.slice aK s.S[n].stack.length cK):=by
  obtain ⟨-,-,h⟩:=HM2.out.cS n (by simpa using hnS)
  rw [h,HEK.out]
 clear hW2 hS2 hmd hld hbA p11 p15 p16 p17 i0 k0 k1 k2 HD1
 cases hc1:chgL c s.S[n].locals lo with
 | true=>
   rw [hc1]at HD
   have HMK:=mkHid (HM2.out.mark hnA true)
   have HWK:Hid (Kpo own w (w2.setCell ⟨v.bA,n,none⟩ (.bool true))):=HW2.out.trans (Wr.set oAn _ _)
   go_wp2_with fail
   generalize w2.setCell ⟨v.bA,n,none⟩ (.bool true)=W3 at*
   have HL3:=mkHid (HL.out.below (HWK.out.below (fun b hb=>by
    cases e:own b with
    | none=>exact absurd e hb
    | some t=>exact (HM.out.blk b t e).1) hBW))
   have HSt3:Hid (SL 2 RK M2 W3 (.slice aS st.length cS) st):=HSt.out.keptK ⟨HWK.out.size,fun b hb hbl=>HWK.out.block b hbl (by rw [hd2 b hb];simp)⟩
   rw [<-HEK.out]
   refine (joinInto_any hc W3 HL3.out (fun b=>own b=some (n,1)) M2 (sl n).2 _ s.S[n].stack st (LkM.rowS hnS HMK.out) HSt3.out (Or.inl fun b hb h2=>by rw [hd2 b h2]at hb;cases hb) (fun b hb=>HMK.out.blk b _ hb) HQ.out (by rw [HQ.out];exact hst) HGK.out.2 HGS.out).mono ?_
   rintro r w4 ⟨rfl,hW4,hS4⟩
   have HW4:Hid (Kpo own w w4):=HWK.out.trans (wr_kpo hW4)
   have HM4:=mkHid (LkM.row1' hnS HMK.out hW4 hS4)
   have HL4:=mkHid (HL.out.below (HW4.out.below (fun b hb=>by
    cases e:own b with
    | none=>exact absurd e hb
    | some t=>exact (HM.out.blk b t e).1) hBW))
   have b17:=cell_of HL4.out.blk 17 (x:=.slice (some ⟨v.bA,0,none⟩) c.ins.length c.ins.length) rfl
   have b0:=HM4.out.cA n (by first | exact hnA | simpa using hnA)
   obtain ⟨-,csB,tyB,hbB⟩:=HM4.out.blk _ _ HM4.out.oA
   have fb:=frz_of hbB
   clear hW4 hS4 hbB
   cases hc2:chgL c s.S[n].stack st with
   | true=>
     rw [hc2]at HD
     have HMF:=mkHid (HM4.out.mark (n:=n) (by first | exact hnA | simpa using hnA) true)
     go_wp2_with fail
     go_end0
     refine ⟨HW4.out.trans (Wr.set oAn _ _),Or.inl ⟨_,own,sl,HD.out,rfl,fun _ _=>rfl,fun _ _ _=>rfl,?_⟩⟩
     have h9:=HMF.out
     simp only [List.set_set]at h9
     exact h9
   | false=>
     rw [hc2]at HD
     go_wp2_with fail
     go_end0
     exact ⟨HW4.out,Or.inl ⟨_,own,sl,HD.out,rfl,fun _ _=>rfl,fun _ _ _=>rfl,HM4.out⟩⟩
 | false=>
   rw [hc1]at HD
   go_wp2_with fail
   have HL3:=mkHid (HL.out.below (HW2.out.below (fun b hb=>by
    cases e:own b with
    | none=>exact absurd e hb
    | some t=>exact (HM.out.blk b t e).1) hBW))
   have HSt3:Hid (SL 2 RK M2 w2 (.slice aS st.length cS) st):=HSt.out.keptK ⟨HW2.out.size,fun b hb hbl=>HW2.out.block b hbl (by rw [hd2 b hb];simp)⟩
   rw [<-HEK.out]
   refine (joinInto_any hc w2 HL3.out (fun b=>own b=some (n,1)) M2 (sl n).2 _ s.S[n].stack st (LkM.rowS hnS HM2.out) HSt3.out (Or.inl fun b hb h2=>by rw [hd2 b h2]at hb;cases hb) (fun b hb=>HM2.out.blk b _ hb) HQ.out (by rw [HQ.out];exact hst) HGK.out.2 HGS.out).mono ?_
   rintro r w4 ⟨rfl,hW4,hS4⟩
   have HW4:Hid (Kpo own w w4):=HW2.out.trans (wr_kpo hW4)
   have HM4:=mkHid (LkM.row1' hnS HM2.out hW4 hS4)
   have HL4:=mkHid (HL.out.below (HW4.out.below (fun b hb=>by
    cases e:own b with
    | none=>exact absurd e hb
    | some t=>exact (HM.out.blk b t e).1) hBW))
   have b17:=cell_of HL4.out.blk 17 (x:=.slice (some ⟨v.bA,0,none⟩) c.ins.length c.ins.length) rfl
   have b0:=HM4.out.cA n (by first | exact hnA | simpa using hnA)
   obtain ⟨-,csB,tyB,hbB⟩:=HM4.out.blk _ _ HM4.out.oA
   have fb:=frz_of hbB
   clear hW4 hS4 hbB
   cases hc2:chgL c s.S[n].stack st with
   | true=>
     rw [hc2]at HD
     have HMF:=mkHid (HM4.out.mark (n:=n) (by first | exact hnA | simpa using hnA) true)
     go_wp2_with fail
     go_end0
     refine ⟨HW4.out.trans (Wr.set oAn _ _),Or.inl ⟨_,own,sl,HD.out,rfl,fun _ _=>rfl,fun _ _ _=>rfl,?_⟩⟩
     have h9:=HMF.out
     skip
     exact h9
   | false=>
     rw [hc2]at HD
     go_wp2_with fail
     go_end0
     exact ⟨HW4.out,Or.inl ⟨_,own,sl,HD.out,rfl,fun _ _=>rfl,fun _ _ _=>rfl,HM4.out⟩⟩
end Go.Proofs.YtcddpmappmjilaaGreatDoor
namespace Go.Proofs.YtcddpmappmjilaaGreatDoor
open Go.RowKit Go.Maps
theorem LkM.ltN {c:Lkr} {B:Nat} {v:LkV} {own:Own} {sl:Nat->Value×Value} {s:SA} {w:World} (h:LkM c B v own sl s w) {b:Nat} (e:own b≠none):b<w.heap.size:=by
 cases h':own b with
 | none=>exact absurd h' e
 | some t=>exact h.lt h'
theorem LkM.geN {c:Lkr} {B:Nat} {v:LkV} {own:Own} {sl:Nat->Value×Value} {s:SA} {w:World} (h:LkM c B v own sl s w) {b:Nat} (e:own b≠none):B<=b:=by
 cases h':own b with
 | none=>exact absurd h' e
 | some t=>exact (h.blk b t h').1
def Src (own:Own) (sl:Nat->Value×Value) (s:SA) (w:World) (vL:Value) (lo:List KindD):Prop:=
 (∃M,SL 2 RK M w vL lo/\∀b,M b->own b=none/\b<w.heap.size)\/∃i,∃h:i<s.S.length,s.S[i].comes=true/\vL=(sl i).1/\lo=s.S[i].locals
theorem come_any {c:Lkr} {B P:Nat} {v:LkV} (hw:Wf c) (w:World) (hl:LkW c B P v w) {own:Own} {sl:Nat->Value×Value} {s:SA} (hm:LkM c B v own sl s w) (hi:Inv c s) (n:Nat) (hn:n<c.ins.length) (vL vS:Value) (lo st:List KindD) (hL:Src own sl s w vL lo) (M2:Nat->Prop) (hS:SL 2 RK M2 w vS st) (hd2:∀b,M2 b->own b=none) (hlo:lo.length=c.m.locals.toNat) (hst:st.length<=1000) (gl:∀k∈lo,GdK (Kn c) k) (gs:∀k∈st,GdK (Kn c) k):
 Calls Tryz.prog 173 #[.pointer (some ⟨P,0,none⟩),.int .i64 (n:Int),vL,vS] w fun r w'=>CmOut c B v own sl s (comeD c s n lo st) r w w':=by
 have hnS:n<s.S.length:=by rw [hm.ls];exact hn
 have hlo2:lo.length<=1000:=by have:=hw.lc.2;omega
 have hSL:∃M1,SL 2 RK M1 w vL lo/\((∀b,own b=some (n,0)->¬M1 b)\/(vL=(sl n).1/\lo=s.S[n].locals)):=by
  rcases hL with ⟨M,h1,h2⟩ | ⟨i,hI,-,rfl,rfl⟩
  ·
   exact ⟨M,h1,Or.inl fun b hb hM=>by rw [(h2 b hM).1]at hb;cases hb⟩
  by_cases e:i=n
  ·
   subst e
   exact ⟨_,hm.rL i hI,Or.inr ⟨rfl,rfl⟩⟩
  exact ⟨_,hm.rL i hI,Or.inl fun b hb hM=>by rw [hb]at hM;simp at hM;omega⟩
 obtain ⟨M1,h1,h2⟩:=hSL
 cases h0:s.S[n].comes with
 | false=>exact comeNew_any w hl hm n hn h0 vL vS lo st M1 M2 h1 hS hlo2 hst
 | true=>exact comeOld_any hw.cls w hl hm n hn h0 vL vS lo st M1 M2 h1 hS (by rw [((hi n hnS).1 h0).1,hlo]) hlo2 hst h2 hd2 ⟨(hi n hnS).2.1,(hi n hnS).2.2⟩ gl gs
theorem joinL_gd {c:Lkr} (hc:Cls c.d c.L):∀ {a b:List KindD},(∀k∈a,GdK (Kn c) k)->(∀k∈b,GdK (Kn c) k)->∀k∈joinL c a b,GdK (Kn c) k
 | [],b,_,_,k,hk=>by simp [joinL]at hk
 | x::a,[],_,_,k,hk=>by simp [joinL]at hk
 | x::a,y::b,ha,hb,k,hk=>by
   have e:joinL c (x::a) (y::b)=c.join x y::joinL c a b:=by simp [joinL]
   rw [e]at hk
   rcases List.mem_cons.1 hk with rfl | hk
   ·
    exact join_gd hc (ha x (by simp)) (hb y (by simp))
   exact joinL_gd hc (fun k hk=>ha k (by simp [hk])) (fun k hk=>hb k (by simp [hk])) k hk
theorem come_len {c:Lkr} {s s':SA} {n:Nat} {lo st:List KindD} (h:comeD c s n lo st=some s'):s'.S.length=s.S.length/\s'.A.length=s.A.length:=by
 unfold comeD at h
 split at h
 ·
  cases h
  split
  ·
   split<;>simp
  simp
 cases h
theorem come_st {c:Lkr} {s s':SA} {n:Nat} {lo st:List KindD} (hn:n<s.S.length) (h:comeD c s n lo st=some s'):(st.length:Int)<=c.m.stack/\((s.S[n].comes=true/\s.S[n].stack.length=st.length/\s'.S=s.S.set n ⟨true,joinL c s.S[n].locals lo,joinL c s.S[n].stack st⟩)\/(s.S[n].comes=false/\s'.S=s.S.set n ⟨true,lo,st⟩)):=by
 cases h0:s.S[n].comes with
 | true=>
   rw [come_old hn h0]at h
   split at h
   ·
    rename_i hh
    rw [Bool.and_eq_true,decide_eq_true_iff,decide_eq_true_iff]at hh
    cases h
    exact ⟨hh.2,Or.inl ⟨rfl,hh.1,rfl⟩⟩
   cases h
 | false=>
   rw [come_new hn h0]at h
   split at h
   ·
    rename_i hh
    cases h
    exact ⟨of_decide_eq_true hh,Or.inr ⟨rfl,rfl⟩⟩
   cases h
theorem come_inv {c:Lkr} (hw:Wf c) {s s':SA} {n:Nat} {lo st:List KindD} (hn:n<s.S.length) (hi:Inv c s) (hlo:lo.length=c.m.locals.toNat) (gl:∀k∈lo,GdK (Kn c) k) (gs:∀k∈st,GdK (Kn c) k) (h:comeD c s n lo st=some s'):Inv c s':=by
 obtain ⟨h1,h2⟩:=come_st hn h
 have h10:=hw.st.2
 intro k hk
 have hk':k<s.S.length:=by rw [<-(come_len h).1];exact hk
 rcases h2 with ⟨h0,hl,e⟩ | ⟨h0,e⟩
 ·
  by_cases ek:n=k
  ·
   subst ek
   have e1:s'.S[n]=⟨true,joinL c s.S[n].locals lo,joinL c s.S[n].stack st⟩:=by simp [e]
   obtain ⟨i1,i2,i3⟩:=hi n hn
   rw [e1]
   refine ⟨fun _=>⟨?_,?_⟩,joinL_gd hw.cls i2 gl,joinL_gd hw.cls i3 gs⟩
   ·
    show (joinL c s.S[n].locals lo).length=_
    rw [joinL_len (by rw [(i1 h0).1,hlo]),(i1 h0).1]
   show (joinL c s.S[n].stack st).length<=10
   rw [joinL_len hl]
   omega
  have e1:s'.S[k]=s.S[k]:=by simp [e,ek]
  rw [e1]
  exact hi k hk'
 by_cases ek:n=k
 ·
  subst ek
  have e1:s'.S[n]=⟨true,lo,st⟩:=by simp [e]
  rw [e1]
  exact ⟨fun _=>⟨hlo,(by show st.length<=10;omega)⟩,gl,gs⟩
 have e1:s'.S[k]=s.S[k]:=by simp [e,ek]
 rw [e1]
 exact hi k hk'
theorem Src.next {c:Lkr} {B:Nat} {v:LkV} {own own':Own} {sl sl':Nat->Value×Value} {s s':SA} {w w':World} {vL:Value} {lo st:List KindD} {n:Nat} (h:Src own sl s w vL lo) (hn:n<s.S.length) (hc:comeD c s n lo st=some s') (hk:Kpo own w w') (ho:∀b,b<w.heap.size->own' b=own b) (hs:∀n (h:n<s.S.length),s.S[n].comes=true->sl' n=sl n) (_hm:LkM c B v own' sl' s' w'):Src own' sl' s' w' vL lo:=by
 rcases h with ⟨M,h1,h2⟩ | ⟨i,hI,hci,rfl,hlo⟩
 ·
  exact Or.inl ⟨M,h1.keptK ⟨hk.size,fun b hb hbl=>hk.block b hbl (by rw [(h2 b hb).1];simp)⟩,fun b hb=>⟨by rw [ho b (h2 b hb).2];exact (h2 b hb).1,Nat.lt_of_lt_of_le (h2 b hb).2 hk.size⟩⟩
 have hI':i<s'.S.length:=by rw [(come_len hc).1];exact hI
 refine Or.inr ⟨i,hI',?_⟩
 rw [hs i hI hci]
 obtain ⟨-,h2⟩:=come_st hn hc
 rcases h2 with ⟨h0,hl,e⟩ | ⟨h0,e⟩
 ·
  by_cases ek:n=i
  ·
   subst ek
   have e1:s'.S[n]=⟨true,joinL c s.S[n].locals lo,joinL c s.S[n].stack st⟩:=by simp [e]
   rw [e1]
   refine ⟨rfl,rfl,?_⟩
   show lo=joinL c s.S[n].locals lo
   rw [<-hlo,joinL_self]
  have e1:s'.S[i]=s.S[i]:=by simp [e,ek]
  rw [e1]
  exact ⟨hci,rfl,hlo⟩
 have ek:n≠i:=fun ek=>by subst ek;rw [h0]at hci;cases hci
 have e1:s'.S[i]=s.S[i]:=by simp [e,ek]
 rw [e1]
 exact ⟨hci,rfl,hlo⟩
theorem place_lt:∀(l:List Cd.Op4) (x:Int) (k j:Nat),Cd.place l x k=some j->k<=j/\j<k+l.length
 | [],_,_,_,h=>by simp [Cd.place]at h
 | y::l,x,k,j,h=>by
   unfold Cd.place at h
   split at h
   ·
    cases h
    exact ⟨Nat.le_refl _,by simp⟩
   have:=place_lt l x (k+1) j h
   simp
   omega
theorem placeN_nat (l:List Cd.Op4) (x:Int) (hl:0<l.length):∃k:Nat,Cd.placeN l x=k/\k<l.length/\(Cd.placeN l x).toNat=k:=by
 cases h:Cd.place l x 0 with
 | none=>exact ⟨0,by rw [Cd.placeN_none h];rfl,hl,by rw [Cd.placeN_none h];rfl⟩
 | some k=>exact ⟨k,Cd.placeN_some h,by have:=place_lt l x 0 k h;omega,by rw [Cd.placeN_some h];rfl⟩
theorem CmOut.from {c:Lkr} {B:Nat} {v:LkV} {own:Own} {sl:Nat->Value×Value} {s:SA} {res:Option SA} {r:Ending} {w0 w w':World} (h:CmOut c B v own sl s res r w w') (hb:Below w0.heap.size w0 w):CmOut c B v own sl s res r w0 w':=
 ⟨(Wr.of hb).trans h.1,h.2.imp (fun ⟨s',o',l',h1,h2,h3,h4⟩=>⟨s',o',l',h1,h2,fun b hl=>h3 b (Nat.lt_of_lt_of_le hl hb.size),h4⟩) id⟩
set_option maxHeartbeats 2000000 in
theorem comeAt_any {c:Lkr} {B P:Nat} {v:LkV} (hw:Wf c) (w:World) (hl:LkW c B P v w) (h1:0<c.ins.length) {own:Own} {sl:Nat->Value×Value} {s:SA} (hm:LkM c B v own sl s w) (hi:Inv c s) (loc:Int) (vL vS:Value) (lo st:List KindD) (hL:Src own sl s w vL lo) (M2:Nat->Prop) (hS:SL 2 RK M2 w vS st) (hd2:∀b,M2 b->own b=none) (hlo:lo.length=c.m.locals.toNat) (hst:st.length<=1000) (gl:∀k∈lo,GdK (Kn c) k) (gs:∀k∈st,GdK (Kn c) k):
 Calls Tryz.prog 250 #[.pointer (some ⟨P,0,none⟩),.int .i64 loc,vL,vS] w fun r w'=>CmOut c B v own sl s (comeAtD c s loc lo st) r w w':=by
 have p15:=cell_of hl.blk 15 (x:=.slice (some ⟨v.gI,0,none⟩) c.ins.length v.cI) rfl
 have hPL:=Cd.place_any w v.gI 0 v.cI c.ins loc hl.hi (by have:=hw.le;omega) hl.le
 obtain ⟨k,hk,hkl,hkt⟩:=placeN_nat c.ins loc h1
 rw [hk]at hPL
 have HPL:=mkHid hPL
 have HR:Hid (comeAtD c s loc lo st=comeD c s k lo st):=by show _=_;unfold comeAtD;rw [hkt]
 have HC:Hid (∀W,Below w.heap.size w W->Calls Tryz.prog 173 #[.pointer (some ⟨P,0,none⟩),.int .i64 (k:Int),vL,vS] W fun r w'=>CmOut c B v own sl s (comeAtD c s loc lo st) r w w'):=fun W hW=>by
  rw [HR.out]
  refine (come_any hw W (hl.below (hW.mono hl.bw)) (hm.up hW) hi k hkl vL vS lo st ?_ M2 (hS.keptK ⟨hW.size,fun b _ hb=>hW.block b hb⟩) hd2 hlo hst gl gs).mono fun r w' h=>h.from hW
  rcases hL with ⟨M,g1,g2⟩ | g
  ·
   exact Or.inl ⟨M,g1.keptK ⟨hW.size,fun b _ hb=>hW.block b hb⟩,fun b hb=>⟨(g2 b hb).1,Nat.lt_of_lt_of_le (g2 b hb).2 hW.size⟩⟩
  exact Or.inr g
 clear hl hm hi hL hS hd2 gl gs hPL
 go_enter Tryz.func250,Tryz.ntmps250
 go_wp2_with fail
 refine HPL.out.mono ?_
 rintro r w1 ⟨rfl,hb1⟩
 go_wp2_with fail
 refine (HC.out w1 hb1).mono ?_
 rintro r w2 ⟨hk2,⟨s2,o2,l2,g1,rfl,g3⟩ | ⟨g1,e,p,he,rfl⟩⟩
 ·
  go_wp2_with fail
  go_end0
  exact ⟨hk2,Or.inl ⟨s2,o2,l2,g1,rfl,g3⟩⟩
 exact ⟨rfl,hk2,Or.inr ⟨g1,e,p,he,rfl⟩⟩
end Go.Proofs.YtcddpmappmjilaaGreatDoor
namespace Go.Proofs.YtcddpmappmjilaaGreatDoor
open Go.RowKit Go.Maps
theorem kpo_trans {own own1:Own} {w w1 w2:World} (h:Kpo own w w1) (ho:∀b,b<w.heap.size->own1 b=own b) (k:Kpo own1 w1 w2):Kpo own w w2:=
 ⟨k.os.trans h.os,k.tape.trans h.tape,k.output.trans h.output,Nat.le_trans h.size k.size,fun b hb hM=>(k.block b (Nat.lt_of_lt_of_le hb h.size) (by rw [ho b hb];exact hM)).trans (h.block b hb hM),fun b hM he=>by
  obtain ⟨cs,t,e⟩:=he
  exact k.nf b (by rw [ho b (lt_of e)];exact hM) (h.nf b hM ⟨cs,t,e⟩)⟩
theorem one_SLK {W:World} {X t:Nat} {a:KindD} (h:W.heap[X]? =some (.cells #[.int .i64 a.kind,.string a.cls] t (0,0))) (hs:a.cls.size<=maxLen):SL 2 RK (· =X) W (.slice (some ⟨X,0,none⟩) 1 1) [a]:=by
 refine ⟨_,_,rfl,Nat.le_refl _,by unfold maxLen;simp,fun k hk=>?_⟩
 obtain rfl:k=0:=by simpa using hk
 refine ⟨X,0,[.int .i64 a.kind,.string a.cls],rfl,rfl,lt_of h,rfl,fun j hj=>?_,rfl,hs⟩
 match j,hj with
 | 0,_=>exact cell_of h 0 rfl
 | 1,_=>exact cell_of h 1 rfl
structure Cmg (c:Lkr) (B:Nat) (v:LkV) (own:Own) (sl:Nat->Value×Value) (s:SA) (w:World) (own1:Own) (sl1:Nat->Value×Value) (s1:SA) (w1:World):Prop where
 kp:Kpo own w w1
 ox:∀b,b<w.heap.size->own1 b=own b
 sx:∀n (h:n<s.S.length),s.S[n].comes=true->sl1 n=sl n
 cm:∀n (h:n<s.S.length),s.S[n].comes=true->∃h':n<s1.S.length,s1.S[n].comes=true
 lk:LkM c B v own1 sl1 s1 w1
 iv:Inv c s1
theorem Cmg.start {c:Lkr} {B:Nat} {v:LkV} {own:Own} {sl:Nat->Value×Value} {s:SA} {w:World} (h:LkM c B v own sl s w) (hi:Inv c s):Cmg c B v own sl s w own sl s w:=⟨Wr.refl _ _,fun _ _=>rfl,fun _ _ _=>rfl,fun _ h hc=>⟨h,hc⟩,h,hi⟩
theorem Cmg.up {c:Lkr} {B:Nat} {v:LkV} {own own1:Own} {sl sl1:Nat->Value×Value} {s s1:SA} {w w1 w2:World} (h:Cmg c B v own sl s w own1 sl1 s1 w1) (hb:Below w1.heap.size w1 w2):Cmg c B v own sl s w own1 sl1 s1 w2:=
 ⟨h.kp.trans (Wr.of hb),h.ox,h.sx,h.cm,h.lk.up hb,h.iv⟩
theorem come_comes {c:Lkr} {s s':SA} {n:Nat} {lo st:List KindD} (hn:n<s.S.length) (h:comeD c s n lo st=some s'):∀k (hk:k<s.S.length),s.S[k].comes=true->∃h':k<s'.S.length,s'.S[k].comes=true:=fun k hk hc=>by
 have hk':k<s'.S.length:=by rw [(come_len h).1];exact hk
 refine ⟨hk',?_⟩
 obtain ⟨-,h2⟩:=come_st hn h
 rcases h2 with ⟨-,-,e⟩ | ⟨-,e⟩<;>by_cases ek:n=k
 ·
  subst ek;simp [e]
 ·
  simp [e,ek,hc]
 ·
  subst ek;simp [e]
 simp [e,ek,hc]
theorem Cmg.next {c:Lkr} (hw:Wf c) {B:Nat} {v:LkV} {own own1 own2:Own} {sl sl1 sl2:Nat->Value×Value} {s s1 s2:SA} {w w1 w2:World} {n:Nat} {lo st:List KindD} (h:Cmg c B v own sl s w own1 sl1 s1 w1) (hn:n<s1.S.length) (hlo:lo.length=c.m.locals.toNat) (gl:∀k∈lo,GdK (Kn c) k) (gs:∀k∈st,GdK (Kn c) k) (hc:comeD c s1 n lo st=some s2) (hk:Kpo own1 w1 w2) (ho:∀b,b<w1.heap.size->own2 b=own1 b) (hs:∀n (h:n<s1.S.length),s1.S[n].comes=true->sl2 n=sl1 n) (hm:LkM c B v own2 sl2 s2 w2):Cmg c B v own sl s w own2 sl2 s2 w2:=
 ⟨kpo_trans h.kp h.ox hk,fun b hb=>(ho b (Nat.lt_of_lt_of_le hb h.kp.size)).trans (h.ox b hb),fun k hk' hck=>by
  obtain ⟨h1,h2⟩:=h.cm k hk' hck
  exact (hs k h1 h2).trans (h.sx k hk' hck),fun k hk' hck=>by
  obtain ⟨h1,h2⟩:=h.cm k hk' hck
  exact come_comes hn hc k h1 h2,hm,come_inv hw hn h.iv hlo gl gs hc⟩
theorem Cmg.out {c:Lkr} {B:Nat} {v:LkV} {own own1:Own} {sl sl1:Nat->Value×Value} {s s1:SA} {w w1:World} {res:Option SA} (h:Cmg c B v own sl s w own1 sl1 s1 w1) (hr:res=some s1):CmOut c B v own sl s res (.returned (.tuple #[])) w w1:=⟨h.kp,Or.inl ⟨s1,own1,sl1,hr,rfl,h.ox,h.sx,h.lk⟩⟩
theorem Src.up {own:Own} {sl:Nat->Value×Value} {s:SA} {w w':World} {vL:Value} {lo:List KindD} (h:Src own sl s w vL lo) (hb:Below w.heap.size w w'):Src own sl s w' vL lo:=by
 rcases h with ⟨M,g1,g2⟩ | g
 ·
  exact Or.inl ⟨M,g1.keptK ⟨hb.size,fun b _ hl=>hb.block b hl⟩,fun b hM=>⟨(g2 b hM).1,Nat.lt_of_lt_of_le (g2 b hM).2 hb.size⟩⟩
 exact Or.inr g
theorem LkW.kpo {c:Lkr} {B P:Nat} {v:LkV} {own:Own} {sl:Nat->Value×Value} {s:SA} {w w':World} (h:LkW c B P v w) (hm:LkM c B v own sl s w) (hk:Kpo own w w'):LkW c B P v w':=h.below (hk.below (fun _ hb=>hm.geN hb) h.bw)
theorem hands_in {c:Lkr} {loc:Int} {lo:List KindD} {l:List HandD} {k:Nat} (hk:k<l.length) {s:SA} (h:l[k].frm<=loc/\loc<l[k].upto):handsD c loc lo (l.drop k) s=(comeAtD c s l[k].loc lo [⟨3,l[k].cls⟩]).bind (handsD c loc lo (l.drop (k+1))):=by
 rw [List.drop_eq_getElem_cons hk,handsD,decide_eq_true h.1,decide_eq_true h.2]
 rfl
theorem hands_out {c:Lkr} {loc:Int} {lo:List KindD} {l:List HandD} {k:Nat} (hk:k<l.length) {s:SA} (h:¬(l[k].frm<=loc/\loc<l[k].upto)):handsD c loc lo (l.drop k) s=handsD c loc lo (l.drop (k+1)) s:=by
 rw [List.drop_eq_getElem_cons hk,handsD,if_neg]
 rw [Bool.and_eq_true,decide_eq_true_iff,decide_eq_true_iff]
 exact h
set_option maxRecDepth 100000 in
set_option maxHeartbeats 4000000 in
theorem hands_any {c:Lkr} {B P:Nat} {v:LkV} (hw:Wf c) (w:World) (hl:LkW c B P v w) (h1:0<c.ins.length) {own:Own} {sl:Nat->Value×Value} {s:SA} (hm:LkM c B v own sl s w) (hi:Inv c s) (loc:Int) (vL:Value) (lo:List KindD) (hL:Src own sl s w vL lo) (hlo:lo.length=c.m.locals.toNat) (gl:∀k∈lo,GdK (Kn c) k):
 Calls Tryz.prog 248 #[.pointer (some ⟨P,0,none⟩),.int .i64 loc,vL] w fun r w'=>CmOut c B v own sl s (handsD c loc lo c.m.hands s) r w w':=by
 have HL:=mkHid hl
 have HM:=mkHid hm
 have HH:=mkHid hl.hd
 have HGL:=mkHid gl
 have HLO:=mkHid hlo
 have H1:=mkHid h1
 obtain ⟨aH,cH,eH,-,hlH,-⟩:=hl.hd
 have p14:w.cell? ⟨P,14,none⟩=some (.slice aH c.m.hands.length cH):=by rw [<-eH];exact cell_of hl.blk 14 rfl
 rw [eH]at HH
 have hlh:c.m.hands.length<=9223372036854775807:=by unfold maxLen at hlH;omega
 have HI:=mkHid (Cmg.start hm hi)
 have HSR:=mkHid hL
 clear hl hm hL gl hlo h1 hi eH hlH
 go_enter Tryz.func248,Tryz.ntmps248
 go_wp2_with fail
 go_loopw [14] (fun i wr=>∃k:Nat,k<=c.m.hands.length/\i=.int .i64 k/\Hid (∃s1 own1 sl1,handsD c loc lo c.m.hands s=handsD c loc lo (c.m.hands.drop k) s1/\Cmg c B v own sl s w own1 sl1 s1 wr/\Src own1 sl1 s1 wr vL lo)) (fun i _=>c.m.hands.length - (intOf i).toNat)
 case atStart=>exact ⟨0,Nat.zero_le _,rfl,s,own,sl,rfl,HI.out,HSR.out⟩
 case round=>
  rename World=>wr
  obtain ⟨k,hk,rfl,HST⟩:=hrel
  obtain ⟨s1,own1,sl1,heq,hcg,hsr⟩:=HST.out
  have HEQ:=mkHid heq
  have HCG:=mkHid hcg
  have HSC:=mkHid hsr
  have HKP:=mkHid hcg.kp
  have HOX:=mkHid hcg.ox
  have HMR:=mkHid hcg.lk
  have hlr:=HL.out.kpo HM.out hcg.kp
  have HLR:=mkHid hlr
  clear heq hcg hsr HST
  by_cases hlt:k<c.m.hands.length
  ·
   have HHk:Hid (SL 4 RH (· <B) wr (.slice aH c.m.hands.length cH) c.m.hands):=HH.out.keptH (Kp.below (HKP.out.below (fun b hb=>HM.out.geN hb) HL.out.bw))
   obtain ⟨bH,oH,e9,hbH,d0,d1,d2,d3,dsz⟩:=HHk.out.atH k hlt
   subst e9
   have HKN:=mkHid (hw.hk _ (List.getElem_mem hlt))
   have HMT:=mkHid (And.intro hlt (Nat.succ_le_of_lt hlt))
   have HIN:=mkHid (@hands_in c loc lo c.m.hands k hlt s1)
   have HOU:=mkHid (@hands_out c loc lo c.m.hands k hlt s1)
   have h00:(0:Int)<=k:=by omega
   have h01:(k:Int)<c.m.hands.length:=by omega
   generalize c.m.hands[k]=hd at*
   obtain ⟨W1,hW1,hBW1,hs1,kx⟩:=boxes1 wr #[.int .i64 hd.frm,.int .i64 hd.upto,.int .i64 hd.loc,.string hd.cls] 98
   have HB1:=mkHid hBW1
   have x0:=cell_of kx 0 (x:=.int .i64 hd.frm) rfl
   have x1:=cell_of kx 1 (x:=.int .i64 hd.upto) rfl
   have x2:=cell_of kx 2 (x:=.int .i64 hd.loc) rfl
   have x3:=cell_of kx 3 (x:=.string hd.cls) rfl
   by_cases hin:hd.frm<=loc/\loc<hd.upto
   ·
    have HNX:=mkHid (HIN.out hin)
    obtain ⟨hi1,hi2⟩:=hin
    obtain ⟨nP,hnP,hnl,hnt⟩:=placeN_nat c.ins hd.loc H1.out
    have HAT:Hid (comeAtD c s1 hd.loc lo [⟨3,hd.cls⟩]=comeD c s1 nP lo [⟨3,hd.cls⟩]):=by show _=_;unfold comeAtD;rw [hnt]
    have HNL:Hid (nP<s1.S.length):=(by rw [HMR.out.ls];exact hnl:nP<s1.S.length)
    have HGS:Hid (∀k∈ [(⟨3,hd.cls⟩:KindD)],GdK (Kn c) k):=fun x hx=>by
     simp at hx
     rw [hx]
     exact Or.inl ⟨Or.inl rfl,HKN.out⟩
    have HCA:Hid (∀(w4 W:World),Below W1.heap.size W1 W->W1.heap.size<=w4.heap.size->W.heap[w4.heap.size]? =some (.cells #[.int .i64 3,.string hd.cls] 80 (0,0))->W.heap.size=w4.heap.size+1->Calls Tryz.prog 250 #[.pointer (some ⟨P,0,none⟩),.int .i64 hd.loc,vL,.slice (some ⟨w4.heap.size,0,none⟩) 1 1] W fun r w'=>CmOut c B v own1 sl1 s1 (comeAtD c s1 hd.loc lo [⟨3,hd.cls⟩]) r W w'):=fun w4 W hW h4 hx hsz=>by
     have hb:Below wr.heap.size wr W:=hBW1.trans (hW.mono hBW1.size)
     exact (comeAt_any hw W (HLR.out.below (hb.mono HLR.out.bw)) H1.out (HMR.out.up hb) HCG.out.iv hd.loc vL _ lo [⟨3,hd.cls⟩] (HSC.out.up hb) (· =w4.heap.size) (one_SLK hx dsz) (fun b hb'=>by
      subst hb'
      cases e:own1 w4.heap.size with
      | none=>rfl
      | some t=>exact absurd (HMR.out.lt e) (by have:=hBW1.size;omega)) HLO.out (by simp) HGL.out HGS.out)
    have lX:wr.heap.size<W1.heap.size:=by omega
    clear hlr kx HIN HOU
    go_wp2_with fail
    rw [<-hW1]
    clear hW1 d0 d1 d2 d3
    refine wp_region_held_drew (S:=fun W'=>∀p:Addr,p.block=wr.heap.size->W'.cell? p=W1.cell? p) (by kernel_rfl) (fun p hp=>rfl) fun hH=>?_
    refine ta 0 (.pointer (some ⟨P,0,none⟩)) rfl hH ?_
    refine ta 1 (.pointer (some ⟨wr.heap.size,2,none⟩)) rfl hH ?_
    refine ta 2 (.int .i64 hd.loc) rfl hH ?_
    refine ta 3 (vL) rfl hH ?_
    refine ta 4 (.pointer (some ⟨wr.heap.size,3,none⟩)) rfl hH ?_
    refine ta 5 (.string hd.cls) rfl hH ?_
    refine wpAnyH_ready (rs:=[6]) (by kernel_rfl) (by simp) ?_
    refine AllReadyH.cons rfl (fun K6 hK6=>?_) AllReadyH.nil
    go_simp
    refine (object_any _ _).mono ?_
    rintro r w4 ⟨rfl,hb4⟩
    have HB4:Hid (Below W1.heap.size W1 w4):=(Below.refl W1.heap.size W1).drew.trans hb4
    refine hK6.out _ _ (fun p hp=>HB4.out.cell (by rw [hp];exact lX)) fun hH=>?_
    clear hb4
    refine wpAnyH_ready (rs:=[7]) (by kernel_rfl) (by simp) ?_
    refine AllReadyH.cons rfl (fun K7 hK7=>?_) AllReadyH.nil
    go_simp
    have HB5:=mkHid (HB4.out.alloc HB4.out.size (.cells #[.int .i64 3,.string hd.cls] 80))
    have HN5:=mkHid (heap_alloc_new w4 (.cells #[.int .i64 3,.string hd.cls] 80))
    have HS5:Hid ((w4.alloc (.cells #[.int .i64 3,.string hd.cls] 80)).heap.size=w4.heap.size+1):=by show _=_;simp
    refine hK7.out _ _ (fun p hp=>HB5.out.cell (by rw [hp];exact lX)) fun hH=>?_
    refine wpAnyH_ready (rs:=[8]) (by kernel_rfl) (by simp) ?_
    refine AllReadyH.cons rfl (fun K8 hK8=>?_) AllReadyH.nil
    go_simp
    have HUW:Hid (Kpo own1 wr (w4.alloc (.cells #[.int .i64 3,.string hd.cls] 80))):=Wr.of (HB1.out.trans (HB5.out.mono HB1.out.size))
    refine (HCA.out _ _ HB5.out HB4.out.size HN5.out HS5.out).mono ?_
    rintro r w6 ⟨hW6,⟨s6,own6,sl6,hres,rfl,hown6,hsl6,hm6⟩ | ⟨hres,e6,p6,he6,rfl⟩⟩
    rotate_left
    ·
     exact ⟨rfl,kpo_trans HKP.out HOX.out (HUW.out.trans hW6),Or.inr ⟨(HEQ.out.trans (HNX.out.trans (by rw [hres];rfl))),e6,p6,he6,rfl⟩⟩
    have HW6:Hid (Kpo own1 wr w6):=HUW.out.trans hW6
    have HRES:=mkHid hres
    have HOWN:Hid (∀b,b<wr.heap.size->own6 b=own1 b):=fun b hb=>hown6 b (Nat.lt_of_lt_of_le hb HUW.out.size)
    have HSL:=mkHid hsl6
    have HM6:=mkHid hm6
    clear hres hown6 hsl6 hm6
    refine hK8.out _ _ (fun p hp=>(World.cell?_of_block (a:=p) (hW6.block p.block (by rw [hp];have:=HB5.out.size;omega) (by rw [hp];exact fun e=>absurd (HMR.out.ltN e) (by omega)))).trans (HB5.out.cell (by rw [hp];exact lX))) fun hH=>?_
    clear hW6
    refine wpAnyH_done (by kernel_rfl) ?_ _
    clear hH
    try simp only [Act.put,List.setIfInBounds_toArray,List.set_cons_zero,List.set_cons_succ,List.getElem_toArray,List.getElem_cons_zero,List.getElem_cons_succ]
    go_wp2_with fail
    go_roundw
    case rel=>exact ⟨k+1,HMT.out.2,by go_num,s6,own6,sl6,HEQ.out.trans (HNX.out.trans (by rw [HRES.out];rfl)),HCG.out.next hw HNL.out HLO.out HGL.out HGS.out (HAT.out ▸ HRES.out) HW6.out HOWN.out HSL.out HM6.out,HSC.out.next HNL.out (HAT.out ▸ HRES.out) HW6.out HOWN.out HSL.out HM6.out⟩
    case measure=>have hmt9:=HMT.out.1;simp [intOf];omega
   have HNX:=mkHid (HOU.out hin)
   have HUP:=mkHid (And.intro (HCG.out.up hBW1) (HSC.out.up hBW1))
   have hi2:(decide (hd.frm<=loc)&&decide (loc<hd.upto))=false:=by
    rw [Bool.and_eq_false_iff]
    by_cases h:hd.frm<=loc
    ·
     exact Or.inr (decide_eq_false fun h'=>hin ⟨h,h'⟩)
    exact Or.inl (decide_eq_false h)
   clear hlr kx hin HIN HOU hBW1
   by_cases hf:hd.frm<=loc
   ·
    have hf2:¬loc<hd.upto:=fun h=>by simp [hf,h]at hi2
    go_wp2_with fail
    go_roundw
    case rel=>exact ⟨k+1,HMT.out.2,by go_num,s1,own1,sl1,HEQ.out.trans HNX.out,by rw [<-hW1];exact HUP.out.1,by rw [<-hW1];exact HUP.out.2⟩
    case measure=>have hmt9:=HMT.out.1;simp [intOf];omega
   go_wp2_with fail
   go_roundw
   case rel=>exact ⟨k+1,HMT.out.2,by go_num,s1,own1,sl1,HEQ.out.trans HNX.out,by rw [<-hW1];exact HUP.out.1,by rw [<-hW1];exact HUP.out.2⟩
   case measure=>have hmt9:=HMT.out.1;simp [intOf];omega
  have HRS:Hid (handsD c loc lo c.m.hands s=some s1):=by
   show _=_
   rw [HEQ.out,List.drop_of_length_le (by omega)]
   rfl
  have h01:¬(k:Int)<c.m.hands.length:=by omega
  clear hlr
  go_wp2_with fail
  go_end0
  exact HCG.out.out HRS.out
end Go.Proofs.YtcddpmappmjilaaGreatDoor
