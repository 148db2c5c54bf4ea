import Derived.Test.YtcddpmappmjilaaGreatDoorJLClVmM
namespace Go.Proofs.YtcddpmappmjilaaGreatDoor
open Go.RowKit Go.Maps
structure LkA (c:Lkr) (B P:Nat) (v:LkV) (w:World):Prop where
 blk:w.heap[P]? =some (.cells #[v.kC,v.kS,v.kF,v.kN,v.kT,.map (some v.Bm),.string c.m.name,.bool c.m.static,v.vA,.int .i64 c.m.ret.kind,.string c.m.ret.cls,.int .i64 c.m.stack,.int .i64 c.m.locals,.string c.m.code,v.vH,.slice none 0 0,.slice none 0 0,.slice none 0 0] 236 (0,0))
 pB:B<=P
 kd:Kd B w v.kC v.kS v.kF v.kN v.kT v.Bm c.d
 ag:SL 2 RK (· <B) w v.vA c.m.args
 hd:SL 4 RH (· <B) w v.vH c.m.hands
 gl:GlK w
 bg:6<B
 bw:P+1<=w.heap.size
theorem LkA.below {c:Lkr} {B P:Nat} {v:LkV} {w w':World} (h:LkA c B P v w) (hb:Below (P+1) w w'):LkA c B P v w':=
 have hB:Below B w w':=hb.mono (by have:=h.pB;omega)
 ⟨(hb.block P (by omega)).trans h.blk,h.pB,h.kd.below hB,h.ag.keptK (Kp.below hB),h.hd.keptH (Kp.below hB),h.gl.at hB h.bg,h.bg,Nat.le_trans h.bw hb.size⟩
theorem LkA.bB {c:Lkr} {B P:Nat} {v:LkV} {w:World} (h:LkA c B P v w):B<=w.heap.size:=by
 have:=h.pB
 have:=h.bw
 omega
def FstOut (res:Option (List KindD)) (r:Ending) (w w':World):Prop:=Below w.heap.size w w'/\((∃lo v',res=some lo/\r=.returned v'/\OwnK w' w.heap.size v' lo)\/(res=none/\∃e p,e≠0/\r=.panicked [wrongV e p]))
def fst0 (c:Lkr) (ci:Nat):List KindD:=(if c.m.static then [] else [⟨3,(clsAt c.d.classes ci).name⟩])++c.m.args
theorem first_no {c:Lkr} {ci:Nat} (h:¬((fst0 c ci).length:Int)<=c.m.locals):firstL c.d c.m ci=none:=by
 unfold firstL
 show (if decide (((fst0 c ci).length:Int)<=c.m.locals)=true then _ else _)=_
 rw [if_neg (by rw [decide_eq_false h];decide)]
theorem first_ok {c:Lkr} {ci:Nat} (h:((fst0 c ci).length:Int)<=c.m.locals):firstL c.d c.m ci=some (fst0 c ci++List.replicate (c.m.locals.toNat - (fst0 c ci).length) anyK):=by
 unfold firstL
 show (if decide (((fst0 c ci).length:Int)<=c.m.locals)=true then _ else _)=_
 rw [if_pos (decide_eq_true h)]
 rfl
def lenOf:Value->Nat
 | .slice _ n _=>n
 | _=>0
theorem new_one {W:World} {X t:Nat} {a:KindD} (h:W.heap[X]? =some (.cells #[.int .i64 a.kind,.string a.cls] t (0,0))) (hs:a.cls.size<=maxLen):SL 2 RK (· =X) W (.slice (some ⟨X,0,none⟩) 1 1) [a]:=by
 refine ⟨_,_,rfl,Nat.le_refl _,by unfold maxLen;simp,fun k hk=>?_⟩
 obtain rfl:k=0:=by simpa using hk
 refine ⟨X,0,[.int .i64 a.kind,.string a.cls],rfl,rfl,lt_of h,rfl,fun j hj=>?_,rfl,hs⟩
 match j,hj with
 | 0,_=>exact cell_of h 0 rfl
 | 1,_=>exact cell_of h 1 rfl
set_option maxRecDepth 100000 in
set_option maxHeartbeats 4000000 in
theorem firstLocals_any {c:Lkr} {B P:Nat} {v:LkV} (hlc:c.m.locals<=10) (hag:c.m.args.length<=4) (w:World) (hl:LkA c B P v w) (ci:Nat) (hci:ci<c.d.classes.length):
 Calls Tryz.prog 170 #[.pointer (some ⟨P,0,none⟩),.int .i64 (ci:Int)] w fun r w'=>FstOut (firstL c.d c.m ci) r w w':=by
 have HL:=mkHid hl
 have HAG:=mkHid hl.ag
 obtain ⟨aA,cA,eA,-⟩:=hl.ag
 rw [eA]at HAG
 have p7:=cell_of hl.blk 7 (x:=.bool c.m.static) rfl
 have p8:w.cell? ⟨P,8,none⟩=some (.slice aA c.m.args.length cA):=by rw [<-eA];exact cell_of hl.blk 8 rfl
 have p12:=cell_of hl.blk 12 (x:=.int .i64 c.m.locals) rfl
 have lP:=lt_of hl.blk
 obtain ⟨n9,hn9⟩:∃n9,n9=(fst0 c ci).length:=⟨_,rfl⟩
 have HN9:=mkHid hn9
 have HEA:=mkHid eA
 have hn95:n9<=5:=by
  rw [hn9]
  unfold fst0
  rw [List.length_append]
  split<;>simp<;>omega
 cases hst:c.m.static with
 | true=>
   have HF0:Hid ([]++c.m.args=fst0 c ci):=by show _=_;unfold fst0;rw [hst];rfl
   rw [hst]at p7
   have HBz:Hid (Below w.heap.size w w):=Below.refl _ _
   have HOz:Hid (OwnK w w.heap.size (.slice none 0 0) []):=World.ownsRow_nil _ _ _ _
   clear hl eA hn9 p8 p12
   go_enter Tryz.func170,Tryz.ntmps170
   have HLK:=mkHid (HL.out.below (HBz.out.mono HL.out.bw))
   have r8:w.cell? ⟨P,8,none⟩=some (.slice aA c.m.args.length cA):=(by rw [<-HEA.out];exact cell_of HLK.out.blk 8 rfl)
   have HSA:Hid (SL 2 RK (· <B) w (.slice aA c.m.args.length cA) c.m.args):=HAG.out.keptK (Kp.below (HBz.out.mono HL.out.bB))
   go_wp2_with (at_builtin;refine wpList_append_kinds _ rfl _ _ rfl w.heap.size (.slice none 0 0) ([]) rfl HOz.out (· <B) (.slice aA c.m.args.length cA) c.m.args rfl HSA.out (by simp;omega) HBz.out.size ?_;intro v4 w4 ho4 hg4 hv4;have HB4:Hid (Below w.heap.size w w4):=HBz.out.grown hg4 HBz.out.size (fun k e=>(HOz.out.lt k e).1);have HL4:=mkHid (HL.out.below (HB4.out.mono HL.out.bw));have s12:=cell_of HL4.out.blk 12 (x:=.int .i64 c.m.locals) rfl;rw [show []++c.m.args=fst0 c ci from HF0.out]at ho4;have HO4:=mkHid ho4;obtain ⟨a4,c4,e4⟩:=own_shape ho4;rw [<-HN9.out]at e4;subst e4;clear ho4 hg4 hv4)
   refine (demand_any _ _ _).mono ?_
   rintro r w5 ⟨hw5,⟨hb,rfl⟩ | ⟨hb,rfl⟩⟩
   ·
    have hno:¬((fst0 c ci).length:Int)<=c.m.locals:=by rw [<-HN9.out];exact of_decide_eq_false hb
    exact ⟨rfl,by rw [hw5];exact HB4.out,Or.inr ⟨first_no hno,3,0,by decide,rfl⟩⟩
   rw [hw5]
   have HYES:=mkHid (of_decide_eq_true hb)
   clear hb hw5 w5 s12
   go_wp2_with fail
   go_loopw [5] (fun v5 wr=>∃(k:Nat) (a5:Option Addr) (c5:Nat),v5=.slice a5 (n9+k) c5/\Hid (n9+k<=c.m.locals.toNat/\Below w.heap.size w wr/\OwnK wr w.heap.size (.slice a5 (n9+k) c5) (fst0 c ci++List.replicate k anyK))) (fun v5 _=>c.m.locals.toNat - lenOf v5)
   case atStart=>exact ⟨0,a4,c4,by rw [Nat.add_zero],by have:=HYES.out;omega,HB4.out,by rw [Nat.add_zero,List.replicate_zero,List.append_nil];exact HO4.out⟩
   case round=>
    rename World=>wr
    obtain ⟨k,a5,c5,rfl,HST⟩:=hrel
    have HLr:=mkHid (HL.out.below (HST.out.2.1.mono HL.out.bw))
    have t12:=cell_of HLr.out.blk 12 (x:=.int .i64 c.m.locals) rfl
    have hle:=HST.out.1
    by_cases hlt:n9+k<c.m.locals.toNat
    ·
     obtain ⟨-,-,g0,g1,-⟩:=HLr.out.gl
     have h01:((n9+k:Nat):Int)<c.m.locals:=by omega
     have HLEN:Hid (n9+k=(fst0 c ci++List.replicate k anyK).length):=by show _=_;rw [List.length_append,List.length_replicate,<-HN9.out]
     have HBX:=mkHid (HST.out.2.1.alloc HST.out.2.1.size (.cells #[.int .i64 6,.string noNm] 80))
     have HSX:=mkHid (new_one (a:=anyK) (heap_alloc_new wr (.cells #[.int .i64 6,.string noNm] 80)) (Nat.zero_le _))
     have HOX:=mkHid (own_up HST.out.2.2 ((Below.refl wr.heap.size wr).alloc (Nat.le_refl _) (.cells #[.int .i64 6,.string noNm] 80)))
     have HNX:Hid (n9+(k+1)=(fst0 c ci++List.replicate k anyK++ [anyK]).length):=by show _=_;rw [List.length_append,<-HLEN.out];rfl
     have HMT:=mkHid (And.intro hlt (Nat.succ_le_of_lt hlt))
     have hlc3:n9+k+1<=1000000:=by omega
     go_wp2_with (at_builtin;refine wpList_append_kinds _ rfl _ _ rfl w.heap.size (.slice a5 (n9+k) c5) (fst0 c ci++List.replicate k anyK) rfl HOX.out (· =wr.heap.size) (.slice (some ⟨wr.heap.size,0,none⟩) 1 1) [anyK] rfl HSX.out (by rw [<-HLEN.out];exact hlc3) HBX.out.size ?_;intro v7 w7 ho7 hg7 hv7;have HB7:Hid (Below w.heap.size w w7):=HBX.out.grown hg7 HBX.out.size (fun k e=>(HOX.out.lt k e).1);have HO7:=mkHid ho7;obtain ⟨a7,c7,e7⟩:=own_shape ho7;rw [<-HNX.out]at e7;subst e7;clear ho7 hg7 hv7)
     go_roundw
     case rel=>exact ⟨k+1,a7,c7,rfl,by have:=HMT.out.2;omega,HB7.out,by have h9:=HO7.out;rw [List.append_assoc,<-List.replicate_succ']at h9;exact h9⟩
     case measure=>have hm9:=HMT.out.1;simp [lenOf];omega
    have h01:¬((n9+k:Nat):Int)<c.m.locals:=by omega
    have HFN:Hid (firstL c.d c.m ci=some (fst0 c ci++List.replicate k anyK)):=by
     have h9:=HYES.out
     show _=_
     rw [first_ok (by rw [<-HN9.out];exact h9),<-HN9.out,show c.m.locals.toNat - n9=k by omega]
    go_wp2_with fail
    go_ret
    exact ⟨HST.out.2.1,Or.inl ⟨_,_,HFN.out,rfl,HST.out.2.2⟩⟩
 | false=>
   have HF0:Hid ([⟨3,(clsAt c.d.classes ci).name⟩]++c.m.args=fst0 c ci):=by show _=_;unfold fst0;rw [hst];rfl
   rw [hst]at p7
   rw [clsAt_eq hci]at HF0
   have hC:=hl.kd.lk.C
   obtain ⟨aC,cC,eC,-⟩:=hl.kd.lk.C
   rw [eC]at hC
   obtain ⟨bC,oC,vf,vm,e9,hbC,k0,-,-,-,-,-,hnsz,-⟩:=hC.atC ci hci
   subst e9
   have p0:w.cell? ⟨P,0,none⟩=some (.slice (some ⟨bC,oC,none⟩) c.d.classes.length cC):=by rw [<-eC];exact cell_of hl.blk 0 rfl
   have h00:(0:Int)<=ci:=by omega
   have h01:(ci:Int)<c.d.classes.length:=by omega
   have HNS:=mkHid hnsz
   generalize c.d.classes[ci].name=nm at*
   clear hl eA hn9 p8 p12 hC eC hbC hnsz
   go_enter Tryz.func170,Tryz.ntmps170
   go_wp2_with fail
   refine (object_any _ _).mono ?_
   rintro r w1 ⟨rfl,hb1⟩
   have HBX:=mkHid (hb1.alloc hb1.size (.cells #[.int .i64 3,.string nm] 80))
   have HSX:=mkHid (new_one (a:=⟨3,nm⟩) (heap_alloc_new w1 (.cells #[.int .i64 3,.string nm] 80)) HNS.out)
   clear hb1 p7 p0 k0
   go_wp2_with (first | (at_builtin;refine wpList_append_kinds _ rfl _ _ rfl w.heap.size (.slice none 0 0) [] rfl (World.ownsRow_nil _ _ _ _) (· =w1.heap.size) (.slice (some ⟨w1.heap.size,0,none⟩) 1 1) [⟨3,nm⟩] rfl HSX.out (by simp) HBX.out.size ?_;intro v2 w2 ho2 hg2 hv2;have HBz:Hid (Below w.heap.size w w2):=HBX.out.grown hg2 HBX.out.size (fun k e=>by simp [Value.ownBlock]at e);have HOz:Hid (OwnK w2 w.heap.size v2 [⟨3,nm⟩]):=ho2;obtain ⟨a2,c2,e2⟩:∃a2 c2,v2=.slice a2 1 c2:=own_shape HOz.out;subst e2;clear ho2 hg2 hv2;have HLK:=mkHid (HL.out.below (HBz.out.mono HL.out.bw));have r8:w2.cell? ⟨P,8,none⟩=some (.slice aA c.m.args.length cA):=(by rw [<-HEA.out];exact cell_of HLK.out.blk 8 rfl);have HSA:Hid (SL 2 RK (· <B) w2 (.slice aA c.m.args.length cA) c.m.args):=HAG.out.keptK (Kp.below (HBz.out.mono HL.out.bB))) | (at_builtin;refine wpList_append_kinds _ rfl _ _ rfl w.heap.size (.slice a2 1 c2) ([⟨3,nm⟩]) rfl HOz.out (· <B) (.slice aA c.m.args.length cA) c.m.args rfl HSA.out (by simp;omega) HBz.out.size ?_;intro v4 w4 ho4 hg4 hv4;have HB4:Hid (Below w.heap.size w w4):=HBz.out.grown hg4 HBz.out.size (fun k e=>(HOz.out.lt k e).1);have HL4:=mkHid (HL.out.below (HB4.out.mono HL.out.bw));have s12:=cell_of HL4.out.blk 12 (x:=.int .i64 c.m.locals) rfl;rw [show [⟨3,nm⟩]++c.m.args=fst0 c ci from HF0.out]at ho4;have HO4:=mkHid ho4;obtain ⟨a4,c4,e4⟩:=own_shape ho4;rw [<-HN9.out]at e4;subst e4;clear ho4 hg4 hv4))
   refine (demand_any _ _ _).mono ?_
   rintro r w5 ⟨hw5,⟨hb,rfl⟩ | ⟨hb,rfl⟩⟩
   ·
    have hno:¬((fst0 c ci).length:Int)<=c.m.locals:=by rw [<-HN9.out];exact of_decide_eq_false hb
    exact ⟨rfl,by rw [hw5];exact HB4.out,Or.inr ⟨first_no hno,3,0,by decide,rfl⟩⟩
   rw [hw5]
   have HYES:=mkHid (of_decide_eq_true hb)
   clear hb hw5 w5 s12
   go_wp2_with fail
   go_loopw [5] (fun v5 wr=>∃(k:Nat) (a5:Option Addr) (c5:Nat),v5=.slice a5 (n9+k) c5/\Hid (n9+k<=c.m.locals.toNat/\Below w.heap.size w wr/\OwnK wr w.heap.size (.slice a5 (n9+k) c5) (fst0 c ci++List.replicate k anyK))) (fun v5 _=>c.m.locals.toNat - lenOf v5)
   case atStart=>exact ⟨0,a4,c4,by rw [Nat.add_zero],by have:=HYES.out;omega,HB4.out,by rw [Nat.add_zero,List.replicate_zero,List.append_nil];exact HO4.out⟩
   case round=>
    rename World=>wr
    obtain ⟨k,a5,c5,rfl,HST⟩:=hrel
    have HLr:=mkHid (HL.out.below (HST.out.2.1.mono HL.out.bw))
    have t12:=cell_of HLr.out.blk 12 (x:=.int .i64 c.m.locals) rfl
    have hle:=HST.out.1
    by_cases hlt:n9+k<c.m.locals.toNat
    ·
     obtain ⟨-,-,g0,g1,-⟩:=HLr.out.gl
     have h01:((n9+k:Nat):Int)<c.m.locals:=by omega
     have HLEN:Hid (n9+k=(fst0 c ci++List.replicate k anyK).length):=by show _=_;rw [List.length_append,List.length_replicate,<-HN9.out]
     have HBX:=mkHid (HST.out.2.1.alloc HST.out.2.1.size (.cells #[.int .i64 6,.string noNm] 80))
     have HSX:=mkHid (new_one (a:=anyK) (heap_alloc_new wr (.cells #[.int .i64 6,.string noNm] 80)) (Nat.zero_le _))
     have HOX:=mkHid (own_up HST.out.2.2 ((Below.refl wr.heap.size wr).alloc (Nat.le_refl _) (.cells #[.int .i64 6,.string noNm] 80)))
     have HNX:Hid (n9+(k+1)=(fst0 c ci++List.replicate k anyK++ [anyK]).length):=by show _=_;rw [List.length_append,<-HLEN.out];rfl
     have HMT:=mkHid (And.intro hlt (Nat.succ_le_of_lt hlt))
     have hlc3:n9+k+1<=1000000:=by omega
     go_wp2_with (at_builtin;refine wpList_append_kinds _ rfl _ _ rfl w.heap.size (.slice a5 (n9+k) c5) (fst0 c ci++List.replicate k anyK) rfl HOX.out (· =wr.heap.size) (.slice (some ⟨wr.heap.size,0,none⟩) 1 1) [anyK] rfl HSX.out (by rw [<-HLEN.out];exact hlc3) HBX.out.size ?_;intro v7 w7 ho7 hg7 hv7;have HB7:Hid (Below w.heap.size w w7):=HBX.out.grown hg7 HBX.out.size (fun k e=>(HOX.out.lt k e).1);have HO7:=mkHid ho7;obtain ⟨a7,c7,e7⟩:=own_shape ho7;rw [<-HNX.out]at e7;subst e7;clear ho7 hg7 hv7)
     go_roundw
     case rel=>exact ⟨k+1,a7,c7,rfl,by have:=HMT.out.2;omega,HB7.out,by have h9:=HO7.out;rw [List.append_assoc,<-List.replicate_succ']at h9;exact h9⟩
     case measure=>have hm9:=HMT.out.1;simp [lenOf];omega
    have h01:¬((n9+k:Nat):Int)<c.m.locals:=by omega
    have HFN:Hid (firstL c.d c.m ci=some (fst0 c ci++List.replicate k anyK)):=by
     have h9:=HYES.out
     show _=_
     rw [first_ok (by rw [<-HN9.out];exact h9),<-HN9.out,show c.m.locals.toNat - n9=k by omega]
    go_wp2_with fail
    go_ret
    exact ⟨HST.out.2.1,Or.inl ⟨_,_,HFN.out,rfl,HST.out.2.2⟩⟩
end Go.Proofs.YtcddpmappmjilaaGreatDoor
