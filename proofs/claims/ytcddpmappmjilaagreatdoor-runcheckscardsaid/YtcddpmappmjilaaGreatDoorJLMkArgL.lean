import Derived.Test.YtcddpmappmjilaaGreatDoorJLErrLEq
import Derived.Test.YtcddpmappmjilaaGreatDoorArgC
namespace Go.Proofs.YtcddpmappmjilaaGreatDoor
open Go.RowKit Go.Maps
structure LinkD where
 classes:List ClassD
 supers:List Int
 fields:List (List FieldD)
 names:List (List ByteArray)
 targets:List (List TargD)
structure RLk (M:Nat->Prop) (w:World) (kC kS kF kN kT:Value) (d:LinkD):Prop where
 C:SL 4 RC M w kC d.classes
 S:SL 1 RI M w kS d.supers
 F:SL 1 (RSl 3 RF) M w kF d.fields
 N:SL 1 (RSl 1 RS) M w kN d.names
 T:SL 1 (RSl 2 RT) M w kT d.targets
theorem RLk.kept {M:Nat->Prop} {w w':World} {kC kS kF kN kT:Value} {d:LinkD} (h:RLk M w kC kS kF kN kT d) (hk:Kp M w w'):RLk M w' kC kS kF kN kT d:=
 ⟨h.C.keptC hk,h.S.keptI hk,h.F.keptSl hk fun _ _ h=>h,h.N.keptSl hk fun _ _ h=>h,h.T.keptSl hk fun _ _ h=>h⟩
def makesB (l:List ClassD) (d:LinkD):Bool:=
 eqL sameI ((List.range l.length).map (supAt l)) d.supers&&eqL (eqL sameF) ((List.range l.length).map (fieldsOf l)) d.fields&&
  eqL (eqL sameS) ((List.range l.length).map (namesOf l)) d.names&&eqL (eqL sameT) ((List.range l.length).map (targetsOf l)) d.targets
set_option maxHeartbeats 4000000 in
theorem makes_any (w:World) (B b:Nat) (l:List ClassD) (vC vS vF vN vT vL:Value) (Bm:Nat) (hw:Web B w b l vC vS vF vN vT vL Bm) (kC kS kF kN kT:Value) (d:LinkD) (hk:RLk (· <B) w kC kS kF kN kT d):
 Calls Tryz.prog 81 #[.pointer (some ⟨b,0,none⟩),.agg #[kC,kS,kF,kN,kT]] w fun r w'=>r=.returned (.bool (makesB l d))/\Below w.heap.size w w':=by
 have hb:b<w.heap.size:=Nat.lt_of_lt_of_le hw.bB hw.le
 have c1:=cell_of hw.blk 1 (x:=vS) rfl
 have c2:=cell_of hw.blk 2 (x:=vF) rfl
 have c3:=cell_of hw.blk 3 (x:=vN) rfl
 have c4:=cell_of hw.blk 4 (x:=vT) rfl
 have hB0:Below w.heap.size w (w.alloc (.cells #[kC,kS,kF,kN,kT] 28)):=(Below.refl _ _).alloc (Nat.le_refl _) _
 have HB0:=mkHid hB0
 have hB1:=hB0.mono hw.le
 have hk1:=hk.kept (Kp.below hB1)
 have hw1:=hw.below hB1
 have KD:∀n,Kp (· <B) (w.alloc (.cells #[kC,kS,kF,kN,kT] 28)) ((w.alloc (.cells #[kC,kS,kF,kN,kT] 28)).drewN n):=fun n=>⟨Nat.le_refl _,fun _ _ _=>rfl⟩
 generalize hS:(List.range l.length).map (supAt l)=lS at*
 generalize hF:(List.range l.length).map (fieldsOf l)=lF at*
 generalize hN:(List.range l.length).map (namesOf l)=lN at*
 generalize hT:(List.range l.length).map (targetsOf l)=lT at*
 have sS:SL 1 RI (· <B) _ vS lS:=hS ▸ hw1.sS
 have sF:SL 1 (RSl 3 RF) (· <B) _ vF lF:=hF ▸ hw1.sF
 have sN:SL 1 (RSl 1 RS) (· <B) _ vN lN:=hN ▸ hw1.sN
 have sT:SL 1 (RSl 2 RT) (· <B) _ vT lT:=hT ▸ hw1.sT
 have HM:Hid (makesB l d=(eqL sameI lS d.supers&&eqL (eqL sameF) lF d.fields&&eqL (eqL sameS) lN d.names&&eqL (eqL sameT) lT d.targets)):=by
  show makesB l d=_
  rw [makesB,hS,hF,hN,hT]
 have H1:=mkHid (fun n=>equalI_any _ _ _ _ _ _ _ (sS.keptI (KD n)) (hk1.S.keptI (KD n)))
 have H2:=mkHid (fun n=>equalFs_any _ _ _ _ _ _ _ (sF.keptSl (KD n) fun _ _ h=>h) (hk1.F.keptSl (KD n) fun _ _ h=>h))
 have H3:=mkHid (fun n=>equalSs_any _ _ _ _ _ _ _ (sN.keptSl (KD n) fun _ _ h=>h) (hk1.N.keptSl (KD n) fun _ _ h=>h))
 have H4:=mkHid (fun n=>equalTs_any _ _ _ _ _ _ _ (sT.keptSl (KD n) fun _ _ h=>h) (hk1.T.keptSl (KD n) fun _ _ h=>h))
 clear hw hk hw1 hk1 sS sF sN sT KD hS hF hN hT hB0 hB1
 generalize eqL sameI lS d.supers=e1 at*
 generalize eqL (eqL sameF) lF d.fields=e2 at*
 generalize eqL (eqL sameS) lN d.names=e3 at*
 generalize eqL (eqL sameT) lT d.targets=e4 at*
 cases e1 with
 | false=>
   go_enter Tryz.func81,Tryz.ntmps81
   go_wp2_with fail
   go_quiet (first | (go_at_call 133;exact Calls.quiet_of (H1.out _)) | (go_at_call 134;exact Calls.quiet_of (H2.out _)) | (go_at_call 136;exact Calls.quiet_of (H3.out _)) | (go_at_call 138;exact Calls.quiet_of (H4.out _)))
   go_wp2_with fail
   go_ret
   exact ⟨by rw [HM.out];rfl,below_dn HB0.out _⟩
 | true=>
   cases e2 with
   | false=>
     go_enter Tryz.func81,Tryz.ntmps81
     go_wp2_with fail
     go_quiet (first | (go_at_call 133;exact Calls.quiet_of (H1.out _)) | (go_at_call 134;exact Calls.quiet_of (H2.out _)) | (go_at_call 136;exact Calls.quiet_of (H3.out _)) | (go_at_call 138;exact Calls.quiet_of (H4.out _)))
     go_wp2_with fail
     go_ret
     exact ⟨by rw [HM.out];rfl,below_dn HB0.out _⟩
   | true=>
     cases e3 with
     | false=>
       go_enter Tryz.func81,Tryz.ntmps81
       go_wp2_with fail
       go_quiet (first | (go_at_call 133;exact Calls.quiet_of (H1.out _)) | (go_at_call 134;exact Calls.quiet_of (H2.out _)) | (go_at_call 136;exact Calls.quiet_of (H3.out _)) | (go_at_call 138;exact Calls.quiet_of (H4.out _)))
       go_wp2_with fail
       go_ret
       exact ⟨by rw [HM.out];rfl,below_dn HB0.out _⟩
     | true=>
       go_enter Tryz.func81,Tryz.ntmps81
       go_wp2_with fail
       go_quiet (first | (go_at_call 133;exact Calls.quiet_of (H1.out _)) | (go_at_call 134;exact Calls.quiet_of (H2.out _)) | (go_at_call 136;exact Calls.quiet_of (H3.out _)) | (go_at_call 138;exact Calls.quiet_of (H4.out _)))
       go_wp2_with fail
       go_ret
       exact ⟨by rw [HM.out];rfl,below_dn HB0.out _⟩
end Go.Proofs.YtcddpmappmjilaaGreatDoor
namespace Go.Proofs.YtcddpmappmjilaaGreatDoor
open Go.ChangeShapes Go.WideShapes Go.ChangeAt Go.RowKit Go.Deep
theorem cTarg:Tryz.prog.cellsOf 67=2:=by kernel_rfl
theorem cLk:Tryz.prog.cellsOf 28=5:=by kernel_rfl
theorem cClasses:Tryz.prog.cellsOf 22=1:=by kernel_rfl
theorem cInts:Tryz.prog.cellsOf 23=1:=by kernel_rfl
theorem cStrs:Tryz.prog.cellsOf 56=1:=by kernel_rfl
theorem cTargs:Tryz.prog.cellsOf 57=1:=by kernel_rfl
theorem cFieldss:Tryz.prog.cellsOf 24=1:=by kernel_rfl
theorem cStrss:Tryz.prog.cellsOf 25=1:=by kernel_rfl
theorem cTargss:Tryz.prog.cellsOf 26=1:=by kernel_rfl
theorem len5 {α:Type} {l:List α} (h:l.length=5):∃c0 c1 c2 c3 c4,l= [c0,c1,c2,c3,c4]:=by
 match l,h with
 | [c0,c1,c2,c3,c4],_=>exact ⟨_,_,_,_,_,rfl⟩
theorem int_reads {H:Type} {enc:TypeId×Value->H} {w:World} (fuel:Nat) (cs:List Value) (x:DataW H×List MemPlace) (h:DataW.trod enc Tryz.prog w 0 (fun _=>true) true fuel 3 cs=some x):∃y:Int,RI (· <w.heap.size) w cs y:=by
 obtain ⟨a,ea,_⟩:=DataW.trod_int Tryz.underlying3 h
 exact ⟨a,ea⟩
theorem str_reads {H:Type} {enc:TypeId×Value->H} {w:World} (fuel:Nat) (cs:List Value) (x:DataW H×List MemPlace) (h:DataW.trod enc Tryz.prog w 0 (fun _=>true) true fuel 9 cs=some x):∃y:ByteArray,RS (· <w.heap.size) w cs y:=by
 obtain ⟨s,es,_,hs⟩:=DataW.trod_string Tryz.underlying9 h
 exact ⟨s,es,hs⟩
theorem targ_reads {H:Type} {enc:TypeId×Value->H} {w:World} (fuel:Nat) (cs:List Value) (x:DataW H×List MemPlace) (h:DataW.trod enc Tryz.prog w 0 (fun _=>true) true fuel 67 cs=some x):∃y:TargD,RT (· <w.heap.size) w cs y:=by
 obtain ⟨ys,m,rfl,_,hl,hn,hel⟩:=DataW.trod_struct Tryz.underlying67 h
 rw [cTarg]at hl
 have hn2:ys.length=2:=hn
 clear h
 obtain ⟨c0,c1,rfl⟩:=len2 hl
 have g0:=hel 0 _ rfl
 have g1:=hel 1 _ rfl
 simp [cInt]at g0 g1
 obtain ⟨y0,y1,rfl⟩:=len2 hn2
 obtain ⟨a,ea,_⟩:=DataW.trod_int Tryz.underlying3 g0
 obtain ⟨b,eb,_⟩:=DataW.trod_int Tryz.underlying3 g1
 simp at ea eb
 subst ea eb
 exact ⟨⟨a,b⟩,rfl⟩
theorem row_reads {H:Type} {enc:TypeId×Value->H} {w:World} {α:Type} {n:Nat} {R:(Nat->Prop)->World->List Value->α->Prop} {t e:TypeId} (ht:Tryz.prog.underlying t=some (.slice e)) (hce:Tryz.prog.cellsOf e=n) (hn:0<n)
 (hel:∀(fuel:Nat) (cs:List Value) (x:DataW H×List MemPlace),DataW.trod enc Tryz.prog w 0 (fun _=>true) true fuel e cs=some x->∃y:α,R (· <w.heap.size) w cs y)
 (fuel:Nat) (cs:List Value) (x:DataW H×List MemPlace) (h:DataW.trod enc Tryz.prog w 0 (fun _=>true) true fuel t cs=some x):∃y:List α,RSl n R (· <w.heap.size) w cs y:=by
 have hl:∃v,cs= [v]:=by
  rcases open_slice ht h with ⟨hcs,_⟩ | ⟨a,len,cap,m,n',D,Pl,hcs,_⟩
  ·
   exact ⟨_,hcs⟩
  exact ⟨_,hcs⟩
 obtain ⟨v,rfl⟩:=hl
 obtain ⟨l,hl⟩:=sl_reads ht hce hn hel h
 exact ⟨l,v,rfl,hl⟩
theorem linked_reads {H:Type} {enc:TypeId×Value->H} {w:World} {fuel:Nat} {cs:List Value} {x:DataW H×List MemPlace} (h:DataW.trod enc Tryz.prog w 0 (fun _=>true) true fuel 28 cs=some x):
 ∃kC kS kF kN kT d,cs= [kC,kS,kF,kN,kT]/\RLk (· <w.heap.size) w kC kS kF kN kT d:=by
 obtain ⟨ys,m,rfl,_,hl,hn,hel⟩:=DataW.trod_struct Tryz.underlying28 h
 rw [cLk]at hl
 clear h
 obtain ⟨c0,c1,c2,c3,c4,rfl⟩:=len5 hl
 have g0:=hel 0 _ rfl
 have g1:=hel 1 _ rfl
 have g2:=hel 2 _ rfl
 have g3:=hel 3 _ rfl
 have g4:=hel 4 _ rfl
 simp [cClasses,cInts,cFieldss,cStrss,cTargss]at g0 g1 g2 g3 g4
 have hn2:ys.length=5:=hn
 obtain ⟨y0,y1,y2,y3,y4,rfl⟩:=len5 hn2
 obtain ⟨l0,h0⟩:=classes_reads g0
 obtain ⟨l1,h1⟩:=sl_reads Tryz.underlying23 cInt (by omega) int_reads g1
 obtain ⟨l2,h2⟩:=sl_reads Tryz.underlying24 cFields (by omega) (row_reads Tryz.underlying54 cField (by omega) field_reads) g2
 obtain ⟨l3,h3⟩:=sl_reads Tryz.underlying25 cStrs (by omega) (row_reads Tryz.underlying56 cStr (by omega) str_reads) g3
 obtain ⟨l4,h4⟩:=sl_reads Tryz.underlying26 cTargs (by omega) (row_reads Tryz.underlying57 cTarg (by omega) targ_reads) g4
 exact ⟨_,_,_,_,_,⟨l0,l1,l2,l3,l4⟩,rfl,h0,h1,h2,h3,h4⟩
end Go.Proofs.YtcddpmappmjilaaGreatDoor
