import Derived.Test.YtjdnmblggdobgaaGreatJMemChkMeth
import Derived.Test.YtjdnmblggdobgaaGreatJTk2Dies
set_option maxHeartbeats 4000000
namespace Go.Proofs.YtjdnmblggdobgaaGreat
open Go.RowKit
theorem zby {f:FieldD} (h:isNameB f.name=false):checkField f=1:=by rw [checkField,h,zaq]
theorem zbz {f:FieldD} (h:isNameB f.name=true) (h2:rightB f.kind=false):checkField f=7:=by rw [checkField,h,zap,h2,zaq]
theorem zb0 {f:FieldD} (h:isNameB f.name=true) (h2:rightB f.kind=true):checkField f=0:=by rw [checkField,h,zap,h2,zap]
theorem zb1 (w:World) (B:Nat) (c:ClassD) (vf vm:Value) (hf:SL 3 RF (· <B) w vf c.fields) (hm:SL 9 RM (· <B) w vm c.meths) (hB:B<=w.heap.size) (hs1:c.name.size<=maxLen) (hs2:c.super.size<=maxLen):
 Calls Tryz.prog 232 #[.agg #[.string c.name,.string c.super,vf,vm]] w fun r w'=>ChkOut (checkClass c) r/\Below w.heap.size w w':=by
 obtain ⟨name,super,fields,meths⟩:=c
 dsimp only at*
 have HF:=mk0 hf
 have HM:=mk0 hm
 obtain ⟨fo,cf,rfl,hcf,hlf,_⟩:=hf
 obtain ⟨mo,cm,rfl,hcm,hlm,_⟩:=hm
 unfold maxLen at hlf hlm
 have e0:=size0 super
 have HX0:Hid (checkClass ⟨name,super,fields,meths⟩=dem (isNameB name) 1 (dem (decide (super.size=0)||isNameB super) 1 (dem (decide (fields.length<=6)) 2 (dem (decide (meths.length<=8)) 2 (thenE (allE checkField fields) (allE checkMeth meths)))))):=rfl
 generalize checkClass ⟨name,super,fields,meths⟩=X at*
 go_enter Tryz.func232,Tryz.ntmps232
 go_wp2_with fail
 generalize hW:w.alloc (.cells #[.string name,.string super,.slice fo fields.length cf,.slice mo meths.length cm] 162)=W0
 have hz:W0.heap.size=w.heap.size+1:=by rw [<-hW];simp
 have hB0:Below w.heap.size w W0:=by rw [<-hW];exact (Below.refl w.heap.size w).alloc (Nat.le_refl _) _
 have c0:W0.cell? ⟨w.heap.size,0,none⟩=some (.string name):=by rw [<-hW];simp [go_sem]
 have c1:W0.cell? ⟨w.heap.size,1,none⟩=some (.string super):=by rw [<-hW];simp [go_sem]
 have c2:W0.cell? ⟨w.heap.size,2,none⟩=some (.slice fo fields.length cf):=by rw [<-hW];simp [go_sem]
 have c3:W0.cell? ⟨w.heap.size,3,none⟩=some (.slice mo meths.length cm):=by rw [<-hW];simp [go_sem]
 clear hW
 refine (zbl _ _ hs1).mono ?_
 rintro r w1 ⟨rfl,rfl⟩
 go_wp2_with fail
 refine (dm0 _ _ _).mono ?_
 rintro r w1 ⟨rfl,⟨hb,rfl⟩ | ⟨hb,rfl⟩⟩
 ·
  exact ⟨rfl,zbq (by rw [HX0.out,hb,zaq]) (by decide),hB0⟩
 have HX1:=mk0 (HX0.out.trans (by rw [hb,zap]))
 clear hb HX0
 by_cases hq:super.size=0
 ·
  have HX2:=mk0 (HX1.out.trans (by rw [decide_eq_true hq,Bool.true_or,zap]))
  have e1:super.toList.isEmpty=true:=by rw [e0,decide_eq_true hq]
  clear HX1 hq e0
  go_wp2_with fail
  refine (dm0 _ _ _).mono ?_
  rintro r w1 ⟨rfl,⟨hb,rfl⟩ | ⟨hb,rfl⟩⟩
  ·
   cases hb
  clear hb
  by_cases hq:fields.length<=6
  rotate_left
  ·
   have hq':¬(fields.length:Int)<=6:=by omega
   go_wp2_with fail
   refine (dm0 _ _ _).mono ?_
   rintro r w1 ⟨rfl,⟨hb,rfl⟩ | ⟨hb,rfl⟩⟩
   ·
    exact ⟨rfl,zbq (by rw [HX2.out,decide_eq_false hq,zaq]) (by decide),hB0⟩
   exact absurd hb (by first | (simp;done) | (simp;omega))
  have hq3:(fields.length:Int)<=6:=by omega
  have HX3:=mk0 (HX2.out.trans (by rw [decide_eq_true hq,zap]))
  clear hq HX2
  go_wp2_with fail
  refine (dm0 _ _ _).mono ?_
  rintro r w1 ⟨rfl,⟨hb,rfl⟩ | ⟨hb,rfl⟩⟩
  ·
   exact absurd hb (by simp)
  clear hb
  by_cases hq:meths.length<=8
  rotate_left
  ·
   have hq':¬(meths.length:Int)<=8:=by omega
   go_wp2_with fail
   refine (dm0 _ _ _).mono ?_
   rintro r w1 ⟨rfl,⟨hb,rfl⟩ | ⟨hb,rfl⟩⟩
   ·
    exact ⟨rfl,zbq (by rw [HX3.out,decide_eq_false hq,zaq]) (by decide),hB0⟩
   exact absurd hb (by first | (simp;done) | (simp;omega))
  have hq4:(meths.length:Int)<=8:=by omega
  have HX4:=mk0 (HX3.out.trans (by rw [decide_eq_true hq,zap]))
  clear hq HX3
  go_wp2_with fail
  refine (dm0 _ _ _).mono ?_
  rintro r w1 ⟨rfl,⟨hb,rfl⟩ | ⟨hb,rfl⟩⟩
  ·
   exact absurd hb (by simp)
  clear hb
  go_wp2_with fail
  go_loopw [32] (fun i wr=>∃k:Nat,k<=fields.length/\i=.int .i64 k/\Hid (allE checkField (fields.drop k)=allE checkField fields)/\Below (w.heap.size+1) w1 wr) (fun i _=>fields.length - (intOf i).toNat)
  case atStart=>exact ⟨0,Nat.zero_le _,rfl,rfl,Below.refl _ _⟩
  case round=>
   obtain ⟨k,hk,rfl,HP,hBr⟩:=hrel
   have hsz:w.heap.size+1<=wr.heap.size:=by have:=hBr.size;omega
   by_cases hlt:k<fields.length
   ·
    obtain ⟨b,off,rfl,hbl,e0,e1,e2,es,es2⟩:=(HF.out.keptF (Kp.below ((hB0.trans (hBr.mono (by omega))).mono hB))).atF k hlt
    have hBa:=hBr.alloc hsz (.cells #[.string fields[k].name,.int .i64 fields[k].kind.kind,.string fields[k].kind.cls] 125)
    go_wp2_with fail
    refine (zbl _ fields[k].name es).mono ?_
    rintro r w2 ⟨rfl,rfl⟩
    go_wp2_with fail
    refine (dm0 _ _ _).mono ?_
    rintro r w3 ⟨rfl,⟨hb,rfl⟩ | ⟨hb,rfl⟩⟩
    ·
     refine ⟨rfl,zbq (e:=1) ?_ (by decide),hB0.trans (hBa.mono (by omega))⟩
     rw [HX4.out,<-HP.out,zar hlt (by rw [zby hb];decide),zby hb,zbw (by decide)]
    have HB1:=mk0 hb
    clear hb
    go_wp2_with fail
    refine (zbo _ fields[k].kind es2).mono ?_
    rintro r w2 ⟨rfl,hb2⟩
    have hBs:=hBa.trans (hb2.mono (by simp;omega))
    clear hb2 hBa e0 e1 e2
    go_wp2_with fail
    refine (dm0 _ _ _).mono ?_
    rintro r w3 ⟨rfl,⟨hb,rfl⟩ | ⟨hb,rfl⟩⟩
    ·
     refine ⟨rfl,zbq (e:=7) ?_ (by decide),hB0.trans (hBs.mono (by omega))⟩
     rw [HX4.out,<-HP.out,zar hlt (by rw [zbz HB1.out hb];decide),zbz HB1.out hb,zbw (by decide)]
    have HB:=mk0 (zb0 HB1.out hb)
    clear hb
    go_wp2_with fail
    go_roundw
    case rel=>exact ⟨k+1,by omega,by go_num,(zas hlt HB.out).symm.trans HP.out,hBs⟩
    case measure=>simp [intOf];omega
   have HX5:=mk0 (HX4.out.trans (by rw [<-HP.out,zat hlt,zbv]))
   have d3:=(hBr.cell (p:=⟨w.heap.size,3,none⟩) (by simp)).trans c3
   clear HP HX4
   have hBs:=hBr
   clear hBr
   go_wp2_with fail
   go_loopw [48] (fun i wr=>∃k:Nat,k<=meths.length/\i=.int .i64 k/\Hid (allE checkMeth (meths.drop k)=allE checkMeth meths)/\Below (w.heap.size+1) w1 wr) (fun i _=>meths.length - (intOf i).toNat)
   case atStart=>exact ⟨0,Nat.zero_le _,rfl,rfl,hBs⟩
   case round=>
    obtain ⟨k,hk,rfl,HP,hBr⟩:=hrel
    have hsz:w.heap.size+1<=wr.heap.size:=by have:=hBr.size;omega
    by_cases hlt:k<meths.length
    ·
     have hBw:Below w.heap.size w wr:=hB0.trans (hBr.mono (by omega))
     obtain ⟨b,off,va,vh,rfl,hbl,e0,e1,e2,e3,e4,e5,e6,e7,e8,ea,eh,es1,es2,es3⟩:=(HM.out.keptM (Kp.below (hBw.mono hB))).atM k hlt
     have hBa:=fun t=>hBr.alloc hsz (.cells #[.string meths[k].name,.bool meths[k].static,va,.int .i64 meths[k].ret.kind,.string meths[k].ret.cls,.int .i64 meths[k].stack,.int .i64 meths[k].locals,.string meths[k].code,vh] t)
     have HBA:=mk0 hBa
     have EA:=mk0 ea
     have EH:=mk0 eh
     obtain ⟨ao,ca,rfl,_⟩:=ea
     obtain ⟨ho,ch,rfl,_⟩:=eh
     clear hBa
     go_wp2_with fail
     refine (zbx _ B meths[k] _ _ (EA.out.keptK (Kp.below ((Below.refl _ _).alloc (by omega) _))) (EH.out.keptH (Kp.below ((Below.refl _ _).alloc (by omega) _))) (by simp;omega) es1 es2).mono ?_
     rintro r w2 ⟨hr,hb2⟩
     have hBs:=(HBA.out _).trans (hb2.mono (by simp;omega))
     clear hb2 HBA e0 e1 e2 e3 e4 e5 e6 e7 e8
     rcases hr with ⟨hc,rfl⟩ | ⟨hc,rfl⟩
     ·
      refine ⟨rfl,zbq ?_ hc,hB0.trans (hBs.mono (by omega))⟩
      rw [HX5.out,<-HP.out,zar hlt hc]
     have HB:=mk0 hc
     clear hc
     go_wp2_with fail
     go_roundw
     case rel=>exact ⟨k+1,by omega,by go_num,(zas hlt HB.out).symm.trans HP.out,hBs⟩
     case measure=>simp [intOf];omega
    go_wp2_with fail
    go_end0
    exact ⟨zbr (by rw [HX5.out,<-HP.out,zat hlt]),hB0.trans (hBr.mono (by omega))⟩
 have HX2:=mk0 (HX1.out.trans (by rw [decide_eq_false hq,Bool.false_or]))
 have e1:super.toList.isEmpty=false:=by rw [e0,decide_eq_false hq]
 clear HX1 hq e0
 go_wp2_with fail
 refine (zbl _ _ hs2).mono ?_
 rintro r w1 ⟨rfl,rfl⟩
 go_wp2_with fail
 refine (dm0 _ _ _).mono ?_
 rintro r w1 ⟨rfl,⟨hb,rfl⟩ | ⟨hb,rfl⟩⟩
 ·
  exact ⟨rfl,zbq (by rw [HX2.out,hb,zaq]) (by decide),hB0⟩
 have HX3:=mk0 (HX2.out.trans (by rw [hb,zap]))
 clear hb HX2
 by_cases hq:fields.length<=6
 rotate_left
 ·
  have hq':¬(fields.length:Int)<=6:=by omega
  go_wp2_with fail
  refine (dm0 _ _ _).mono ?_
  rintro r w1 ⟨rfl,⟨hb,rfl⟩ | ⟨hb,rfl⟩⟩
  ·
   exact ⟨rfl,zbq (by rw [HX3.out,decide_eq_false hq,zaq]) (by decide),hB0⟩
  exact absurd hb (by first | (simp;done) | (simp;omega))
 have hq4:(fields.length:Int)<=6:=by omega
 have HX4:=mk0 (HX3.out.trans (by rw [decide_eq_true hq,zap]))
 clear hq HX3
 go_wp2_with fail
 refine (dm0 _ _ _).mono ?_
 rintro r w1 ⟨rfl,⟨hb,rfl⟩ | ⟨hb,rfl⟩⟩
 ·
  exact absurd hb (by simp)
 clear hb
 by_cases hq:meths.length<=8
 rotate_left
 ·
  have hq':¬(meths.length:Int)<=8:=by omega
  go_wp2_with fail
  refine (dm0 _ _ _).mono ?_
  rintro r w1 ⟨rfl,⟨hb,rfl⟩ | ⟨hb,rfl⟩⟩
  ·
   exact ⟨rfl,zbq (by rw [HX4.out,decide_eq_false hq,zaq]) (by decide),hB0⟩
  exact absurd hb (by first | (simp;done) | (simp;omega))
 have hq5:(meths.length:Int)<=8:=by omega
 have HX5:=mk0 (HX4.out.trans (by rw [decide_eq_true hq,zap]))
 clear hq HX4
 go_wp2_with fail
 refine (dm0 _ _ _).mono ?_
 rintro r w1 ⟨rfl,⟨hb,rfl⟩ | ⟨hb,rfl⟩⟩
 ·
  exact absurd hb (by simp)
 clear hb
 go_wp2_with fail
 go_loopw [32] (fun i wr=>∃k:Nat,k<=fields.length/\i=.int .i64 k/\Hid (allE checkField (fields.drop k)=allE checkField fields)/\Below (w.heap.size+1) w1 wr) (fun i _=>fields.length - (intOf i).toNat)
 case atStart=>exact ⟨0,Nat.zero_le _,rfl,rfl,Below.refl _ _⟩
 case round=>
  obtain ⟨k,hk,rfl,HP,hBr⟩:=hrel
  have hsz:w.heap.size+1<=wr.heap.size:=by have:=hBr.size;omega
  by_cases hlt:k<fields.length
  ·
   obtain ⟨b,off,rfl,hbl,e0,e1,e2,es,es2⟩:=(HF.out.keptF (Kp.below ((hB0.trans (hBr.mono (by omega))).mono hB))).atF k hlt
   have hBa:=hBr.alloc hsz (.cells #[.string fields[k].name,.int .i64 fields[k].kind.kind,.string fields[k].kind.cls] 125)
   go_wp2_with fail
   refine (zbl _ fields[k].name es).mono ?_
   rintro r w2 ⟨rfl,rfl⟩
   go_wp2_with fail
   refine (dm0 _ _ _).mono ?_
   rintro r w3 ⟨rfl,⟨hb,rfl⟩ | ⟨hb,rfl⟩⟩
   ·
    refine ⟨rfl,zbq (e:=1) ?_ (by decide),hB0.trans (hBa.mono (by omega))⟩
    rw [HX5.out,<-HP.out,zar hlt (by rw [zby hb];decide),zby hb,zbw (by decide)]
   have HB1:=mk0 hb
   clear hb
   go_wp2_with fail
   refine (zbo _ fields[k].kind es2).mono ?_
   rintro r w2 ⟨rfl,hb2⟩
   have hBs:=hBa.trans (hb2.mono (by simp;omega))
   clear hb2 hBa e0 e1 e2
   go_wp2_with fail
   refine (dm0 _ _ _).mono ?_
   rintro r w3 ⟨rfl,⟨hb,rfl⟩ | ⟨hb,rfl⟩⟩
   ·
    refine ⟨rfl,zbq (e:=7) ?_ (by decide),hB0.trans (hBs.mono (by omega))⟩
    rw [HX5.out,<-HP.out,zar hlt (by rw [zbz HB1.out hb];decide),zbz HB1.out hb,zbw (by decide)]
   have HB:=mk0 (zb0 HB1.out hb)
   clear hb
   go_wp2_with fail
   go_roundw
   case rel=>exact ⟨k+1,by omega,by go_num,(zas hlt HB.out).symm.trans HP.out,hBs⟩
   case measure=>simp [intOf];omega
  have HX6:=mk0 (HX5.out.trans (by rw [<-HP.out,zat hlt,zbv]))
  have d3:=(hBr.cell (p:=⟨w.heap.size,3,none⟩) (by simp)).trans c3
  clear HP HX5
  have hBs:=hBr
  clear hBr
  go_wp2_with fail
  go_loopw [48] (fun i wr=>∃k:Nat,k<=meths.length/\i=.int .i64 k/\Hid (allE checkMeth (meths.drop k)=allE checkMeth meths)/\Below (w.heap.size+1) w1 wr) (fun i _=>meths.length - (intOf i).toNat)
  case atStart=>exact ⟨0,Nat.zero_le _,rfl,rfl,hBs⟩
  case round=>
   obtain ⟨k,hk,rfl,HP,hBr⟩:=hrel
   have hsz:w.heap.size+1<=wr.heap.size:=by have:=hBr.size;omega
   by_cases hlt:k<meths.length
   ·
    have hBw:Below w.heap.size w wr:=hB0.trans (hBr.mono (by omega))
    obtain ⟨b,off,va,vh,rfl,hbl,e0,e1,e2,e3,e4,e5,e6,e7,e8,ea,eh,es1,es2,es3⟩:=(HM.out.keptM (Kp.below (hBw.mono hB))).atM k hlt
    have hBa:=fun t=>hBr.alloc hsz (.cells #[.string meths[k].name,.bool meths[k].static,va,.int .i64 meths[k].ret.kind,.string meths[k].ret.cls,.int .i64 meths[k].stack,.int .i64 meths[k].locals,.string meths[k].code,vh] t)
    have HBA:=mk0 hBa
    have EA:=mk0 ea
    have EH:=mk0 eh
    obtain ⟨ao,ca,rfl,_⟩:=ea
    obtain ⟨ho,ch,rfl,_⟩:=eh
    clear hBa
    go_wp2_with fail
    refine (zbx _ B meths[k] _ _ (EA.out.keptK (Kp.below ((Below.refl _ _).alloc (by omega) _))) (EH.out.keptH (Kp.below ((Below.refl _ _).alloc (by omega) _))) (by simp;omega) es1 es2).mono ?_
    rintro r w2 ⟨hr,hb2⟩
    have hBs:=(HBA.out _).trans (hb2.mono (by simp;omega))
    clear hb2 HBA e0 e1 e2 e3 e4 e5 e6 e7 e8
    rcases hr with ⟨hc,rfl⟩ | ⟨hc,rfl⟩
    ·
     refine ⟨rfl,zbq ?_ hc,hB0.trans (hBs.mono (by omega))⟩
     rw [HX6.out,<-HP.out,zar hlt hc]
    have HB:=mk0 hc
    clear hc
    go_wp2_with fail
    go_roundw
    case rel=>exact ⟨k+1,by omega,by go_num,(zas hlt HB.out).symm.trans HP.out,hBs⟩
    case measure=>simp [intOf];omega
   go_wp2_with fail
   go_end0
   exact ⟨zbr (by rw [HX6.out,<-HP.out,zat hlt]),hB0.trans (hBr.mono (by omega))⟩
theorem zb2 (w:World) (B:Nat) (l:List ClassD) (v:Value) (hv:SL 4 RC (· <B) w v l) (hB:B<=w.heap.size):
 Calls Tryz.prog 197 #[v] w fun r w'=>ChkOut (checkL l) r/\Below w.heap.size w w':=by
 have HV:=mk0 hv
 obtain ⟨ao,cl,rfl,hcl,hll,_⟩:=hv
 unfold maxLen at hll
 have HX0:Hid (checkL l=dem (decide (l.length<=10)) 2 (allE checkClass l)):=rfl
 generalize checkL l=X at*
 go_enter Tryz.func197,Tryz.ntmps197
 by_cases hq:l.length<=10
 rotate_left
 ·
  have hq':¬(l.length:Int)<=10:=by omega
  go_wp2_with fail
  refine (dm0 _ _ _).mono ?_
  rintro r w1 ⟨rfl,⟨hb,rfl⟩ | ⟨hb,rfl⟩⟩
  ·
   exact ⟨rfl,zbq (by rw [HX0.out,decide_eq_false hq,zaq]) (by decide),Below.refl _ _⟩
  exact absurd hb (by first | (simp;done) | (simp;omega))
 have hq1:(l.length:Int)<=10:=by omega
 have HX1:=mk0 (HX0.out.trans (by rw [decide_eq_true hq,zap]))
 clear hq HX0
 go_wp2_with fail
 refine (dm0 _ _ _).mono ?_
 rintro r w1 ⟨rfl,⟨hb,rfl⟩ | ⟨hb,rfl⟩⟩
 ·
  exact absurd hb (by simp)
 clear hb
 go_wp2_with fail
 go_loopw [10] (fun i wr=>∃k:Nat,k<=l.length/\i=.int .i64 k/\Hid (allE checkClass (l.drop k)=allE checkClass l)/\Below w1.heap.size w1 wr) (fun i _=>l.length - (intOf i).toNat)
 case atStart=>exact ⟨0,Nat.zero_le _,rfl,rfl,Below.refl _ _⟩
 case round=>
  obtain ⟨k,hk,rfl,HP,hBr⟩:=hrel
  have hsz:=hBr.size
  by_cases hlt:k<l.length
  ·
   obtain ⟨b,off,vf,vm,rfl,hbl,e0,e1,e2,e3,ef,em,es1,es2⟩:=(HV.out.keptC (Kp.below (hBr.mono hB))).atC k hlt
   have hBa:=fun t=>hBr.alloc hsz (.cells #[.string l[k].name,.string l[k].super,vf,vm] t)
   have HBA:=mk0 hBa
   have EF:=mk0 ef
   have EM:=mk0 em
   obtain ⟨fo,cf,rfl,_⟩:=ef
   obtain ⟨mo,cm,rfl,_⟩:=em
   clear hBa
   go_wp2_with fail
   refine (zb1 _ B l[k] _ _ (EF.out.keptF (Kp.below ((Below.refl _ _).alloc (by omega) _))) (EM.out.keptM (Kp.below ((Below.refl _ _).alloc (by omega) _))) (by simp;omega) es1 es2).mono ?_
   rintro r w2 ⟨hr,hb2⟩
   have hBs:=(HBA.out _).trans (hb2.mono (by simp;omega))
   clear hb2 HBA e0 e1 e2 e3
   rcases hr with ⟨hc,rfl⟩ | ⟨hc,rfl⟩
   ·
    refine ⟨rfl,zbq ?_ hc,hBs⟩
    rw [HX1.out,<-HP.out,zar hlt hc]
   have HB:=mk0 hc
   clear hc
   go_wp2_with fail
   go_roundw
   case rel=>exact ⟨k+1,by omega,by go_num,(zas hlt HB.out).symm.trans HP.out,hBs⟩
   case measure=>simp [intOf];omega
  go_wp2_with fail
  go_end0
  exact ⟨zbr (by rw [HX1.out,<-HP.out,zat hlt]),hBr⟩
theorem zb3 (f:Addr) (w:World):
 CallsD Tryz.prog 103 #[.pointer (some f)] .returning w fun e u' w'=>e=.returned (.tuple #[])/\u'=.returning/\w'=w:=by
 refine callsD_of_wpS Tryz.func103 rfl fun c₀ cs hu=>?_
 apply wpS_seq
 apply wpS_region
 simp [wpOpsS,go_sem,recoverD,hu,Tryz.ntmps103,Exit.thenS]
 have e:(#[Value.pointer (some f)]++((Array.replicate 16 undef).setIfInBounds 3 Value.nilIface).setIfInBounds 0 Value.nilIface)=#[.pointer (some f),.nilIface,undef,undef,.nilIface,undef,undef,undef,undef,undef,undef,undef,undef,undef,undef,undef,undef]:=rfl
 rw [e]
 refine wpS_of_wp ?_
 go_wp2
 refine ⟨rfl,.returning,?_,_,(results_none rfl _ _ _),rfl,rfl,rfl⟩
 cases c₀
 simp_all
theorem assert57 (x:Value) (w:World):(Instr.typeAssert (.iface 164 x) 20 164 true).run Tryz.prog w=.ok (.tuple #[x,.bool true]) w:=by kernel_rfl
theorem eqlNil (x:Value) (w:World):(binOp BinOp.eql 20 (.iface 164 x) .nilIface).run Tryz.prog w=.ok (.bool false) w:=by kernel_rfl
theorem zb4 (b:Nat) (x y:Value) (e p:Int) (w:World) (h0:w.cell? ⟨b,0,none⟩=some x) (h1:w.cell? ⟨b,1,none⟩=some y) (f0:w.frozen? ⟨b,0,none⟩=false) (f1:w.frozen? ⟨b,1,none⟩=false):
 CallsD Tryz.prog 103 #[.pointer (some ⟨b,0,none⟩)] (.panicking [wrongV e p]) w fun r u' w'=>r=.returned (.tuple #[])/\u'=.panicking [{ wrongV e p with recovered:=true }]/\
  w'=((w.setCell ⟨b,0,none⟩ (.int .i64 e)).setCell ⟨b,1,none⟩ (.int .i64 p)).alloc (.cells #[.int .i64 e,.int .i64 p] 164):=by
 have hb:b<w.heap.size:=World.block_lt_of_cell? w _ h0
 have k1:=assert57 (.agg #[.int .i64 e,.int .i64 p])
 have k2:=eqlNil (.agg #[.int .i64 e,.int .i64 p])
 refine callsD_of_wpS Tryz.func103 rfl fun c₀ cs hu=>?_
 apply wpS_seq
 apply wpS_region
 simp [wpOpsS,go_sem,recoverD,hu,Tryz.ntmps103,Exit.thenS]
 generalize hv:Value.iface 164 (.agg #[.int .i64 e,.int .i64 p])=V
 have ee:(#[Value.pointer (some ⟨b,0,none⟩)]++((Array.replicate 16 undef).setIfInBounds 3 V).setIfInBounds 0 V)=#[.pointer (some ⟨b,0,none⟩),V,undef,undef,V,undef,undef,undef,undef,undef,undef,undef,undef,undef,undef,undef,undef]:=rfl
 rw [ee]
 clear ee
 subst hv
 refine wpS_of_wp ?_
 clear hu
 go_wp2_with fail
 exact ⟨rfl,_,rfl,_,results_none rfl _ _ _,rfl,rfl,rfl⟩
theorem zb5 (w1:World) (N:Nat) (e p:Int) (o:Obj) {x y:Value} (n0:w1.cell? ⟨N,0,none⟩=some x) (n1:w1.cell? ⟨N,1,none⟩=some y):
 w1.grownBy (((w1.setCell ⟨N,0,none⟩ (.int .i64 e)).setCell ⟨N,1,none⟩ (.int .i64 p)).alloc o) (some N)/\
 (((w1.setCell ⟨N,0,none⟩ (.int .i64 e)).setCell ⟨N,1,none⟩ (.int .i64 p)).alloc o).cell? ⟨N,0,none⟩=some (.int .i64 e)/\
 (((w1.setCell ⟨N,0,none⟩ (.int .i64 e)).setCell ⟨N,1,none⟩ (.int .i64 p)).alloc o).cell? ⟨N,1,none⟩=some (.int .i64 p):=by
 have hlt:N<w1.heap.size:=World.block_lt_of_cell? w1 _ n0
 refine ⟨?_,?_,?_⟩
 ·
  refine za9 ?_ _
  refine za8 ?_ _ _ (Or.inl rfl)
  refine za8 ?_ _ _ (Or.inl rfl)
  exact World.grownBy.refl _ _
 ·
  rw [World.cell?_alloc_past _ _ _ (by simpa [World.setCell]using hlt),World.cell?_setCell_other _ _ _ _ (by simp),World.cell?_setCell_same _ _ _ n0]
 rw [World.cell?_alloc_past _ _ _ (by simpa [World.setCell]using hlt)]
 exact World.cell?_setCell_same _ _ _ ((World.cell?_setCell_other _ _ _ _ (by simp)).trans n1)
theorem zb6 (g:Nat) (cap:Array Value) (w:World) (Ok:World->Prop) (No:Int->Int->World->Prop) (hcf:∀w,(callFunc g cap).run Tryz.prog w=.ok (.enter g cap) w)
 (hc:Calls Tryz.prog g cap (w.alloc (.cells #[.int .i64 0,.int .i64 0] 84)) fun r w1=>w1.heap[w.heap.size]? =some (.cells #[.int .i64 0,.int .i64 0] 84 (0,0))/\
  ((r=.returned (.tuple #[])/\Ok w1)\/∃e p,r=.panicked [wrongV e p]/\No e p w1)):
 Calls Tryz.prog 51 #[.func (.func g) #[] cap] w fun r w'=>∃w1,w1.grownBy w' (some w.heap.size)/\
  ((r=.returned (.agg #[.int .i64 0,.int .i64 0])/\Ok w1)\/∃e p,r=.returned (.agg #[.int .i64 e,.int .i64 p])/\No e p w1):=by
 have hmf:=mkf Tryz.prog
 have HC:Hid _:=hc
 clear hc
 go_enter_defers Tryz.func51,Tryz.ntmps51
 go_wp2_with fail
 refine Calls.mono HC.out ?_
 rintro r w1 ⟨hN,hr⟩
 have n0:w1.cell? ⟨w.heap.size,0,none⟩=some (.int .i64 0):=by simp [World.cell?,hN]
 have n1:w1.cell? ⟨w.heap.size,1,none⟩=some (.int .i64 0):=by simp [World.cell?,hN]
 have z0:w1.frozen? ⟨w.heap.size,0,none⟩=false:=by simp [World.frozen?,hN]
 have z1:w1.frozen? ⟨w.heap.size,1,none⟩=false:=by simp [World.frozen?,hN]
 clear hN
 rcases hr with ⟨rfl,hok⟩ | ⟨e,p,rfl,hno⟩
 ·
  go_wp2_with fail
  refine leaves_cons (f:=103) (args:=#[.pointer (some ⟨w.heap.size,0,none⟩)]) (by simp) (by simp [go_sem]) ?_
  refine (zb3 ⟨w.heap.size,0,none⟩ _).mono ?_
  rintro r2 u' w'' ⟨rfl,rfl,rfl⟩
  show Leaves Tryz.prog Tryz.f51 _ _ [] FrameMode.returning _
  refine ⟨.agg #[.int .i64 0,.int .i64 0],?_,w1,?_,Or.inl ⟨rfl,hok⟩⟩
  ·
   simp [results,Tryz.results51,go_sem,n0,n1]
  exact za8 (za8 (World.grownBy.refl _ _) _ _ (Or.inl rfl)) _ _ (Or.inl rfl)
 refine leaves_cons (f:=103) (args:=#[.pointer (some ⟨w.heap.size,0,none⟩)]) (by simp) (by simp [go_sem]) ?_
 refine (zb4 w.heap.size _ _ e p _ n0 n1 z0 z1).mono ?_
 rintro r2 u' w'' ⟨rfl,rfl,rfl⟩
 obtain ⟨hg,q0,q1⟩:=zb5 w1 w.heap.size e p _ n0 n1
 show Leaves Tryz.prog Tryz.f51 _ _ [] FrameMode.returning _
 generalize ((w1.setCell ⟨w.heap.size,0,none⟩ (.int .i64 e)).setCell ⟨w.heap.size,1,none⟩ (.int .i64 p)).alloc (.cells #[.int .i64 e,.int .i64 p] 164)=W2 at*
 refine ⟨.agg #[.int .i64 e,.int .i64 p],?_,w1,hg,Or.inr ⟨e,p,rfl,hno⟩⟩
 simp [results,Tryz.results51,go_sem,q0,q1]
theorem fieldErr (a b:Int) (w:World):(Instr.field 84 (.agg #[.int .i64 a,.int .i64 b]) 0).run Tryz.prog w=.ok (.int .i64 a) w:=by kernel_rfl
theorem callCheck1 (args:Array Value) (w:World):(callFunc 196 args).run Tryz.prog w=.ok (.enter 196 args) w:=by kernel_rfl
theorem zb7 (w:World) (B:Nat) (P:Nat) (l:List ClassD) (v:Value) (hv:SL 4 RC (· <B) w v l) (hB:B<=w.heap.size) (hp:w.cell? ⟨P,0,none⟩=some v):
 Calls Tryz.prog 196 #[.pointer (some ⟨P,0,none⟩)] w fun r w'=>ChkOut (checkL l) r/\Below w.heap.size w w':=by
 have HV:=mk0 hv
 obtain ⟨ao,cl,rfl,-⟩:=hv
 go_enter Tryz.func196,Tryz.ntmps196
 go_wp2_with fail
 refine (zb2 _ B l _ HV.out hB).mono ?_
 rintro r w1 ⟨⟨hc,rfl⟩ | ⟨hc,rfl⟩,hb⟩
 ·
  exact ⟨rfl,Or.inl ⟨hc,rfl⟩,hb⟩
 go_wp2
 go_end0
 exact ⟨Or.inr ⟨hc,rfl⟩,hb⟩
theorem zb8 (w:World) (B:Nat) (l:List ClassD) (v:Value) (hv:SL 4 RC (· <B) w v l) (hB':B<=w.heap.size):
 Calls Tryz.prog 157 #[v] w fun r w'=>r=.returned (.int .i64 (checkL l))/\Below w.heap.size w w':=by
 have hmf:=mkf Tryz.prog
 have HV:=mk0 hv
 obtain ⟨ao,cl,rfl,-⟩:=hv
 have hB0:=(Below.refl w.heap.size w).alloc (Nat.le_refl _) (.cells #[.slice ao l.length cl] 31)
 have hB1:=hB0.alloc hB0.size (.cells #[.int .i64 0,.int .i64 0] 84)
 go_enter Tryz.func157,Tryz.ntmps157
 go_wp2_with fail
 refine (zb6 196 _ _ (fun w1=>checkL l=0/\Below w.heap.size w w1) (fun e p w1=>checkL l=e/\Below w.heap.size w w1) (callCheck1 _) ?hc).mono ?_
 case hc=>
  refine (zb7 _ B w.heap.size l (.slice ao l.length cl) (HV.out.keptC (Kp.below (hB1.mono hB'))) (by simp;omega) (by simp [go_sem])).mono ?_
  rintro r w1 ⟨hr,hb⟩
  have hb':=hB1.trans (hb.mono (by simp;omega))
  refine ⟨?_,?_⟩
  ·
   rw [hb.block (w.alloc (.cells #[.slice ao l.length cl] 31)).heap.size (by simp)]
   show ((w.heap.push _).push _)[(w.heap.push _).size]? =_
   rw [Array.getElem?_push,if_pos rfl]
  rcases hr with ⟨hc,rfl⟩ | ⟨hc,rfl⟩
  ·
   exact Or.inr ⟨_,_,rfl,rfl,hb'⟩
  exact Or.inl ⟨rfl,hc,hb'⟩
 rintro r w2 ⟨w1,hg,hr⟩
 have hz:(w.alloc (.cells #[.slice ao l.length cl] 31)).heap.size=w.heap.size+1:=by simp
 rw [hz]at hg
 clear hB0 hB1 hz
 rcases hr with ⟨rfl,hc,hB⟩ | ⟨e,p,rfl,hc,hB⟩
 ·
  have HC:=mk0 hc
  have HB:=mk0 (bg0 hB hg (by omega))
  clear hc hg hB hmf hB'
  have hfd:=fieldErr
  go_wp2
  go_ret
  exact ⟨by rw [HC.out];rfl,HB.out⟩
 have HC:=mk0 hc
 have HB:=mk0 (bg0 hB hg (by omega))
 clear hc hg hB hmf hB'
 have hfd:=fieldErr
 go_wp2
 go_ret
 exact ⟨by rw [HC.out];rfl,HB.out⟩
end Go.Proofs.YtjdnmblggdobgaaGreat
