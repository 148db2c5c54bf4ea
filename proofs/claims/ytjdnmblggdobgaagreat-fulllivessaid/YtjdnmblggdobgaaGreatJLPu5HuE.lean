import Derived.Test.YtjdnmblggdobgaaGreatJLCkDLPu4
import Derived.Test.YtjdnmblggdobgaaGreatLLo
import Derived.Test.YtjdnmblggdobgaaGreatJSameLRf6
import Derived.Test.YtjdnmblggdobgaaGreatJLLkLBas
import Derived.Test.YtjdnmblggdobgaaGreatJTk2Dies
import Derived.Test.YtjdnmblggdobgaaGreatJHtHHuC
import Derived.Test.YtjdnmblggdobgaaGreatHrG
set_option maxHeartbeats 2000000
set_option maxRecDepth 100000
namespace Go.Proofs.YtjdnmblggdobgaaGreat
open Go.RowKit
theorem zra {s:ByteArray} (h:isNameB s=true):s≠⟨#[]⟩:=by
 rintro rfl
 revert h
 decide
theorem zrb {c:ClassD} (h:checkClass c=0):c.name≠⟨#[]⟩:=by
 unfold checkClass at h
 exact zra (zgb h (by decide)).1
theorem zrc {l:List ClassD} (h:checkL l=0):num l ⟨#[]⟩<0:=by
 have h1:hasC l ⟨#[]⟩=false:=by
  rw [hasC,za6,List.any_eq_false]
  intro c hc
  have hcc:checkClass c=0:=by
   unfold checkL at h
   exact zgd (zgb h (by decide)).2 c hc
  have:=zrb hcc
  simpa using fun e=>this e.symm
 simpa [hasC]using h1
theorem few_q {l:List ClassD} (hn:askNames l=true) (h5:askNone l=true):askFew l=allI l (fewI l):=by
 rw [askFew,allI,Bool.eq_iff_iff,Bool.and_eq_true]
 simp only [List.all_eq_true,fewI,Bool.and_eq_true]
 constructor
 ·
  rintro ⟨h1,h2⟩ i hi
  have hi':=List.mem_range.1 hi
  rw [zpx hn h5 hi',zpy hn h5 hi']
  exact ⟨h1 i hi,h2 i hi⟩
 intro h
 refine ⟨fun i hi=>?_,fun i hi=>?_⟩
 ·
  have:=(h i hi).1
  rwa [zpx hn h5 (List.mem_range.1 hi)]at this
 have:=(h i hi).2
 rwa [zpy hn h5 (List.mem_range.1 hi)]at this
theorem zrd {l:List ClassD} {e:Int} (h:checkLk l=e) (he:e≠0):linkErr l=e:=by
 rw [linkErr,h,if_pos he]
theorem zre (l:List ClassD):tieRes l=linkErr l:=by
 by_cases hc:checkL l=0
 rotate_left
 ·
  rw [tieRes,if_neg hc]
  exact (zrd (by simp [checkLk,hc]) hc).symm
 have hfine:=(zgm hc).2
 rw [tieRes,if_pos hc]
 cases h1:askNames l with
 | false=>rw [zrd (lk1 hc (zpc l ▸ h1)) (by decide)];simp [qsOf,askRes,h1]
 | true=>
 have g1:=zpc l ▸ h1
 cases h2:askTop l with
 | false=>rw [zrd (lk2 hc g1 (zpd l h1 ▸ h2)) (by decide)];simp [qsOf,askRes,h1,h2]
 | true=>
 have g2:=zpd l h1 ▸ h2
 cases h3:askUpper l with
 | false=>rw [zrd (lk3 hc g1 g2 (zpe l ▸ h3)) (by decide)];simp [qsOf,askRes,h1,h2,h3]
 | true=>
 have g3:=zpe l ▸ h3
 cases h4:askSupers l with
 | false=>rw [zrd (lk4 hc g1 g2 g3 (zpf l h1 ▸ h4)) (by decide)];simp [qsOf,askRes,h1,h2,h3,h4]
 | true=>
 have g4:=zpf l h1 ▸ h4
 cases h5:askNone l with
 | false=>rw [zrd (lk5 hc g1 g2 g3 g4 (zpv l h1 ▸ h5)) (by decide)];simp [qsOf,askRes,h1,h2,h3,h4,h5]
 | true=>
 have g5:=zpv l h1 ▸ h5
 cases h6:askError l with
 | false=>rw [zrd (lk6 hc g1 g2 g3 g4 g5 (zp2 h1 h5 h2 hfine ▸ h6)) (by decide)];simp [qsOf,askRes,h1,h2,h3,h4,h5,h6]
 | true=>
 have g6:=zp2 h1 h5 h2 hfine ▸ h6
 cases h7:askTold l with
 | false=>rw [zrd (lk7 hc g1 g2 g3 g4 g5 g6 (zpj l h1 ▸ h7)) (by decide)];simp [qsOf,askRes,h1,h2,h3,h4,h5,h6,h7]
 | true=>
 have g7:=zpj l h1 ▸ h7
 cases h8:askParts l with
 | false=>rw [zrd (lk8 hc g1 g2 g3 g4 g5 g6 g7 (zp3 h1 h5 ▸ h8)) (by decide)];simp [qsOf,askRes,h1,h2,h3,h4,h5,h6,h7,h8]
 | true=>
 have g8:=zp3 h1 h5 ▸ h8
 cases h9:askSame l with
 | false=>rw [zrd (lk9 hc g1 g2 g3 g4 g5 g6 g7 g8 (zqn h1 h4 h5 h8 (zrc hc) ▸ h9)) (by decide)];simp [qsOf,askRes,h1,h2,h3,h4,h5,h6,h7,h8,h9]
 | true=>
 have g9:=zqn h1 h4 h5 h8 (zrc hc) ▸ h9
 rw [linkErr,lk10 hc g1 g2 g3 g4 g5 g6 g7 g8 g9,<-few_q h1 h5]
 cases h10:askFew l<;>simp [qsOf,askRes,h1,h2,h3,h4,h5,h6,h7,h8,h9,h10]
theorem zrf {g:Nat} {e:Int} {a:Bool} {l:List QD} (h:askRes (⟨g,e,a⟩::l)=0) (he:e≠0):a=true/\askRes l=0:=by
 rw [askRes]at h
 cases a with
 | true=>exact ⟨rfl,by simpa using h⟩
 | false=>exact absurd (by simpa using h) he
theorem zrg {l:List ClassD} (h:tieRes l=0):askNames l=true/\askTop l=true/\askUpper l=true/\askSupers l=true/\askNone l=true/\askError l=true/\askTold l=true/\askParts l=true/\askSame l=true/\askFew l=true:=by
 have hc:=zj9 h
 rw [tieRes,if_pos hc]at h
 obtain ⟨h1,h⟩:=zrf h (by decide)
 obtain ⟨h2,h⟩:=zrf h (by decide)
 obtain ⟨h3,h⟩:=zrf h (by decide)
 obtain ⟨h4,h⟩:=zrf h (by decide)
 obtain ⟨h5,h⟩:=zrf h (by decide)
 obtain ⟨h6,h⟩:=zrf h (by decide)
 obtain ⟨h7,h⟩:=zrf h (by decide)
 obtain ⟨h8,h⟩:=zrf h (by decide)
 obtain ⟨h9,h⟩:=zrf h (by decide)
 obtain ⟨h10,-⟩:=zrf h (by decide)
 exact ⟨h1,h2,h3,h4,h5,h6,h7,h8,h9,h10⟩
theorem zrh {l:List ClassD} (h:tieRes l=0):linkD l=refD l:=by
 obtain ⟨h1,-,-,-,h5,-⟩:=zrg h
 have e1:(List.range l.length).map (supAt l)=(List.range l.length).map fun i=>firstAt l (clsAt l i).super:=List.map_congr_left fun i _=>zpb l _ h1
 have e2:(List.range l.length).map (fieldsOf l)=(List.range l.length).map (allF l):=List.map_congr_left fun i hi=>(zpx h1 h5 (List.mem_range.1 hi)).symm
 have e3:(List.range l.length).map (namesOf l)=(List.range l.length).map fun i=>(tabF l i).1:=List.map_congr_left fun i hi=>by rw [zpy h1 h5 (List.mem_range.1 hi)];rfl
 have e4:(List.range l.length).map (targetsOf l)=(List.range l.length).map fun i=>(tabF l i).2:=List.map_congr_left fun i hi=>by rw [zpy h1 h5 (List.mem_range.1 hi)];rfl
 rw [linkD,refD,e1,e2,e3,e4]
end Go.Proofs.YtjdnmblggdobgaaGreat
namespace Go.Proofs.YtjdnmblggdobgaaGreat
open Go.RowKit Go.Maps
theorem zri {α:Type} {p:α->α->Bool} (h:∀x y,p x y=p y x):∀l m:List α,eqL p l m=eqL p m l
 | [],[]=>rfl
 | [],_::_=>rfl
 | _::_,[]=>rfl
 | x::l,y::m=>by rw [eqL,eqL,h,zri h l m]
theorem zrj (x y:KindD):sameK x y=sameK y x:=by
 rw [Bool.eq_iff_iff,zp4,zp4]
 exact ⟨Eq.symm,Eq.symm⟩
theorem zrk (d e:LinkD):sameRest d e=sameRest e d:=by
 rw [sameRest,sameRest,zri (fun x y=>by rw [Bool.eq_iff_iff,sameI,sameI,beq_iff_eq,beq_iff_eq];exact eq_comm) d.supers,zri (zri fun x y=>by simp only [sameF];rw [zrj x.kind,decide_eq_decide.2 eq_comm]) d.fields,zri (zri fun x y=>by rw [Bool.eq_iff_iff,sameS,sameS,beq_iff_eq,beq_iff_eq];exact eq_comm) d.names,zri (zri fun x y=>by rw [Bool.eq_iff_iff,sameT,sameT,Bool.and_eq_true,Bool.and_eq_true,beq_iff_eq,beq_iff_eq,beq_iff_eq,beq_iff_eq,eq_comm (a:=x.cls),eq_comm (a:=x.meth)]) d.targets]
def linkedErr (d:LinkD):Int:=if linkErr d.classes=0/\sameRest d (refD d.classes)=true then 0 else 4
theorem zrl (d:LinkD):linkedErr d=chkRes d []:=by
 have e:okLk d=true↔(linkErr d.classes=0/\sameRest d (refD d.classes)=true):=by
  rw [okLk,Bool.and_eq_true,decide_eq_true_iff,zre]
  constructor
  ·
   rintro ⟨h1,h2⟩
   refine ⟨h1,?_⟩
   rw [<-zrh ((zre _).trans h1),zrk]
   exact h2
  rintro ⟨h1,h2⟩
  refine ⟨h1,?_⟩
  rw [<-zrh ((zre _).trans h1),zrk]at h2
  exact h2
 unfold linkedErr chkRes
 by_cases h:okLk d=true
 ·
  rw [if_pos (e.1 h),if_pos h];rfl
 rw [if_neg (fun hh=>h (e.2 hh)),if_neg h]
theorem zrm (w:World) (B:Nat) (kC kS kF kN kT:Value) (d:LinkD) (hk:RLk (· <B) w kC kS kF kN kT d) (hB:B<=w.heap.size):
 Calls Tryz.prog 54 #[.agg #[kC,kS,kF,kN,kT]] w fun r w'=>r=.returned (.int .i64 (linkedErr d))/\Below w.heap.size w w':=by
 have HK:=mk0 hk
 obtain ⟨aC,cC,aS,cS,aF,cF,aN,cN,aT,cT,rfl,rfl,rfl,rfl,rfl⟩:=hk.agg
 clear hk
 have HA:=mk0 (fun o=>(Below.refl w.heap.size w).alloc (Nat.le_refl _) o)
 go_enter Tryz.func54,Tryz.ntmps54
 go_wp2_with fail
 refine (zq0 _ B d.classes _ (HK.out.C.keptC (Kp.below ((HA.out _).mono hB))) (Nat.le_trans hB (HA.out _).size)).mono ?_
 rintro r w1 ⟨hb1,⟨h0,jC,jS,jF,jN,jT,rfl,hj⟩ | ⟨h0,rfl⟩⟩
 ·
  have hK1:=(hb1.block w.heap.size (by simp)).trans (heap_alloc_new w _)
  have hB1:Below w.heap.size w w1:=(HA.out _).trans (hb1.mono (HA.out _).size)
  have hj1:=hj.mono (M':=(· <w1.heap.size)) fun k h=>h.2
  obtain ⟨bC,eC,bS,eS,bF,eF,bN,eN,bT,eT,rfl,rfl,rfl,rfl,rfl⟩:=hj.agg
  have lk1:=lt0 hK1
  have x0:=cl0 hK1 0 (x:=.slice aC d.classes.length cC) rfl
  have x1:=cl0 hK1 1 (x:=.slice aS d.supers.length cS) rfl
  have x2:=cl0 hK1 2 (x:=.slice aF d.fields.length cF) rfl
  have x3:=cl0 hK1 3 (x:=.slice aN d.names.length cN) rfl
  have x4:=cl0 hK1 4 (x:=.slice aT d.targets.length cT) rfl
  have HA1:=mk0 (fun o=>(Below.refl w1.heap.size w1).alloc (Nat.le_refl _) o)
  have HSM:Hid (∀W,Below w1.heap.size w1 W->Calls Tryz.prog 118 #[.agg #[.slice aC d.classes.length cC,.slice aS d.supers.length cS,.slice aF d.fields.length cF,.slice aN d.names.length cN,.slice aT d.targets.length cT],.agg #[.slice bC (refD d.classes).classes.length eC,.slice bS (refD d.classes).supers.length eS,.slice bF (refD d.classes).fields.length eF,.slice bN (refD d.classes).names.length eN,.slice bT (refD d.classes).targets.length eT]] W fun r w'=>r=.returned (.bool (sameRest d (refD d.classes)))/\Below W.heap.size W w'):=fun W hW=>zq6 W w1.heap.size _ _ _ _ _ _ _ _ _ _ d (refD d.classes) ((HK.out.kept (Kp.below ((hB1.trans (hW.mono hB1.size)).mono hB))).mono fun k hk=>Nat.lt_of_lt_of_le hk (Nat.le_trans hB hB1.size)) (hj1.kept (Kp.below hW)) rfl hW.size
  have HL:Hid (linkedErr d=if sameRest d (refD d.classes)=true then 0 else 4):=by show linkedErr d=_;simp [linkedErr,h0]
  have HB1:=mk0 hB1
  clear hb1 hj hj1 h0 hK1 hB1
  generalize sameRest d (refD d.classes)=sr at*
  generalize hrd:refD d.classes=rd at*
  clear hrd
  cases sr with
  | true=>
    go_wp2_with (go_at_call 118;refine (HSM.out _ (HA1.out _)).mono ?_;rintro r w2 ⟨rfl,hb2⟩;have HB2:=mk0 (HB1.out.trans (((HA1.out _).trans (hb2.mono (HA1.out _).size)).mono HB1.out.size));clear hb2)
    go_ret
    exact ⟨by rw [HL.out];rfl,HB2.out⟩
  | false=>
    go_wp2_with (go_at_call 118;refine (HSM.out _ (HA1.out _)).mono ?_;rintro r w2 ⟨rfl,hb2⟩;have HB2:=mk0 (HB1.out.trans (((HA1.out _).trans (hb2.mono (HA1.out _).size)).mono HB1.out.size));clear hb2)
    go_ret
    exact ⟨by rw [HL.out];rfl,HB2.out⟩
 have hB1:Below w.heap.size w w1:=(HA.out _).trans (hb1.mono (HA.out _).size)
 have HB1:=mk0 (hB1.alloc hB1.size (.cells #[.slice none 0 0,.slice none 0 0,.slice none 0 0,.slice none 0 0,.slice none 0 0] 36))
 have HL:Hid (linkedErr d=4):=by show linkedErr d=4;simp [linkedErr,h0]
 have hne:(linkErr d.classes==0)=false:=beq_eq_false_iff_ne.2 h0
 clear hb1 h0 hB1
 generalize linkErr d.classes=le at*
 have hne2:¬le=0:=fun e=>by rw [e]at hne;simp at hne
 unfold nilLk
 go_wp2_with fail
 go_ret
 exact ⟨by rw [HL.out];rfl,HB1.out⟩
theorem zrn (d:LinkD):linkedErr d=if okLk d=true then 0 else 4:=by
 rw [zrl]
 unfold chkRes
 simp
theorem zro (w:World) (B:Nat) (vW vO kC kS kF kN kT:Value) (h:HeapD) (d:LinkD) (g:Hd B w vW vO kC kS kF kN kT h d) (hnb:h.next<=9223372036854775807):
 Calls Tryz.prog 21 #[.agg #[vW,.int .i64 h.young,.int .i64 h.old,.int .i64 h.ytop,.int .i64 h.otop,vO,.int .i64 h.next],.agg #[kC,kS,kF,kN,kT]] w fun r w'=>r=.returned (.int .i64 (heapErr d h))/\Below w.heap.size w w':=by
 have HG:=mk0 g
 obtain ⟨aW,cW,aO,cO,aC,cC,aS,cS,aF,cF,aN,cN,aT,cT,rfl,rfl,rfl,rfl,rfl,rfl,rfl⟩:=g.agg
 clear g
 obtain ⟨W0,hW0,hB0,hs0,k0,k1⟩:=boxes2 w #[.slice aW h.words.length cW,.int .i64 h.young,.int .i64 h.old,.int .i64 h.ytop,.int .i64 h.otop,.slice aO h.noted.length cO,.int .i64 h.next] #[.slice aC d.classes.length cC,.slice aS d.supers.length cS,.slice aF d.fields.length cF,.slice aN d.names.length cN,.slice aT d.targets.length cT] 24 36
 have lk0:=lt0 k0
 have lk1:=lt0 k1
 have c0:=cl0 k0 0 (x:=.slice aW h.words.length cW) rfl
 have c1:=cl0 k0 1 (x:=.int .i64 h.young) rfl
 have c2:=cl0 k0 2 (x:=.int .i64 h.old) rfl
 have c3:=cl0 k0 3 (x:=.int .i64 h.ytop) rfl
 have c4:=cl0 k0 4 (x:=.int .i64 h.otop) rfl
 have c5:=cl0 k0 5 (x:=.slice aO h.noted.length cO) rfl
 have c6:=cl0 k0 6 (x:=.int .i64 h.next) rfl
 have e0:=cl0 k1 0 (x:=.slice aC d.classes.length cC) rfl
 have e1:=cl0 k1 1 (x:=.slice aS d.supers.length cS) rfl
 have e2:=cl0 k1 2 (x:=.slice aF d.fields.length cF) rfl
 have e3:=cl0 k1 3 (x:=.slice aN d.names.length cN) rfl
 have e4:=cl0 k1 4 (x:=.slice aT d.targets.length cT) rfl
 have HB0:=mk0 hB0
 have HE0:=mk0 hW0
 have HK0:=mk0 (And.intro k0 k1)
 have HCL:=mk0 (zrm W0 B _ _ _ _ _ d (HG.out.below (hB0.mono HG.out.le)).lk (HG.out.below (hB0.mono HG.out.le)).le)
 rw [zrn]at HCL
 cases hok:okLk d with
 | false=>
   rw [hok]at HCL
   simp only [Bool.false_eq_true,if_false]at HCL
   have HR:Hid (heapErr d h=4):=by show _=_;unfold heapErr;rw [hok];rfl
   rw [HE0.out]at HCL
   clear k0 k1 hB0 hW0 hs0 hok
   go_enter Tryz.func21,Tryz.ntmps21
   go_wp2_with fail
   refine HCL.out.mono ?_
   rw [<-HE0.out]
   rintro r w1 ⟨rfl,hb1⟩
   have HB1:=mk0 (HB0.out.trans (hb1.mono HB0.out.size))
   clear hb1 HCL
   go_wp2_with fail
   go_ret
   exact ⟨by rw [HR.out];rfl,HB1.out⟩
 | true=>
   rw [hok]at HCL
   simp only [if_true]at HCL
   have hfew:=zkh hok
   have HCH:Hid (∀V,Below W0.heap.size W0 V->Calls Tryz.prog 55 #[.agg #[.slice aW h.words.length cW,.int .i64 h.young,.int .i64 h.old,.int .i64 h.ytop,.int .i64 h.otop,.slice aO h.noted.length cO,.int .i64 h.next],.agg #[.slice aC d.classes.length cC,.slice aS d.supers.length cS,.slice aF d.fields.length cF,.slice aN d.names.length cN,.slice aT d.targets.length cT]] V fun r w'=>r=.returned (.int .i64 (heapErr d h))/\Below V.heap.size V w'):=fun V hV=>by
    have g2:=HG.out.below ((hB0.trans (hV.mono hB0.size)).mono HG.out.le)
    have:=zoj V B _ _ _ _ _ _ _ h d g2.sW g2.sO g2.lk g2.le hfew hnb
    rw [zli hfew]at this
    unfold heapErr
    rw [hok,if_pos rfl]
    exact this
   rw [HE0.out]at HCL
   clear k0 k1 hB0 hW0 hs0 hok hfew hnb
   generalize heapErr d h=er at*
   go_enter Tryz.func21,Tryz.ntmps21
   go_wp2_with fail
   refine HCL.out.mono ?_
   rw [<-HE0.out]
   rintro r w1 ⟨rfl,hb1⟩
   have hB1:=HB0.out.trans (hb1.mono HB0.out.size)
   have k0:=(hb1.block _ lk0).trans HK0.out.1
   have k1:=(hb1.block _ lk1).trans HK0.out.2
   have m0:=lt0 k0
   have m1:=lt0 k1
   have f0:=cl0 k0 0 (x:=.slice aW h.words.length cW) rfl
   have f1:=cl0 k0 1 (x:=.int .i64 h.young) rfl
   have f2:=cl0 k0 2 (x:=.int .i64 h.old) rfl
   have f3:=cl0 k0 3 (x:=.int .i64 h.ytop) rfl
   have f4:=cl0 k0 4 (x:=.int .i64 h.otop) rfl
   have f5:=cl0 k0 5 (x:=.slice aO h.noted.length cO) rfl
   have f6:=cl0 k0 6 (x:=.int .i64 h.next) rfl
   have g0:=cl0 k1 0 (x:=.slice aC d.classes.length cC) rfl
   have g1:=cl0 k1 1 (x:=.slice aS d.supers.length cS) rfl
   have g2:=cl0 k1 2 (x:=.slice aF d.fields.length cF) rfl
   have g3:=cl0 k1 3 (x:=.slice aN d.names.length cN) rfl
   have g4:=cl0 k1 4 (x:=.slice aT d.targets.length cT) rfl
   have HC1:=mk0 (HCH.out w1 hb1)
   have HB1:=mk0 hB1
   clear hb1 hB1 k0 k1 HCL
   go_wp2_with fail
   refine HC1.out.mono ?_
   rintro r w2 ⟨rfl,hb2⟩
   have HB2:=mk0 (HB1.out.trans (hb2.mono HB1.out.size))
   clear hb2
   go_wp2_with fail
   go_ret
   exact ⟨rfl,HB2.out⟩
end Go.Proofs.YtjdnmblggdobgaaGreat
