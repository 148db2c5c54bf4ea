import Derived.Test.YtcddpmappmjilaaGreatDoorRows
import Derived.Test.YtcddpmappmjilaaGreatDoorJChkLeafChkClass
import Derived.ProofKit
import Derived.OpenShut
import Derived.Deep.Slices
import Derived.Carry
import Derived.SizedLaws
namespace Go.Proofs.YtcddpmappmjilaaGreatDoor
open Go.ChangeShapes Go.WideShapes Go.ChangeAt Go.RowKit Go.Deep
theorem cInt:Tryz.prog.cellsOf 3=1:=by kernel_rfl
theorem cStr:Tryz.prog.cellsOf 9=1:=by kernel_rfl
theorem cBool:Tryz.prog.cellsOf 4=1:=by kernel_rfl
theorem cKind:Tryz.prog.cellsOf 80=2:=by kernel_rfl
theorem cField:Tryz.prog.cellsOf 85=3:=by kernel_rfl
theorem cHand:Tryz.prog.cellsOf 98=4:=by kernel_rfl
theorem cMeth:Tryz.prog.cellsOf 83=9:=by kernel_rfl
theorem cClass:Tryz.prog.cellsOf 63=4:=by kernel_rfl
theorem cKinds:Tryz.prog.cellsOf 78=1:=by kernel_rfl
theorem cFields:Tryz.prog.cellsOf 54=1:=by kernel_rfl
theorem cHands:Tryz.prog.cellsOf 81=1:=by kernel_rfl
theorem cMeths:Tryz.prog.cellsOf 61=1:=by kernel_rfl
theorem len2 {α:Type} {l:List α} (h:l.length=2):∃c0 c1,l= [c0,c1]:=by
 match l,h with
 | [c0,c1],_=>exact ⟨_,_,rfl⟩
theorem len3 {α:Type} {l:List α} (h:l.length=3):∃c0 c1 c2,l= [c0,c1,c2]:=by
 match l,h with
 | [c0,c1,c2],_=>exact ⟨_,_,_,rfl⟩
theorem len4 {α:Type} {l:List α} (h:l.length=4):∃c0 c1 c2 c3,l= [c0,c1,c2,c3]:=by
 match l,h with
 | [c0,c1,c2,c3],_=>exact ⟨_,_,_,_,rfl⟩
theorem len8 {α:Type} {l:List α} (h:l.length=8):∃c0 c1 c2 c3 c4 c5 c6 c7,l= [c0,c1,c2,c3,c4,c5,c6,c7]:=by
 match l,h with
 | [c0,c1,c2,c3,c4,c5,c6,c7],_=>exact ⟨_,_,_,_,_,_,_,_,rfl⟩
theorem len9 {α:Type} {l:List α} (h:l.length=9):∃c0 c1 c2 c3 c4 c5 c6 c7 c8,l= [c0,c1,c2,c3,c4,c5,c6,c7,c8]:=by
 match l,h with
 | [c0,c1,c2,c3,c4,c5,c6,c7,c8],_=>exact ⟨_,_,_,_,_,_,_,_,_,rfl⟩
theorem sl_reads {H:Type} {enc:TypeId×Value->H} {w:World} {v:Value} {α:Type} {n:Nat} {R:(Nat->Prop)->World->List Value->α->Prop} {t e:TypeId} (ht:Tryz.prog.underlying t=some (.slice e)) (hce:Tryz.prog.cellsOf e=n) (hn:0<n)
 (hel:∀(fuel:Nat) (cs:List Value) (x:DataW H×List MemPlace),DataW.trod enc Tryz.prog w 0 (fun _=>true) true fuel e cs=some x->∃y:α,R (· <w.heap.size) w cs y)
 {fuel:Nat} {x:DataW H×List MemPlace} (h:DataW.trod enc Tryz.prog w 0 (fun _=>true) true fuel t [v]=some x):∃l:List α,SL n R (· <w.heap.size) w v l:=by
 rcases open_slice ht h with ⟨hcs,_⟩ | ⟨a,len,cap,m,n',D,Pl,hcs,_,hlc,hcm,hm,_,hel2⟩
 ·
  obtain rfl:=(List.cons.inj hcs).1
  exact ⟨[],none,0,rfl,Nat.le_refl _,Nat.zero_le _,fun k hk=>by cases hk⟩
 obtain rfl:=(List.cons.inj hcs).1
 have hlm:len<=m:=by simp at hm;omega
 have each:∀i,i<len->∃(cs:List Value) (y:α),cs.length=n/\(∀j,j<n->w.cell? ((a.add (i*n)).add j)=cs[j]?)/\R (· <w.heap.size) w cs y:=by
  intro i hi
  obtain ⟨cs',h1,h2⟩:=hel2 i (by omega)
  rw [hce]at h1
  obtain ⟨_,hl,hc⟩:=World.cells?_some h1
  obtain ⟨y,hy⟩:=hel _ _ _ h2
  exact ⟨cs',y,hl,hc,hy⟩
 by_cases h0:len=0
 ·
  subst h0
  exact ⟨[],some a,cap,rfl,Nat.zero_le _,Nat.zero_le _,fun k hk=>by cases hk⟩
 obtain ⟨b,off,spot⟩:=a
 obtain ⟨cs0,y0,hl0,hc0,_⟩:=each 0 (by omega)
 have hcell:=hc0 0 hn
 rw [List.getElem?_eq_getElem (by omega)]at hcell
 have hspot:spot=none:=by
  rw [add_add]at hcell
  simpa [Addr.add]using World.cell?_spot hcell
 subst hspot
 have hadd:∀k j,(((⟨b,off,none⟩:Addr).add (k*n)).add j)=⟨b,off+k*n+j,none⟩:=fun k j=>by rw [add_add,add_plain,Nat.add_assoc]
 have hb:b<w.heap.size:=by
  rw [hadd]at hcell
  exact World.block_lt_of_cell? w _ hcell
 obtain ⟨f,hf⟩:∃f:Nat->α,∀i,i<len->∃cs:List Value,cs.length=n/\(∀j,j<n->w.cell? ⟨b,off+i*n+j,none⟩=cs[j]?)/\R (· <w.heap.size) w cs (f i):=by
  classical
  refine ⟨fun i=>if hi:i<len then Classical.choose (Classical.choose_spec (each i hi)) else y0,fun i hi=>?_⟩
  simp only [dif_pos hi]
  obtain ⟨q1,q2,q3⟩:=Classical.choose_spec (Classical.choose_spec (each i hi))
  exact ⟨_,q1,fun j hj=>by rw [<-hadd];exact q2 j hj,q3⟩
 have hlen:((List.range len).map f).length=len:=by simp
 refine ⟨(List.range len).map f,some ⟨b,off,none⟩,cap,by rw [hlen],by rw [hlen];exact hlc,by rw [hlen];omega,fun k hk=>?_⟩
 have hk':k<len:=by rw [hlen]at hk;exact hk
 obtain ⟨cs,q1,q2,q3⟩:=hf k hk'
 exact ⟨b,off,cs,rfl,hb,hb,q1,q2,by simpa using q3⟩
theorem kind_reads {H:Type} {enc:TypeId×Value->H} {w:World} (fuel:Nat) (cs:List Value) (x:DataW H×List MemPlace) (h:DataW.trod enc Tryz.prog w 0 (fun _=>true) true fuel 80 cs=some x):∃y:KindD,RK (· <w.heap.size) w cs y:=by
 obtain ⟨ys,m,rfl,_,hl,hn,hel⟩:=DataW.trod_struct Tryz.underlying80 h
 rw [cKind]at hl
 have hn2:ys.length=2:=hn
 clear h
 obtain ⟨c0,c1,rfl⟩:=len2 hl
 have g0:=hel 0 _ rfl
 have g1:=hel 1 _ rfl
 simp [cInt,cStr]at g0 g1
 obtain ⟨y0,y1,rfl⟩:=len2 hn2
 obtain ⟨a,ea,_⟩:=DataW.trod_int Tryz.underlying3 g0
 obtain ⟨s,es,_,hs⟩:=DataW.trod_string Tryz.underlying9 g1
 simp at ea es
 subst ea es
 exact ⟨⟨a,s⟩,rfl,hs⟩
theorem field_reads {H:Type} {enc:TypeId×Value->H} {w:World} (fuel:Nat) (cs:List Value) (x:DataW H×List MemPlace) (h:DataW.trod enc Tryz.prog w 0 (fun _=>true) true fuel 85 cs=some x):∃y:FieldD,RF (· <w.heap.size) w cs y:=by
 obtain ⟨ys,m,rfl,_,hl,hn,hel⟩:=DataW.trod_struct Tryz.underlying85 h
 rw [cField]at hl
 have hn2:ys.length=2:=hn
 clear h
 obtain ⟨c0,c1,c2,rfl⟩:=len3 hl
 have g0:=hel 0 _ rfl
 have g1:=hel 1 _ rfl
 simp [cStr,cKind]at g0 g1
 obtain ⟨y0,y1,rfl⟩:=len2 hn2
 obtain ⟨s,es,_,hs⟩:=DataW.trod_string Tryz.underlying9 g0
 obtain ⟨k,ek,hk⟩:=kind_reads _ _ _ g1
 simp at es ek
 obtain ⟨rfl,rfl⟩:=ek
 subst es
 exact ⟨⟨s,k⟩,rfl,hs,hk⟩
theorem hand_reads {H:Type} {enc:TypeId×Value->H} {w:World} (fuel:Nat) (cs:List Value) (x:DataW H×List MemPlace) (h:DataW.trod enc Tryz.prog w 0 (fun _=>true) true fuel 98 cs=some x):∃y:HandD,RH (· <w.heap.size) w cs y:=by
 obtain ⟨ys,m,rfl,_,hl,hn,hel⟩:=DataW.trod_struct Tryz.underlying98 h
 rw [cHand]at hl
 have hn2:ys.length=4:=hn
 clear h
 obtain ⟨c0,c1,c2,c3,rfl⟩:=len4 hl
 have g0:=hel 0 _ rfl
 have g1:=hel 1 _ rfl
 have g2:=hel 2 _ rfl
 have g3:=hel 3 _ rfl
 simp [cInt,cStr]at g0 g1 g2 g3
 obtain ⟨y0,y1,y2,y3,rfl⟩:=len4 hn2
 obtain ⟨a,ea,_⟩:=DataW.trod_int Tryz.underlying3 g0
 obtain ⟨b,eb,_⟩:=DataW.trod_int Tryz.underlying3 g1
 obtain ⟨c,ec,_⟩:=DataW.trod_int Tryz.underlying3 g2
 obtain ⟨s,es,_,hs⟩:=DataW.trod_string Tryz.underlying9 g3
 simp at ea eb ec es
 subst ea eb ec es
 exact ⟨⟨a,b,c,s⟩,rfl,hs⟩
theorem meth_reads {H:Type} {enc:TypeId×Value->H} {w:World} (fuel:Nat) (cs:List Value) (x:DataW H×List MemPlace) (h:DataW.trod enc Tryz.prog w 0 (fun _=>true) true fuel 83 cs=some x):∃y:MethD,RM (· <w.heap.size) w cs y:=by
 obtain ⟨ys,m,rfl,_,hl,hn,hel⟩:=DataW.trod_struct Tryz.underlying83 h
 rw [cMeth]at hl
 have hn2:ys.length=8:=hn
 clear h
 obtain ⟨c0,c1,c2,c3,c4,c5,c6,c7,c8,rfl⟩:=len9 hl
 have g0:=hel 0 _ rfl
 have g1:=hel 1 _ rfl
 have g2:=hel 2 _ rfl
 have g3:=hel 3 _ rfl
 have g4:=hel 4 _ rfl
 have g5:=hel 5 _ rfl
 have g6:=hel 6 _ rfl
 have g7:=hel 7 _ rfl
 simp [cInt,cStr,cBool,cKinds,cKind,cHands]at g0 g1 g2 g3 g4 g5 g6 g7
 obtain ⟨y0,y1,y2,y3,y4,y5,y6,y7,rfl⟩:=len8 hn2
 obtain ⟨s,es,_,hs⟩:=DataW.trod_string Tryz.underlying9 g0
 obtain ⟨b,eb,_⟩:=DataW.trod_bool Tryz.underlying4 g1
 obtain ⟨args,ha⟩:=sl_reads Tryz.underlying78 cKind (by omega) kind_reads g2
 obtain ⟨k,ek,hk⟩:=kind_reads _ _ _ g3
 obtain ⟨st,est,_⟩:=DataW.trod_int Tryz.underlying3 g4
 obtain ⟨lo,elo,_⟩:=DataW.trod_int Tryz.underlying3 g5
 obtain ⟨co,eco,_,hco⟩:=DataW.trod_string Tryz.underlying9 g6
 obtain ⟨hands,hh⟩:=sl_reads Tryz.underlying81 cHand (by omega) hand_reads g7
 simp at es eb ek est elo eco
 obtain ⟨rfl,rfl⟩:=ek
 subst es eb est elo eco
 exact ⟨⟨s,b,args,k,st,lo,co,hands⟩,_,_,rfl,ha,hh,hs,hk,hco⟩
theorem class_reads {H:Type} {enc:TypeId×Value->H} {w:World} (fuel:Nat) (cs:List Value) (x:DataW H×List MemPlace) (h:DataW.trod enc Tryz.prog w 0 (fun _=>true) true fuel 63 cs=some x):∃y:ClassD,RC (· <w.heap.size) w cs y:=by
 obtain ⟨ys,m,rfl,_,hl,hn,hel⟩:=DataW.trod_struct Tryz.underlying63 h
 rw [cClass]at hl
 have hn2:ys.length=4:=hn
 clear h
 obtain ⟨c0,c1,c2,c3,rfl⟩:=len4 hl
 have g0:=hel 0 _ rfl
 have g1:=hel 1 _ rfl
 have g2:=hel 2 _ rfl
 have g3:=hel 3 _ rfl
 simp [cStr,cFields,cMeths]at g0 g1 g2 g3
 obtain ⟨y0,y1,y2,y3,rfl⟩:=len4 hn2
 obtain ⟨s,es,_,hs⟩:=DataW.trod_string Tryz.underlying9 g0
 obtain ⟨u,eu,_,hu⟩:=DataW.trod_string Tryz.underlying9 g1
 obtain ⟨fields,hf⟩:=sl_reads Tryz.underlying54 cField (by omega) field_reads g2
 obtain ⟨meths,hm⟩:=sl_reads Tryz.underlying61 cMeth (by omega) meth_reads g3
 simp at es eu
 subst es eu
 exact ⟨⟨s,u,fields,meths⟩,_,_,rfl,hf,hm,hs,hu⟩
theorem classes_reads {H:Type} {enc:TypeId×Value->H} {w:World} {v:Value} {fuel:Nat} {x:DataW H×List MemPlace} (h:DataW.trod enc Tryz.prog w 0 (fun _=>true) true fuel 22 [v]=some x):∃l:List ClassD,SL 4 RC (· <w.heap.size) w v l:=
 sl_reads Tryz.underlying22 cClass (by omega) class_reads h
end Go.Proofs.YtcddpmappmjilaaGreatDoor
