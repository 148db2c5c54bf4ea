import Derived.Test.YtjdnmblggdobgaaGreatRows
import Derived.Test.YtjdnmblggdobgaaGreatJMemChkMeth
import Derived.ProofKit
import Derived.OpenShut
import Derived.Deep.Slices
import Derived.Carry
import Derived.SizedLaws
import Derived.Test.YtjdnmblggdobgaaGreatJLErrLRf4
import Derived.Test.YtjdnmblggdobgaaGreatJHpKHtA
namespace Go.Proofs.YtjdnmblggdobgaaGreat
open Go.ChangeShapes Go.WideShapes Go.ChangeAt Go.RowKit Go.Deep
theorem cInt:Tryz.prog.cellsOf 3=1:=by kernel_rfl
theorem cStr:Tryz.prog.cellsOf 9=1:=by kernel_rfl
theorem cBool:Tryz.prog.cellsOf 4=1:=by kernel_rfl
theorem cKind:Tryz.prog.cellsOf 123=2:=by kernel_rfl
theorem cField:Tryz.prog.cellsOf 125=3:=by kernel_rfl
theorem cHand:Tryz.prog.cellsOf 248=4:=by kernel_rfl
theorem cMeth:Tryz.prog.cellsOf 159=9:=by kernel_rfl
theorem cClass:Tryz.prog.cellsOf 162=4:=by kernel_rfl
theorem cKinds:Tryz.prog.cellsOf 156=1:=by kernel_rfl
theorem cFields:Tryz.prog.cellsOf 126=1:=by kernel_rfl
theorem cHands:Tryz.prog.cellsOf 157=1:=by kernel_rfl
theorem cMeths:Tryz.prog.cellsOf 160=1:=by kernel_rfl
theorem len2 {α:Type} {l:List α} (h:l.length=2):∃c0 c1,l= [c0,c1]:=by
 match l,h with
 | [c0,c1],_=>exact ⟨_,_,rfl⟩
theorem len3 {α:Type} {l:List α} (h:l.length=3):∃c0 c1 c2,l= [c0,c1,c2]:=by
 match l,h with
 | [c0,c1,c2],_=>exact ⟨_,_,_,rfl⟩
theorem len4 {α:Type} {l:List α} (h:l.length=4):∃c0 c1 c2 c3,l= [c0,c1,c2,c3]:=by
 match l,h with
 | [c0,c1,c2,c3],_=>exact ⟨_,_,_,_,rfl⟩
theorem len8 {α:Type} {l:List α} (h:l.length=8):∃c0 c1 c2 c3 c4 c5 c6 c7,l= [c0,c1,c2,c3,c4,c5,c6,c7]:=by
 match l,h with
 | [c0,c1,c2,c3,c4,c5,c6,c7],_=>exact ⟨_,_,_,_,_,_,_,_,rfl⟩
theorem len9 {α:Type} {l:List α} (h:l.length=9):∃c0 c1 c2 c3 c4 c5 c6 c7 c8,l= [c0,c1,c2,c3,c4,c5,c6,c7,c8]:=by
 match l,h with
 | [c0,c1,c2,c3,c4,c5,c6,c7,c8],_=>exact ⟨_,_,_,_,_,_,_,_,_,rfl⟩
theorem zwl {H:Type} {enc:TypeId×Value->H} {w:World} {v:Value} {α:Type} {n:Nat} {R:(Nat->Prop)->World->List Value->α->Prop} {t e:TypeId} (ht:Tryz.prog.underlying t=some (.slice e)) (hce:Tryz.prog.cellsOf e=n) (hn:0<n)
 (hel:∀(fuel:Nat) (cs:List Value) (x:DataW H×List MemPlace),DataW.trod enc Tryz.prog w 0 (fun _=>true) true fuel e cs=some x->∃y:α,R (· <w.heap.size) w cs y)
 {fuel:Nat} {x:DataW H×List MemPlace} (h:DataW.trod enc Tryz.prog w 0 (fun _=>true) true fuel t [v]=some x):∃l:List α,SL n R (· <w.heap.size) w v l:=by
 rcases open_slice ht h with ⟨hcs,_⟩ | ⟨a,len,cap,m,n',D,Pl,hcs,_,hlc,hcm,hm,_,hel2⟩
 ·
  obtain rfl:=(List.cons.inj hcs).1
  exact ⟨[],none,0,rfl,Nat.le_refl _,Nat.zero_le _,fun k hk=>by cases hk⟩
 obtain rfl:=(List.cons.inj hcs).1
 have hlm:len<=m:=by simp at hm;omega
 have each:∀i,i<len->∃(cs:List Value) (y:α),cs.length=n/\(∀j,j<n->w.cell? ((a.add (i*n)).add j)=cs[j]?)/\R (· <w.heap.size) w cs y:=by
  intro i hi
  obtain ⟨cs',h1,h2⟩:=hel2 i (by omega)
  rw [hce]at h1
  obtain ⟨_,hl,hc⟩:=World.cells?_some h1
  obtain ⟨y,hy⟩:=hel _ _ _ h2
  exact ⟨cs',y,hl,hc,hy⟩
 by_cases h0:len=0
 ·
  subst h0
  exact ⟨[],some a,cap,rfl,Nat.zero_le _,Nat.zero_le _,fun k hk=>by cases hk⟩
 obtain ⟨b,off,spot⟩:=a
 obtain ⟨cs0,y0,hl0,hc0,_⟩:=each 0 (by omega)
 have hcell:=hc0 0 hn
 rw [List.getElem?_eq_getElem (by omega)]at hcell
 have hspot:spot=none:=by
  rw [add_add]at hcell
  simpa [Addr.add]using World.cell?_spot hcell
 subst hspot
 have hadd:∀k j,(((⟨b,off,none⟩:Addr).add (k*n)).add j)=⟨b,off+k*n+j,none⟩:=fun k j=>by rw [add_add,add_plain,Nat.add_assoc]
 have hb:b<w.heap.size:=by
  rw [hadd]at hcell
  exact World.block_lt_of_cell? w _ hcell
 obtain ⟨f,hf⟩:∃f:Nat->α,∀i,i<len->∃cs:List Value,cs.length=n/\(∀j,j<n->w.cell? ⟨b,off+i*n+j,none⟩=cs[j]?)/\R (· <w.heap.size) w cs (f i):=by
  classical
  refine ⟨fun i=>if hi:i<len then Classical.choose (Classical.choose_spec (each i hi)) else y0,fun i hi=>?_⟩
  simp only [dif_pos hi]
  obtain ⟨q1,q2,q3⟩:=Classical.choose_spec (Classical.choose_spec (each i hi))
  exact ⟨_,q1,fun j hj=>by rw [<-hadd];exact q2 j hj,q3⟩
 have hlen:((List.range len).map f).length=len:=by simp
 refine ⟨(List.range len).map f,some ⟨b,off,none⟩,cap,by rw [hlen],by rw [hlen];exact hlc,by rw [hlen];omega,fun k hk=>?_⟩
 have hk':k<len:=by rw [hlen]at hk;exact hk
 obtain ⟨cs,q1,q2,q3⟩:=hf k hk'
 exact ⟨b,off,cs,rfl,hb,hb,q1,q2,by simpa using q3⟩
theorem zwm {H:Type} {enc:TypeId×Value->H} {w:World} (fuel:Nat) (cs:List Value) (x:DataW H×List MemPlace) (h:DataW.trod enc Tryz.prog w 0 (fun _=>true) true fuel 123 cs=some x):∃y:KindD,RK (· <w.heap.size) w cs y:=by
 obtain ⟨ys,m,rfl,_,hl,hn,hel⟩:=DataW.trod_struct Tryz.underlying123 h
 rw [cKind]at hl
 have hn2:ys.length=2:=hn
 clear h
 obtain ⟨c0,c1,rfl⟩:=len2 hl
 have g0:=hel 0 _ rfl
 have g1:=hel 1 _ rfl
 simp [cInt,cStr]at g0 g1
 obtain ⟨y0,y1,rfl⟩:=len2 hn2
 obtain ⟨a,ea,_⟩:=DataW.trod_int Tryz.underlying3 g0
 obtain ⟨s,es,_,hs⟩:=DataW.trod_string Tryz.underlying9 g1
 simp at ea es
 subst ea es
 exact ⟨⟨a,s⟩,rfl,hs⟩
theorem zwn {H:Type} {enc:TypeId×Value->H} {w:World} (fuel:Nat) (cs:List Value) (x:DataW H×List MemPlace) (h:DataW.trod enc Tryz.prog w 0 (fun _=>true) true fuel 125 cs=some x):∃y:FieldD,RF (· <w.heap.size) w cs y:=by
 obtain ⟨ys,m,rfl,_,hl,hn,hel⟩:=DataW.trod_struct Tryz.underlying125 h
 rw [cField]at hl
 have hn2:ys.length=2:=hn
 clear h
 obtain ⟨c0,c1,c2,rfl⟩:=len3 hl
 have g0:=hel 0 _ rfl
 have g1:=hel 1 _ rfl
 simp [cStr,cKind]at g0 g1
 obtain ⟨y0,y1,rfl⟩:=len2 hn2
 obtain ⟨s,es,_,hs⟩:=DataW.trod_string Tryz.underlying9 g0
 obtain ⟨k,ek,hk⟩:=zwm _ _ _ g1
 simp at es ek
 obtain ⟨rfl,rfl⟩:=ek
 subst es
 exact ⟨⟨s,k⟩,rfl,hs,hk⟩
theorem zwo {H:Type} {enc:TypeId×Value->H} {w:World} (fuel:Nat) (cs:List Value) (x:DataW H×List MemPlace) (h:DataW.trod enc Tryz.prog w 0 (fun _=>true) true fuel 248 cs=some x):∃y:HandD,RH (· <w.heap.size) w cs y:=by
 obtain ⟨ys,m,rfl,_,hl,hn,hel⟩:=DataW.trod_struct Tryz.underlying248 h
 rw [cHand]at hl
 have hn2:ys.length=4:=hn
 clear h
 obtain ⟨c0,c1,c2,c3,rfl⟩:=len4 hl
 have g0:=hel 0 _ rfl
 have g1:=hel 1 _ rfl
 have g2:=hel 2 _ rfl
 have g3:=hel 3 _ rfl
 simp [cInt,cStr]at g0 g1 g2 g3
 obtain ⟨y0,y1,y2,y3,rfl⟩:=len4 hn2
 obtain ⟨a,ea,_⟩:=DataW.trod_int Tryz.underlying3 g0
 obtain ⟨b,eb,_⟩:=DataW.trod_int Tryz.underlying3 g1
 obtain ⟨c,ec,_⟩:=DataW.trod_int Tryz.underlying3 g2
 obtain ⟨s,es,_,hs⟩:=DataW.trod_string Tryz.underlying9 g3
 simp at ea eb ec es
 subst ea eb ec es
 exact ⟨⟨a,b,c,s⟩,rfl,hs⟩
theorem zwp {H:Type} {enc:TypeId×Value->H} {w:World} (fuel:Nat) (cs:List Value) (x:DataW H×List MemPlace) (h:DataW.trod enc Tryz.prog w 0 (fun _=>true) true fuel 159 cs=some x):∃y:MethD,RM (· <w.heap.size) w cs y:=by
 obtain ⟨ys,m,rfl,_,hl,hn,hel⟩:=DataW.trod_struct Tryz.underlying159 h
 rw [cMeth]at hl
 have hn2:ys.length=8:=hn
 clear h
 obtain ⟨c0,c1,c2,c3,c4,c5,c6,c7,c8,rfl⟩:=len9 hl
 have g0:=hel 0 _ rfl
 have g1:=hel 1 _ rfl
 have g2:=hel 2 _ rfl
 have g3:=hel 3 _ rfl
 have g4:=hel 4 _ rfl
 have g5:=hel 5 _ rfl
 have g6:=hel 6 _ rfl
 have g7:=hel 7 _ rfl
 simp [cInt,cStr,cBool,cKinds,cKind,cHands]at g0 g1 g2 g3 g4 g5 g6 g7
 obtain ⟨y0,y1,y2,y3,y4,y5,y6,y7,rfl⟩:=len8 hn2
 obtain ⟨s,es,_,hs⟩:=DataW.trod_string Tryz.underlying9 g0
 obtain ⟨b,eb,_⟩:=DataW.trod_bool Tryz.underlying4 g1
 obtain ⟨args,ha⟩:=zwl Tryz.underlying156 cKind (by omega) zwm g2
 obtain ⟨k,ek,hk⟩:=zwm _ _ _ g3
 obtain ⟨st,est,_⟩:=DataW.trod_int Tryz.underlying3 g4
 obtain ⟨lo,elo,_⟩:=DataW.trod_int Tryz.underlying3 g5
 obtain ⟨co,eco,_,hco⟩:=DataW.trod_string Tryz.underlying9 g6
 obtain ⟨hands,hh⟩:=zwl Tryz.underlying157 cHand (by omega) zwo g7
 simp at es eb ek est elo eco
 obtain ⟨rfl,rfl⟩:=ek
 subst es eb est elo eco
 exact ⟨⟨s,b,args,k,st,lo,co,hands⟩,_,_,rfl,ha,hh,hs,hk,hco⟩
theorem zwq {H:Type} {enc:TypeId×Value->H} {w:World} (fuel:Nat) (cs:List Value) (x:DataW H×List MemPlace) (h:DataW.trod enc Tryz.prog w 0 (fun _=>true) true fuel 162 cs=some x):∃y:ClassD,RC (· <w.heap.size) w cs y:=by
 obtain ⟨ys,m,rfl,_,hl,hn,hel⟩:=DataW.trod_struct Tryz.underlying162 h
 rw [cClass]at hl
 have hn2:ys.length=4:=hn
 clear h
 obtain ⟨c0,c1,c2,c3,rfl⟩:=len4 hl
 have g0:=hel 0 _ rfl
 have g1:=hel 1 _ rfl
 have g2:=hel 2 _ rfl
 have g3:=hel 3 _ rfl
 simp [cStr,cFields,cMeths]at g0 g1 g2 g3
 obtain ⟨y0,y1,y2,y3,rfl⟩:=len4 hn2
 obtain ⟨s,es,_,hs⟩:=DataW.trod_string Tryz.underlying9 g0
 obtain ⟨u,eu,_,hu⟩:=DataW.trod_string Tryz.underlying9 g1
 obtain ⟨fields,hf⟩:=zwl Tryz.underlying126 cField (by omega) zwn g2
 obtain ⟨meths,hm⟩:=zwl Tryz.underlying160 cMeth (by omega) zwp g3
 simp at es eu
 subst es eu
 exact ⟨⟨s,u,fields,meths⟩,_,_,rfl,hf,hm,hs,hu⟩
theorem zwr {H:Type} {enc:TypeId×Value->H} {w:World} {v:Value} {fuel:Nat} {x:DataW H×List MemPlace} (h:DataW.trod enc Tryz.prog w 0 (fun _=>true) true fuel 31 [v]=some x):∃l:List ClassD,SL 4 RC (· <w.heap.size) w v l:=
 zwl Tryz.underlying31 cClass (by omega) zwq h
theorem cTarg:Tryz.prog.cellsOf 233=2:=by kernel_rfl
theorem cLk:Tryz.prog.cellsOf 36=5:=by kernel_rfl
theorem cClasses:Tryz.prog.cellsOf 31=1:=by kernel_rfl
theorem cInts:Tryz.prog.cellsOf 22=1:=by kernel_rfl
theorem cStrs:Tryz.prog.cellsOf 225=1:=by kernel_rfl
theorem cTargs:Tryz.prog.cellsOf 226=1:=by kernel_rfl
theorem cFieldss:Tryz.prog.cellsOf 32=1:=by kernel_rfl
theorem cStrss:Tryz.prog.cellsOf 33=1:=by kernel_rfl
theorem cTargss:Tryz.prog.cellsOf 34=1:=by kernel_rfl
theorem len5 {α:Type} {l:List α} (h:l.length=5):∃c0 c1 c2 c3 c4,l= [c0,c1,c2,c3,c4]:=by
 match l,h with
 | [c0,c1,c2,c3,c4],_=>exact ⟨_,_,_,_,_,rfl⟩
theorem zws {H:Type} {enc:TypeId×Value->H} {w:World} (fuel:Nat) (cs:List Value) (x:DataW H×List MemPlace) (h:DataW.trod enc Tryz.prog w 0 (fun _=>true) true fuel 3 cs=some x):∃y:Int,RI (· <w.heap.size) w cs y:=by
 obtain ⟨a,ea,_⟩:=DataW.trod_int Tryz.underlying3 h
 exact ⟨a,ea⟩
theorem zwt {H:Type} {enc:TypeId×Value->H} {w:World} (fuel:Nat) (cs:List Value) (x:DataW H×List MemPlace) (h:DataW.trod enc Tryz.prog w 0 (fun _=>true) true fuel 9 cs=some x):∃y:ByteArray,RS (· <w.heap.size) w cs y:=by
 obtain ⟨s,es,_,hs⟩:=DataW.trod_string Tryz.underlying9 h
 exact ⟨s,es,hs⟩
theorem zwu {H:Type} {enc:TypeId×Value->H} {w:World} (fuel:Nat) (cs:List Value) (x:DataW H×List MemPlace) (h:DataW.trod enc Tryz.prog w 0 (fun _=>true) true fuel 233 cs=some x):∃y:TargD,RT (· <w.heap.size) w cs y:=by
 obtain ⟨ys,m,rfl,_,hl,hn,hel⟩:=DataW.trod_struct Tryz.underlying233 h
 rw [cTarg]at hl
 have hn2:ys.length=2:=hn
 clear h
 obtain ⟨c0,c1,rfl⟩:=len2 hl
 have g0:=hel 0 _ rfl
 have g1:=hel 1 _ rfl
 simp [cInt]at g0 g1
 obtain ⟨y0,y1,rfl⟩:=len2 hn2
 obtain ⟨a,ea,_⟩:=DataW.trod_int Tryz.underlying3 g0
 obtain ⟨b,eb,_⟩:=DataW.trod_int Tryz.underlying3 g1
 simp at ea eb
 subst ea eb
 exact ⟨⟨a,b⟩,rfl⟩
theorem zwv {H:Type} {enc:TypeId×Value->H} {w:World} {α:Type} {n:Nat} {R:(Nat->Prop)->World->List Value->α->Prop} {t e:TypeId} (ht:Tryz.prog.underlying t=some (.slice e)) (hce:Tryz.prog.cellsOf e=n) (hn:0<n)
 (hel:∀(fuel:Nat) (cs:List Value) (x:DataW H×List MemPlace),DataW.trod enc Tryz.prog w 0 (fun _=>true) true fuel e cs=some x->∃y:α,R (· <w.heap.size) w cs y)
 (fuel:Nat) (cs:List Value) (x:DataW H×List MemPlace) (h:DataW.trod enc Tryz.prog w 0 (fun _=>true) true fuel t cs=some x):∃y:List α,RSl n R (· <w.heap.size) w cs y:=by
 have hl:∃v,cs= [v]:=by
  rcases open_slice ht h with ⟨hcs,_⟩ | ⟨a,len,cap,m,n',D,Pl,hcs,_⟩
  ·
   exact ⟨_,hcs⟩
  exact ⟨_,hcs⟩
 obtain ⟨v,rfl⟩:=hl
 obtain ⟨l,hl⟩:=zwl ht hce hn hel h
 exact ⟨l,v,rfl,hl⟩
theorem linked_reads {H:Type} {enc:TypeId×Value->H} {w:World} {fuel:Nat} {cs:List Value} {x:DataW H×List MemPlace} (h:DataW.trod enc Tryz.prog w 0 (fun _=>true) true fuel 36 cs=some x):
 ∃kC kS kF kN kT d,cs= [kC,kS,kF,kN,kT]/\RLk (· <w.heap.size) w kC kS kF kN kT d:=by
 obtain ⟨ys,m,rfl,_,hl,hn,hel⟩:=DataW.trod_struct Tryz.underlying36 h
 rw [cLk]at hl
 clear h
 obtain ⟨c0,c1,c2,c3,c4,rfl⟩:=len5 hl
 have g0:=hel 0 _ rfl
 have g1:=hel 1 _ rfl
 have g2:=hel 2 _ rfl
 have g3:=hel 3 _ rfl
 have g4:=hel 4 _ rfl
 simp [cClasses,cInts,cFieldss,cStrss,cTargss]at g0 g1 g2 g3 g4
 have hn2:ys.length=5:=hn
 obtain ⟨y0,y1,y2,y3,y4,rfl⟩:=len5 hn2
 obtain ⟨l0,h0⟩:=zwr g0
 obtain ⟨l1,h1⟩:=zwl Tryz.underlying22 cInt (by omega) zws g1
 obtain ⟨l2,h2⟩:=zwl Tryz.underlying32 cFields (by omega) (zwv Tryz.underlying126 cField (by omega) zwn) g2
 obtain ⟨l3,h3⟩:=zwl Tryz.underlying33 cStrs (by omega) (zwv Tryz.underlying225 cStr (by omega) zwt) g3
 obtain ⟨l4,h4⟩:=zwl Tryz.underlying34 cTargs (by omega) (zwv Tryz.underlying226 cTarg (by omega) zwu) g4
 exact ⟨_,_,_,_,_,⟨l0,l1,l2,l3,l4⟩,rfl,h0,h1,h2,h3,h4⟩
theorem cHp:Tryz.prog.cellsOf 24=7:=by kernel_rfl
theorem len7 {α:Type} {l:List α} (h:l.length=7):∃c0 c1 c2 c3 c4 c5 c6,l= [c0,c1,c2,c3,c4,c5,c6]:=by
 match l,h with
 | [c0,c1,c2,c3,c4,c5,c6],_=>exact ⟨_,_,_,_,_,_,_,rfl⟩
def RIW (M:Nat->Prop) (w:World) (cs:List Value) (y:Int):Prop:=RI M w cs y/\(Lit.int .i64 y).wf=true
theorem zww {H:Type} {enc:TypeId×Value->H} {w:World} (fuel:Nat) (cs:List Value) (x:DataW H×List MemPlace) (h:DataW.trod enc Tryz.prog w 0 (fun _=>true) true fuel 3 cs=some x):∃y:Int,RIW (· <w.heap.size) w cs y:=by
 obtain ⟨a,ea,_,hw⟩:=DataW.trod_int Tryz.underlying3 h
 exact ⟨a,ea,hw⟩
theorem SL.riw {M:Nat->Prop} {w:World} {v:Value} {l:List Int} (h:SL 1 RIW M w v l):SL 1 RI M w v l/\∀x∈l,(Lit.int .i64 x).wf=true:=by
 obtain ⟨ao,cap,e,h1,h2,h3⟩:=h
 refine ⟨⟨ao,cap,e,h1,h2,fun k hk=>?_⟩,fun x hx=>?_⟩
 ·
  obtain ⟨b,off,cs,e1,e2,e3,e4,e5,e6⟩:=h3 k hk
  exact ⟨b,off,cs,e1,e2,e3,e4,e5,e6.1⟩
 obtain ⟨k,hk,rfl⟩:=List.getElem_of_mem hx
 obtain ⟨b,off,cs,e1,e2,e3,e4,e5,e6⟩:=h3 k hk
 exact e6.2
theorem heap_reads {H:Type} {enc:TypeId×Value->H} {w:World} {fuel:Nat} {cs:List Value} {x:DataW H×List MemPlace} (h:DataW.trod enc Tryz.prog w 0 (fun _=>true) true fuel 24 cs=some x):
 ∃(vW vO:Value) (hp:HeapD),cs= [vW,.int .i64 hp.young,.int .i64 hp.old,.int .i64 hp.ytop,.int .i64 hp.otop,vO,.int .i64 hp.next]/\SL 1 RI (· <w.heap.size) w vW hp.words/\SL 1 RI (· <w.heap.size) w vO hp.noted/\(∀x∈hp.words,(Lit.int .i64 x).wf=true)/\(∀x∈hp.noted,(Lit.int .i64 x).wf=true)/\(Lit.int .i64 hp.next).wf=true:=by
 obtain ⟨ys,m,rfl,_,hl,hn,hel⟩:=DataW.trod_struct Tryz.underlying24 h
 rw [cHp]at hl
 clear h
 obtain ⟨c0,c1,c2,c3,c4,c5,c6,rfl⟩:=len7 hl
 have g0:=hel 0 _ rfl
 have g1:=hel 1 _ rfl
 have g2:=hel 2 _ rfl
 have g3:=hel 3 _ rfl
 have g4:=hel 4 _ rfl
 have g5:=hel 5 _ rfl
 have g6:=hel 6 _ rfl
 simp [cInts,cInt]at g0 g1 g2 g3 g4 g5 g6
 have hn2:ys.length=7:=hn
 obtain ⟨y0,y1,y2,y3,y4,y5,y6,rfl⟩:=len7 hn2
 obtain ⟨l0,h0⟩:=zwl Tryz.underlying22 cInt (by omega) zww g0
 obtain ⟨a1,e1,_⟩:=DataW.trod_int Tryz.underlying3 g1
 obtain ⟨a2,e2,_⟩:=DataW.trod_int Tryz.underlying3 g2
 obtain ⟨a3,e3,_⟩:=DataW.trod_int Tryz.underlying3 g3
 obtain ⟨a4,e4,_⟩:=DataW.trod_int Tryz.underlying3 g4
 obtain ⟨l5,h5⟩:=zwl Tryz.underlying22 cInt (by omega) zww g5
 obtain ⟨a6,e6,_,w6⟩:=DataW.trod_int Tryz.underlying3 g6
 simp at e1 e2 e3 e4 e6
 subst e1 e2 e3 e4 e6
 exact ⟨_,_,⟨l0,a1,a2,a3,a4,l5,a6⟩,rfl,h0.riw.1,h5.riw.1,h0.riw.2,h5.riw.2,w6⟩
end Go.Proofs.YtjdnmblggdobgaaGreat
