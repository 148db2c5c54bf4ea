import Derived.Test.YtjdnmblggdobgaaGreatRows
import Derived.Test.YtjdnmblggdobgaaGreatJMemChkMeth
import Derived.ProofKit
import Derived.OpenShut
import Derived.Deep.Slices
import Derived.Carry
import Derived.SizedLaws
import Derived.Test.YtjdnmblggdobgaaGreatJLErrLRf4
import Derived.Test.YtjdnmblggdobgaaGreatJHpKHtA
namespace Go.Proofs.YtjdnmblggdobgaaGreat
open Go.ChangeShapes Go.WideShapes Go.ChangeAt Go.RowKit Go.Deep
theorem cInt:Tryz.prog.cellsOf 3=1:=by kernel_rfl
theorem cStr:Tryz.prog.cellsOf 9=1:=by kernel_rfl
theorem cBool:Tryz.prog.cellsOf 4=1:=by kernel_rfl
theorem cKind:Tryz.prog.cellsOf 123=2:=by kernel_rfl
theorem cField:Tryz.prog.cellsOf 125=3:=by kernel_rfl
theorem cHand:Tryz.prog.cellsOf 248=4:=by kernel_rfl
theorem cMeth:Tryz.prog.cellsOf 159=9:=by kernel_rfl
theorem cClass:Tryz.prog.cellsOf 162=4:=by kernel_rfl
theorem cKinds:Tryz.prog.cellsOf 156=1:=by kernel_rfl
theorem cFields:Tryz.prog.cellsOf 126=1:=by kernel_rfl
theorem cHands:Tryz.prog.cellsOf 157=1:=by kernel_rfl
theorem cMeths:Tryz.prog.cellsOf 160=1:=by kernel_rfl
theorem len2 {α:Type} {l:List α} (h:l.length=2):∃c0 c1,l= [c0,c1]:=by
 match l,h with
 | [c0,c1],_=>exact ⟨_,_,rfl⟩
theorem len3 {α:Type} {l:List α} (h:l.length=3):∃c0 c1 c2,l= [c0,c1,c2]:=by
 match l,h with
 | [c0,c1,c2],_=>exact ⟨_,_,_,rfl⟩
theorem len4 {α:Type} {l:List α} (h:l.length=4):∃c0 c1 c2 c3,l= [c0,c1,c2,c3]:=by
 match l,h with
 | [c0,c1,c2,c3],_=>exact ⟨_,_,_,_,rfl⟩
theorem len8 {α:Type} {l:List α} (h:l.length=8):∃c0 c1 c2 c3 c4 c5 c6 c7,l= [c0,c1,c2,c3,c4,c5,c6,c7]:=by
 match l,h with
 | [c0,c1,c2,c3,c4,c5,c6,c7],_=>exact ⟨_,_,_,_,_,_,_,_,rfl⟩
theorem len9 {α:Type} {l:List α} (h:l.length=9):∃c0 c1 c2 c3 c4 c5 c6 c7 c8,l= [c0,c1,c2,c3,c4,c5,c6,c7,c8]:=by
 match l,h with
 | [c0,c1,c2,c3,c4,c5,c6,c7,c8],_=>exact ⟨_,_,_,_,_,_,_,_,_,rfl⟩
theorem z1o {H:Type} {enc:TypeId×Value->H} {w:World} {v:Value} {α:Type} {n:Nat} {R:(Nat->Prop)->World->List Value->α->Prop} {t e:TypeId} (ht:Tryz.prog.underlying t=some (.slice e)) (X:Tryz.prog.cellsOf e=n) (hn:0<n)
 (Y:∀(fuel:Nat) (E:List Value) (x:DataW H×List MemPlace),DataW.trod enc Tryz.prog w 0 (fun _=>true) true fuel e E=some x->∃y:α,R (· <w.heap.size) w E y)
 {fuel:Nat} {x:DataW H×List MemPlace} (h:DataW.trod enc Tryz.prog w 0 (fun _=>true) true fuel t [v]=some x):∃l:List α,SL n R (· <w.heap.size) w v l:=by
 rcases open_slice ht h with ⟨I,_⟩ | ⟨a,len,cap,m,n',D,Pl,I,_,aa,ad,hm,_,N⟩
 ·obtain rfl:=(List.cons.inj I).1;exact ⟨[],none,0,rfl,nlq _,n0q _,fun k L=>by cases L⟩
 obtain rfl:=(List.cons.inj I).1;have af:len<=m:=by simp at hm;omega
 have F:∀i,i<len->∃(E:List Value) (y:α),E.length=n/\(∀j,j<n->w.cell? ((a.add (i*n)).add j)=E[j]?)/\R (· <w.heap.size) w E y:=by intro i hi;obtain ⟨V,h1,h2⟩:=N i (by omega);rw [X]at h1;obtain ⟨_,hl,hc⟩:=World.cells?_some h1;obtain ⟨y,hy⟩:=Y _ _ _ h2;exact ⟨V,y,hl,hc,hy⟩
 by_cases h0:len=0
 ·subst h0;exact ⟨[],some a,cap,rfl,n0q _,n0q _,fun k L=>by cases L⟩
 obtain ⟨b,off,O⟩:=a;obtain ⟨ac,y0,ae,W,_⟩:=F 0 (by omega);have u:=W 0 hn;rw [List.getElem?_eq_getElem (by omega)]at u;have J:O=none:=by rw [add_add]at u;simpa [Addr.add]using World.cell?_spot u
 subst J;have G:∀k j,(((⟨b,off,none⟩:Addr).add (k*n)).add j)=⟨b,off+k*n+j,none⟩:=fun k j=>by rw [add_add,add_plain,Nat.add_assoc]
 have hb:b<w.heap.size:=by rw [G]at u;exact World.block_lt_of_cell? w _ u
 obtain ⟨f,hf⟩:∃f:Nat->α,∀i,i<len->∃E:List Value,E.length=n/\(∀j,j<n->w.cell? ⟨b,off+i*n+j,none⟩=E[j]?)/\R (· <w.heap.size) w E (f i):=by
  classical
  refine ⟨fun i=>if hi:i<len then Classical.choose (Classical.choose_spec (F i hi)) else y0,fun i hi=>?_⟩;simp only [dif_pos hi];obtain ⟨q1,q2,q3⟩:=Classical.choose_spec (Classical.choose_spec (F i hi));exact ⟨_,q1,fun j hj=>by rw [<-G];exact q2 j hj,q3⟩
 have A:((List.range len).map f).length=len:=by simp
 refine ⟨(List.range len).map f,some ⟨b,off,none⟩,cap,by rw [A],by rw [A];exact aa,by rw [A];omega,fun k L=>?_⟩;have Z:k<len:=by rw [A]at L;exact L
 obtain ⟨E,q1,q2,q3⟩:=hf k Z;exact ⟨b,off,E,rfl,hb,hb,q1,q2,by simpa using q3⟩
theorem z1p {H:Type} {enc:TypeId×Value->H} {w:World} (fuel:Nat) (D:List Value) (x:DataW H×List MemPlace) (h:DataW.trod enc Tryz.prog w 0 (fun _=>true) true fuel 123 D=some x):∃y:ew,RK (· <w.heap.size) w D y:=by obtain ⟨O,m,rfl,_,J,L,u⟩:=DataW.trod_struct Tryz.underlying123 h;rw [cKind]at J;have A:O.length=2:=L;clear h;obtain ⟨V,W,rfl⟩:=len2 J;have G:=u 0 _ rfl;have I:=u 1 _ rfl;simp [cInt,cStr]at G I;obtain ⟨X,Y,rfl⟩:=len2 A;obtain ⟨a,E,_⟩:=DataW.trod_int Tryz.underlying3 G;obtain ⟨s,F,_,N⟩:=DataW.trod_string Tryz.underlying9 I;simp at E F;subst E F;exact ⟨⟨a,s⟩,rfl,N⟩
theorem z1q {H:Type} {enc:TypeId×Value->H} {w:World} (fuel:Nat) (D:List Value) (x:DataW H×List MemPlace) (h:DataW.trod enc Tryz.prog w 0 (fun _=>true) true fuel 125 D=some x):∃y:bo,RF (· <w.heap.size) w D y:=by obtain ⟨V,m,rfl,_,J,N,u⟩:=DataW.trod_struct Tryz.underlying125 h;rw [cField]at J;have A:V.length=2:=N;clear h;obtain ⟨W,X,Y,rfl⟩:=len3 J;have G:=u 0 _ rfl;have I:=u 1 _ rfl;simp [cStr,cKind]at G I;obtain ⟨Z,y1,rfl⟩:=len2 A;obtain ⟨s,F,_,O⟩:=DataW.trod_string Tryz.underlying9 G;obtain ⟨k,E,L⟩:=z1p _ _ _ I;simp at F E;obtain ⟨rfl,rfl⟩:=E;subst F;exact ⟨⟨s,k⟩,rfl,O,L⟩
theorem z1r {H:Type} {enc:TypeId×Value->H} {w:World} (fuel:Nat) (D:List Value) (x:DataW H×List MemPlace) (h:DataW.trod enc Tryz.prog w 0 (fun _=>true) true fuel 248 D=some x):∃y:ii,RH (· <w.heap.size) w D y:=by obtain ⟨Y,m,rfl,_,V,W,u⟩:=DataW.trod_struct Tryz.underlying248 h;rw [cHand]at V;have A:Y.length=4:=W;clear h;obtain ⟨Z,c1,c2,c3,rfl⟩:=len4 V;have J:=u 0 _ rfl;have L:=u 1 _ rfl;have N:=u 2 _ rfl;have O:=u 3 _ rfl;simp [cInt,cStr]at J L N O;obtain ⟨y0,y1,y2,y3,rfl⟩:=len4 A;obtain ⟨a,E,_⟩:=DataW.trod_int Tryz.underlying3 J;obtain ⟨b,F,_⟩:=DataW.trod_int Tryz.underlying3 L;obtain ⟨c,G,_⟩:=DataW.trod_int Tryz.underlying3 N;obtain ⟨s,I,_,X⟩:=DataW.trod_string Tryz.underlying9 O;simp at E F G I;subst E F G I;exact ⟨⟨a,b,c,s⟩,rfl,X⟩
theorem z1s {H:Type} {enc:TypeId×Value->H} {w:World} (fuel:Nat) (J:List Value) (x:DataW H×List MemPlace) (h:DataW.trod enc Tryz.prog w 0 (fun _=>true) true fuel 159 J=some x):∃y:dx,RM (· <w.heap.size) w J y:=by obtain ⟨ys,m,rfl,_,hl,hn,u⟩:=DataW.trod_struct Tryz.underlying159 h;rw [cMeth]at hl;have I:ys.length=8:=hn;clear h;obtain ⟨c0,c1,c2,c3,c4,c5,c6,c7,c8,rfl⟩:=len9 hl;have V:=u 0 _ rfl;have W:=u 1 _ rfl;have X:=u 2 _ rfl;have Y:=u 3 _ rfl;have Z:=u 4 _ rfl;have g5:=u 5 _ rfl;have g6:=u 6 _ rfl;have g7:=u 7 _ rfl;simp [cInt,cStr,cBool,cKinds,cKind,cHands]at V W X Y Z g5 g6 g7;obtain ⟨y0,y1,y2,y3,y4,y5,y6,y7,rfl⟩:=len8 I;obtain ⟨s,O,_,hs⟩:=DataW.trod_string Tryz.underlying9 V;obtain ⟨b,L,_⟩:=DataW.trod_bool Tryz.underlying4 W;obtain ⟨args,ha⟩:=z1o Tryz.underlying156 cKind (by omega) z1p X;obtain ⟨k,N,hk⟩:=z1p _ _ _ Y;obtain ⟨st,F,_⟩:=DataW.trod_int Tryz.underlying3 Z;obtain ⟨lo,E,_⟩:=DataW.trod_int Tryz.underlying3 g5;obtain ⟨co,D,_,G⟩:=DataW.trod_string Tryz.underlying9 g6;obtain ⟨A,hh⟩:=z1o Tryz.underlying157 cHand (by omega) z1r g7;simp at O L N F E D;obtain ⟨rfl,rfl⟩:=N;subst O L F E D;exact ⟨⟨s,b,args,k,st,lo,co,A⟩,_,_,rfl,ha,hh,hs,hk,G⟩
theorem z1t {H:Type} {enc:TypeId×Value->H} {w:World} (fuel:Nat) (F:List Value) (x:DataW H×List MemPlace) (h:DataW.trod enc Tryz.prog w 0 (fun _=>true) true fuel 162 F=some x):∃y:am,RC (· <w.heap.size) w F y:=by obtain ⟨ys,m,rfl,_,V,Z,D⟩:=DataW.trod_struct Tryz.underlying162 h;rw [cClass]at V;have E:ys.length=4:=Z;clear h;obtain ⟨c0,c1,c2,c3,rfl⟩:=len4 V;have J:=D 0 _ rfl;have L:=D 1 _ rfl;have N:=D 2 _ rfl;have O:=D 3 _ rfl;simp [cStr,cFields,cMeths]at J L N O;obtain ⟨y0,y1,y2,y3,rfl⟩:=len4 E;obtain ⟨s,G,_,hs⟩:=DataW.trod_string Tryz.underlying9 J;obtain ⟨u,I,_,hu⟩:=DataW.trod_string Tryz.underlying9 L;obtain ⟨A,X⟩:=z1o Tryz.underlying126 cField (by omega) z1q N;obtain ⟨W,Y⟩:=z1o Tryz.underlying160 cMeth (by omega) z1s O;simp at G I;subst G I;exact ⟨⟨s,u,A,W⟩,_,_,rfl,X,Y,hs,hu⟩
theorem z1u {H:Type} {enc:TypeId×Value->H} {w:World} {v:Value} {fuel:Nat} {x:DataW H×List MemPlace} (h:DataW.trod enc Tryz.prog w 0 (fun _=>true) true fuel 31 [v]=some x):∃l:List am,SL 4 RC (· <w.heap.size) w v l:=
 z1o Tryz.underlying31 cClass (by omega) z1t h
theorem cTarg:Tryz.prog.cellsOf 233=2:=by kernel_rfl
theorem cLk:Tryz.prog.cellsOf 36=5:=by kernel_rfl
theorem cClasses:Tryz.prog.cellsOf 31=1:=by kernel_rfl
theorem cInts:Tryz.prog.cellsOf 22=1:=by kernel_rfl
theorem cStrs:Tryz.prog.cellsOf 225=1:=by kernel_rfl
theorem cTargs:Tryz.prog.cellsOf 226=1:=by kernel_rfl
theorem cFieldss:Tryz.prog.cellsOf 32=1:=by kernel_rfl
theorem cStrss:Tryz.prog.cellsOf 33=1:=by kernel_rfl
theorem cTargss:Tryz.prog.cellsOf 34=1:=by kernel_rfl
theorem len5 {α:Type} {l:List α} (h:l.length=5):∃c0 c1 c2 c3 c4,l= [c0,c1,c2,c3,c4]:=by
 match l,h with
 | [c0,c1,c2,c3,c4],_=>exact ⟨_,_,_,_,_,rfl⟩
theorem z1v {H:Type} {enc:TypeId×Value->H} {w:World} (fuel:Nat) (u:List Value) (x:DataW H×List MemPlace) (h:DataW.trod enc Tryz.prog w 0 (fun _=>true) true fuel 3 u=some x):∃y:Int,RI (· <w.heap.size) w u y:=by obtain ⟨a,A,_⟩:=DataW.trod_int Tryz.underlying3 h;exact ⟨a,A⟩
theorem z1w {H:Type} {enc:TypeId×Value->H} {w:World} (fuel:Nat) (u:List Value) (x:DataW H×List MemPlace) (h:DataW.trod enc Tryz.prog w 0 (fun _=>true) true fuel 9 u=some x):∃y:ByteArray,RS (· <w.heap.size) w u y:=by obtain ⟨s,A,_,D⟩:=DataW.trod_string Tryz.underlying9 h;exact ⟨s,A,D⟩
theorem z1x {H:Type} {enc:TypeId×Value->H} {w:World} (fuel:Nat) (D:List Value) (x:DataW H×List MemPlace) (h:DataW.trod enc Tryz.prog w 0 (fun _=>true) true fuel 233 D=some x):∃y:cd,RT (· <w.heap.size) w D y:=by obtain ⟨N,m,rfl,_,J,L,u⟩:=DataW.trod_struct Tryz.underlying233 h;rw [cTarg]at J;have A:N.length=2:=L;clear h;obtain ⟨O,V,rfl⟩:=len2 J;have G:=u 0 _ rfl;have I:=u 1 _ rfl;simp [cInt]at G I;obtain ⟨W,X,rfl⟩:=len2 A;obtain ⟨a,E,_⟩:=DataW.trod_int Tryz.underlying3 G;obtain ⟨b,F,_⟩:=DataW.trod_int Tryz.underlying3 I;simp at E F;subst E F;exact ⟨⟨a,b⟩,rfl⟩
theorem z1y {H:Type} {enc:TypeId×Value->H} {w:World} {α:Type} {n:Nat} {R:(Nat->Prop)->World->List Value->α->Prop} {t e:TypeId} (I:Tryz.prog.underlying t=some (.slice e)) (E:Tryz.prog.cellsOf e=n) (J:0<n)
 (F:∀(fuel:Nat) (A:List Value) (x:DataW H×List MemPlace),DataW.trod enc Tryz.prog w 0 (fun _=>true) true fuel e A=some x->∃y:α,R (· <w.heap.size) w A y)
 (fuel:Nat) (A:List Value) (x:DataW H×List MemPlace) (h:DataW.trod enc Tryz.prog w 0 (fun _=>true) true fuel t A=some x):∃y:List α,jv n R (· <w.heap.size) w A y:=by
 have G:∃v,A= [v]:=by
  rcases open_slice I h with ⟨u,_⟩ | ⟨a,len,cap,m,N,D,L,u,_⟩
  ·exact ⟨_,u⟩
  exact ⟨_,u⟩
 obtain ⟨v,rfl⟩:=G;obtain ⟨l,G⟩:=z1o I E J F h;exact ⟨l,v,rfl,G⟩
theorem linked_reads {H:Type} {enc:TypeId×Value->H} {w:World} {fuel:Nat} {D:List Value} {x:DataW H×List MemPlace} (h:DataW.trod enc Tryz.prog w 0 (fun _=>true) true fuel 36 D=some x):
 ∃kC kS kF kN kT d,D= [kC,kS,kF,kN,kT]/\ma (· <w.heap.size) w kC kS kF kN kT d:=by
 obtain ⟨ys,m,rfl,_,L,W,u⟩:=DataW.trod_struct Tryz.underlying36 h;rw [cLk]at L;clear h;obtain ⟨c0,c1,c2,c3,c4,rfl⟩:=len5 L;have E:=u 0 _ rfl;have F:=u 1 _ rfl;have G:=u 2 _ rfl;have I:=u 3 _ rfl;have J:=u 4 _ rfl;simp [cClasses,cInts,cFieldss,cStrss,cTargss]at E F G I J;have A:ys.length=5:=W;obtain ⟨y0,y1,y2,y3,y4,rfl⟩:=len5 A;obtain ⟨X,h0⟩:=z1u E;obtain ⟨Y,h1⟩:=z1o Tryz.underlying22 cInt (by omega) z1v F;obtain ⟨Z,N⟩:=z1o Tryz.underlying32 cFields (by omega) (z1y Tryz.underlying126 cField (by omega) z1q) G;obtain ⟨l3,O⟩:=z1o Tryz.underlying33 cStrs (by omega) (z1y Tryz.underlying225 cStr (by omega) z1w) I;obtain ⟨l4,V⟩:=z1o Tryz.underlying34 cTargs (by omega) (z1y Tryz.underlying226 cTarg (by omega) z1x) J;exact ⟨_,_,_,_,_,⟨X,Y,Z,l3,l4⟩,rfl,h0,h1,N,O,V⟩
theorem cHp:Tryz.prog.cellsOf 24=7:=by kernel_rfl
theorem len7 {α:Type} {l:List α} (h:l.length=7):∃c0 c1 c2 c3 c4 c5 c6,l= [c0,c1,c2,c3,c4,c5,c6]:=by
 match l,h with
 | [c0,c1,c2,c3,c4,c5,c6],_=>exact ⟨_,_,_,_,_,_,_,rfl⟩
def RIW (M:Nat->Prop) (w:World) (cs:List Value) (y:Int):Prop:=RI M w cs y/\(Lit.int .i64 y).wf=true
theorem z1z {H:Type} {enc:TypeId×Value->H} {w:World} (fuel:Nat) (u:List Value) (x:DataW H×List MemPlace) (h:DataW.trod enc Tryz.prog w 0 (fun _=>true) true fuel 3 u=some x):∃y:Int,RIW (· <w.heap.size) w u y:=by obtain ⟨a,A,_,D⟩:=DataW.trod_int Tryz.underlying3 h;exact ⟨a,A,D⟩
theorem SL.riw {M:Nat->Prop} {w:World} {v:Value} {l:List Int} (h:SL 1 RIW M w v l):SL 1 RI M w v l/\∀x∈l,(Lit.int .i64 x).wf=true:=by
 obtain ⟨N,cap,e,h1,O,L⟩:=h;refine ⟨⟨N,cap,e,h1,O,fun k A=>?_⟩,fun x V=>?_⟩
 ·obtain ⟨b,off,D,E,F,G,I,J,u⟩:=L k A;exact ⟨b,off,D,E,F,G,I,J,u.1⟩
 obtain ⟨k,A,rfl⟩:=List.getElem_of_mem V;obtain ⟨b,off,D,E,F,G,I,J,u⟩:=L k A;exact u.2
theorem heap_reads {H:Type} {enc:TypeId×Value->H} {w:World} {fuel:Nat} {D:List Value} {x:DataW H×List MemPlace} (h:DataW.trod enc Tryz.prog w 0 (fun _=>true) true fuel 24 D=some x):
 ∃(vW vO:Value) (hp:bd),D= [vW,.int .i64 hp.ae,.int .i64 hp.old,.int .i64 hp.bg,.int .i64 hp.bk,vO,.int .i64 hp.next]/\SL 1 RI (· <w.heap.size) w vW hp.ab/\SL 1 RI (· <w.heap.size) w vO hp.ap/\(∀x∈hp.ab,(Lit.int .i64 x).wf=true)/\(∀x∈hp.ap,(Lit.int .i64 x).wf=true)/\(Lit.int .i64 hp.next).wf=true:=by
 obtain ⟨ys,m,rfl,_,hl,hn,u⟩:=DataW.trod_struct Tryz.underlying24 h;rw [cHp]at hl;clear h;obtain ⟨c0,c1,c2,c3,c4,c5,c6,rfl⟩:=len7 hl;have L:=u 0 _ rfl;have N:=u 1 _ rfl;have O:=u 2 _ rfl;have V:=u 3 _ rfl;have W:=u 4 _ rfl;have X:=u 5 _ rfl;have Y:=u 6 _ rfl;simp [cInts,cInt]at L N O V W X Y;have A:ys.length=7:=hn;obtain ⟨y0,y1,y2,y3,y4,y5,y6,rfl⟩:=len7 A;obtain ⟨l0,h0⟩:=z1o Tryz.underlying22 cInt (by omega) z1z L;obtain ⟨a1,E,_⟩:=DataW.trod_int Tryz.underlying3 N;obtain ⟨a2,F,_⟩:=DataW.trod_int Tryz.underlying3 O;obtain ⟨a3,G,_⟩:=DataW.trod_int Tryz.underlying3 V;obtain ⟨a4,I,_⟩:=DataW.trod_int Tryz.underlying3 W;obtain ⟨l5,Z⟩:=z1o Tryz.underlying22 cInt (by omega) z1z X;obtain ⟨a6,J,_,w6⟩:=DataW.trod_int Tryz.underlying3 Y;simp at E F G I J;subst E F G I J;exact ⟨_,_,⟨l0,a1,a2,a3,a4,l5,a6⟩,rfl,h0.riw.1,Z.riw.1,h0.riw.2,Z.riw.2,w6⟩
theorem ints_reads {H:Type} {enc:TypeId×Value->H} {w:World} {v:Value} {fuel:Nat} {x:DataW H×List MemPlace} (h:DataW.trod enc Tryz.prog w 0 (fun _=>true) true fuel 22 [v]=some x):∃l:List Int,SL 1 RI (· <w.heap.size) w v l/\∀x∈l,(Lit.int .i64 x).wf=true:=by obtain ⟨l,u⟩:=z1o Tryz.underlying22 cInt (by omega) z1z h;exact ⟨l,u.riw.1,u.riw.2⟩
end Go.Proofs.YtjdnmblggdobgaaGreat
