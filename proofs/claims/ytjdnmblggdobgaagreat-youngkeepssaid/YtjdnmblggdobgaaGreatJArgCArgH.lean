import Derived.Test.YtjdnmblggdobgaaGreatRows
import Derived.Test.YtjdnmblggdobgaaGreatJMemChkMeth
import Derived.ProofKit
import Derived.OpenShut
import Derived.Deep.Slices
import Derived.Carry
import Derived.SizedLaws
import Derived.Test.YtjdnmblggdobgaaGreatJLErrLRf4
import Derived.Test.YtjdnmblggdobgaaGreatJHpKHtA
namespace Go.Proofs.YtjdnmblggdobgaaGreat
open Go.ChangeShapes Go.WideShapes Go.ChangeAt Go.RowKit Go.Deep
theorem cInt:Tryz.prog.cellsOf 3=1:=by kernel_rfl
theorem cStr:Tryz.prog.cellsOf 9=1:=by kernel_rfl
theorem cBool:Tryz.prog.cellsOf 4=1:=by kernel_rfl
theorem cKind:Tryz.prog.cellsOf 123=2:=by kernel_rfl
theorem cField:Tryz.prog.cellsOf 125=3:=by kernel_rfl
theorem cHand:Tryz.prog.cellsOf 248=4:=by kernel_rfl
theorem cMeth:Tryz.prog.cellsOf 159=9:=by kernel_rfl
theorem cClass:Tryz.prog.cellsOf 162=4:=by kernel_rfl
theorem cKinds:Tryz.prog.cellsOf 156=1:=by kernel_rfl
theorem cFields:Tryz.prog.cellsOf 126=1:=by kernel_rfl
theorem cHands:Tryz.prog.cellsOf 157=1:=by kernel_rfl
theorem cMeths:Tryz.prog.cellsOf 160=1:=by kernel_rfl
theorem len2 {α:Type} {l:List α} (h:l.length=2):∃c0 c1,l= [c0,c1]:=by
 match l,h with
 | [c0,c1],_=>exact ⟨_,_,rfl⟩
theorem len3 {α:Type} {l:List α} (h:l.length=3):∃c0 c1 c2,l= [c0,c1,c2]:=by
 match l,h with
 | [c0,c1,c2],_=>exact ⟨_,_,_,rfl⟩
theorem len4 {α:Type} {l:List α} (h:l.length=4):∃c0 c1 c2 c3,l= [c0,c1,c2,c3]:=by
 match l,h with
 | [c0,c1,c2,c3],_=>exact ⟨_,_,_,_,rfl⟩
theorem len8 {α:Type} {l:List α} (h:l.length=8):∃c0 c1 c2 c3 c4 c5 c6 c7,l= [c0,c1,c2,c3,c4,c5,c6,c7]:=by
 match l,h with
 | [c0,c1,c2,c3,c4,c5,c6,c7],_=>exact ⟨_,_,_,_,_,_,_,_,rfl⟩
theorem len9 {α:Type} {l:List α} (h:l.length=9):∃c0 c1 c2 c3 c4 c5 c6 c7 c8,l= [c0,c1,c2,c3,c4,c5,c6,c7,c8]:=by
 match l,h with
 | [c0,c1,c2,c3,c4,c5,c6,c7,c8],_=>exact ⟨_,_,_,_,_,_,_,_,_,rfl⟩
theorem zys {H:Type} {enc:TypeId×Value->H} {w:World} {v:Value} {α:Type} {n:Nat} {R:(Nat->Prop)->World->List Value->α->Prop} {t e:TypeId} (ht:Tryz.prog.underlying t=some (.slice e)) (Z:Tryz.prog.cellsOf e=n) (hn:0<n)
 (aa:∀(fuel:Nat) (F:List Value) (x:DataW H×List MemPlace),DataW.trod enc Tryz.prog w 0 (fun _=>true) true fuel e F=some x->∃y:α,R (· <w.heap.size) w F y)
 {fuel:Nat} {x:DataW H×List MemPlace} (h:DataW.trod enc Tryz.prog w 0 (fun _=>true) true fuel t [v]=some x):∃l:List α,SL n R (· <w.heap.size) w v l:=by
 rcases open_slice ht h with ⟨J,_⟩ | ⟨a,len,cap,m,n',D,Pl,J,_,ad,ag,hm,_,O⟩
 ·obtain rfl:=(List.cons.inj J).1;exact ⟨[],none,0,rfl,nlq _,n0q _,fun k N=>by cases N⟩
 obtain rfl:=(List.cons.inj J).1;have ai:len<=m:=by simp at hm;omega
 have G:∀i,i<len->∃(F:List Value) (y:α),F.length=n/\(∀j,j<n->w.cell? ((a.add (i*n)).add j)=F[j]?)/\R (· <w.heap.size) w F y:=by intro i V;obtain ⟨X,h1,h2⟩:=O i (by omega);rw [Z]at h1;obtain ⟨_,hl,hc⟩:=World.cells?_some h1;obtain ⟨y,hy⟩:=aa _ _ _ h2;exact ⟨X,y,hl,hc,hy⟩
 by_cases h0:len=0
 ·subst h0;exact ⟨[],some a,cap,rfl,n0q _,n0q _,fun k N=>by cases N⟩
 obtain ⟨b,off,W⟩:=a;obtain ⟨af,y0,ah,Y,_⟩:=G 0 (by omega);have A:=Y 0 hn;rw [List.getElem?_eq_getElem (by omega)]at A;have L:W=none:=by rw [add_add]at A;simpa [Addr.add]using World.cell?_spot A
 subst L;have I:∀k j,(((⟨b,off,none⟩:Addr).add (k*n)).add j)=⟨b,off+k*n+j,none⟩:=fun k j=>by rw [add_add,add_plain,Nat.add_assoc]
 have hb:b<w.heap.size:=by rw [I]at A;exact World.block_lt_of_cell? w _ A
 obtain ⟨f,hf⟩:∃f:Nat->α,∀i,i<len->∃F:List Value,F.length=n/\(∀j,j<n->w.cell? ⟨b,off+i*n+j,none⟩=F[j]?)/\R (· <w.heap.size) w F (f i):=by
  classical
  refine ⟨fun i=>if V:i<len then Classical.choose (Classical.choose_spec (G i V)) else y0,fun i V=>?_⟩;simp only [dif_pos V];obtain ⟨q1,q2,q3⟩:=Classical.choose_spec (Classical.choose_spec (G i V));exact ⟨_,q1,fun j hj=>by rw [<-I];exact q2 j hj,q3⟩
 have E:((List.range len).map f).length=len:=by simp
 refine ⟨(List.range len).map f,some ⟨b,off,none⟩,cap,by rw [E],by rw [E];exact ad,by rw [E];omega,fun k N=>?_⟩;have ac:k<len:=by rw [E]at N;exact N
 obtain ⟨F,q1,q2,q3⟩:=hf k ac;exact ⟨b,off,F,rfl,hb,hb,q1,q2,by simpa using q3⟩
theorem zyt {H:Type} {enc:TypeId×Value->H} {w:World} (fuel:Nat) (E:List Value) (x:DataW H×List MemPlace) (h:DataW.trod enc Tryz.prog w 0 (fun _=>true) true fuel 123 E=some x):∃y:ew,RK (· <w.heap.size) w E y:=by obtain ⟨V,m,rfl,_,L,N,A⟩:=DataW.trod_struct Tryz.underlying123 h;rw [cKind]at L;have D:V.length=2:=N;clear h;obtain ⟨W,X,rfl⟩:=len2 L;have I:=A 0 _ rfl;have J:=A 1 _ rfl;simp [cInt,cStr]at I J;obtain ⟨Y,Z,rfl⟩:=len2 D;obtain ⟨a,F,_⟩:=DataW.trod_int Tryz.underlying3 I;obtain ⟨s,G,_,O⟩:=DataW.trod_string Tryz.underlying9 J;simp at F G;subst F G;exact ⟨⟨a,s⟩,rfl,O⟩
theorem zyu {H:Type} {enc:TypeId×Value->H} {w:World} (fuel:Nat) (E:List Value) (x:DataW H×List MemPlace) (h:DataW.trod enc Tryz.prog w 0 (fun _=>true) true fuel 125 E=some x):∃y:bg,RF (· <w.heap.size) w E y:=by obtain ⟨W,m,rfl,_,L,O,A⟩:=DataW.trod_struct Tryz.underlying125 h;rw [cField]at L;have D:W.length=2:=O;clear h;obtain ⟨X,Y,Z,rfl⟩:=len3 L;have I:=A 0 _ rfl;have J:=A 1 _ rfl;simp [cStr,cKind]at I J;obtain ⟨y0,y1,rfl⟩:=len2 D;obtain ⟨s,G,_,V⟩:=DataW.trod_string Tryz.underlying9 I;obtain ⟨k,F,N⟩:=zyt _ _ _ J;simp at G F;obtain ⟨rfl,rfl⟩:=F;subst G;exact ⟨⟨s,k⟩,rfl,V,N⟩
theorem zyv {H:Type} {enc:TypeId×Value->H} {w:World} (fuel:Nat) (E:List Value) (x:DataW H×List MemPlace) (h:DataW.trod enc Tryz.prog w 0 (fun _=>true) true fuel 248 E=some x):∃y:ic,RH (· <w.heap.size) w E y:=by obtain ⟨Z,m,rfl,_,W,X,A⟩:=DataW.trod_struct Tryz.underlying248 h;rw [cHand]at W;have D:Z.length=4:=X;clear h;obtain ⟨c0,c1,c2,c3,rfl⟩:=len4 W;have L:=A 0 _ rfl;have N:=A 1 _ rfl;have O:=A 2 _ rfl;have V:=A 3 _ rfl;simp [cInt,cStr]at L N O V;obtain ⟨y0,y1,y2,y3,rfl⟩:=len4 D;obtain ⟨a,F,_⟩:=DataW.trod_int Tryz.underlying3 L;obtain ⟨b,G,_⟩:=DataW.trod_int Tryz.underlying3 N;obtain ⟨c,I,_⟩:=DataW.trod_int Tryz.underlying3 O;obtain ⟨s,J,_,Y⟩:=DataW.trod_string Tryz.underlying9 V;simp at F G I J;subst F G I J;exact ⟨⟨a,b,c,s⟩,rfl,Y⟩
theorem zyw {H:Type} {enc:TypeId×Value->H} {w:World} (fuel:Nat) (L:List Value) (x:DataW H×List MemPlace) (h:DataW.trod enc Tryz.prog w 0 (fun _=>true) true fuel 159 L=some x):∃y:dx,RM (· <w.heap.size) w L y:=by obtain ⟨ys,m,rfl,_,hl,hn,A⟩:=DataW.trod_struct Tryz.underlying159 h;rw [cMeth]at hl;have J:ys.length=8:=hn;clear h;obtain ⟨c0,c1,c2,c3,c4,c5,c6,c7,c8,rfl⟩:=len9 hl;have W:=A 0 _ rfl;have X:=A 1 _ rfl;have Y:=A 2 _ rfl;have Z:=A 3 _ rfl;have g4:=A 4 _ rfl;have g5:=A 5 _ rfl;have g6:=A 6 _ rfl;have g7:=A 7 _ rfl;simp [cInt,cStr,cBool,cKinds,cKind,cHands]at W X Y Z g4 g5 g6 g7;obtain ⟨y0,y1,y2,y3,y4,y5,y6,y7,rfl⟩:=len8 J;obtain ⟨s,V,_,hs⟩:=DataW.trod_string Tryz.underlying9 W;obtain ⟨b,N,_⟩:=DataW.trod_bool Tryz.underlying4 X;obtain ⟨args,ha⟩:=zys Tryz.underlying156 cKind (by omega) zyt Y;obtain ⟨k,O,hk⟩:=zyt _ _ _ Z;obtain ⟨st,G,_⟩:=DataW.trod_int Tryz.underlying3 g4;obtain ⟨lo,F,_⟩:=DataW.trod_int Tryz.underlying3 g5;obtain ⟨co,E,_,I⟩:=DataW.trod_string Tryz.underlying9 g6;obtain ⟨D,hh⟩:=zys Tryz.underlying157 cHand (by omega) zyv g7;simp at V N O G F E;obtain ⟨rfl,rfl⟩:=O;subst V N G F E;exact ⟨⟨s,b,args,k,st,lo,co,D⟩,_,_,rfl,ha,hh,hs,hk,I⟩
theorem zyx {H:Type} {enc:TypeId×Value->H} {w:World} (fuel:Nat) (F:List Value) (x:DataW H×List MemPlace) (h:DataW.trod enc Tryz.prog w 0 (fun _=>true) true fuel 162 F=some x):∃y:ap,RC (· <w.heap.size) w F y:=by obtain ⟨ys,m,rfl,_,V,Z,D⟩:=DataW.trod_struct Tryz.underlying162 h;rw [cClass]at V;have E:ys.length=4:=Z;clear h;obtain ⟨c0,c1,c2,c3,rfl⟩:=len4 V;have J:=D 0 _ rfl;have L:=D 1 _ rfl;have N:=D 2 _ rfl;have O:=D 3 _ rfl;simp [cStr,cFields,cMeths]at J L N O;obtain ⟨y0,y1,y2,y3,rfl⟩:=len4 E;obtain ⟨s,G,_,hs⟩:=DataW.trod_string Tryz.underlying9 J;obtain ⟨u,I,_,hu⟩:=DataW.trod_string Tryz.underlying9 L;obtain ⟨A,X⟩:=zys Tryz.underlying126 cField (by omega) zyu N;obtain ⟨W,Y⟩:=zys Tryz.underlying160 cMeth (by omega) zyw O;simp at G I;subst G I;exact ⟨⟨s,u,A,W⟩,_,_,rfl,X,Y,hs,hu⟩
theorem zyy {H:Type} {enc:TypeId×Value->H} {w:World} {v:Value} {fuel:Nat} {x:DataW H×List MemPlace} (h:DataW.trod enc Tryz.prog w 0 (fun _=>true) true fuel 31 [v]=some x):∃l:List ap,SL 4 RC (· <w.heap.size) w v l:=
 zys Tryz.underlying31 cClass (by omega) zyx h
theorem cTarg:Tryz.prog.cellsOf 233=2:=by kernel_rfl
theorem cLk:Tryz.prog.cellsOf 36=5:=by kernel_rfl
theorem cClasses:Tryz.prog.cellsOf 31=1:=by kernel_rfl
theorem cInts:Tryz.prog.cellsOf 22=1:=by kernel_rfl
theorem cStrs:Tryz.prog.cellsOf 225=1:=by kernel_rfl
theorem cTargs:Tryz.prog.cellsOf 226=1:=by kernel_rfl
theorem cFieldss:Tryz.prog.cellsOf 32=1:=by kernel_rfl
theorem cStrss:Tryz.prog.cellsOf 33=1:=by kernel_rfl
theorem cTargss:Tryz.prog.cellsOf 34=1:=by kernel_rfl
theorem len5 {α:Type} {l:List α} (h:l.length=5):∃c0 c1 c2 c3 c4,l= [c0,c1,c2,c3,c4]:=by
 match l,h with
 | [c0,c1,c2,c3,c4],_=>exact ⟨_,_,_,_,_,rfl⟩
theorem zyz {H:Type} {enc:TypeId×Value->H} {w:World} (fuel:Nat) (A:List Value) (x:DataW H×List MemPlace) (h:DataW.trod enc Tryz.prog w 0 (fun _=>true) true fuel 3 A=some x):∃y:Int,RI (· <w.heap.size) w A y:=by obtain ⟨a,D,_⟩:=DataW.trod_int Tryz.underlying3 h;exact ⟨a,D⟩
theorem zy0 {H:Type} {enc:TypeId×Value->H} {w:World} (fuel:Nat) (A:List Value) (x:DataW H×List MemPlace) (h:DataW.trod enc Tryz.prog w 0 (fun _=>true) true fuel 9 A=some x):∃y:ByteArray,RS (· <w.heap.size) w A y:=by obtain ⟨s,D,_,E⟩:=DataW.trod_string Tryz.underlying9 h;exact ⟨s,D,E⟩
theorem zy1 {H:Type} {enc:TypeId×Value->H} {w:World} (fuel:Nat) (E:List Value) (x:DataW H×List MemPlace) (h:DataW.trod enc Tryz.prog w 0 (fun _=>true) true fuel 233 E=some x):∃y:cg,RT (· <w.heap.size) w E y:=by obtain ⟨O,m,rfl,_,L,N,A⟩:=DataW.trod_struct Tryz.underlying233 h;rw [cTarg]at L;have D:O.length=2:=N;clear h;obtain ⟨V,W,rfl⟩:=len2 L;have I:=A 0 _ rfl;have J:=A 1 _ rfl;simp [cInt]at I J;obtain ⟨X,Y,rfl⟩:=len2 D;obtain ⟨a,F,_⟩:=DataW.trod_int Tryz.underlying3 I;obtain ⟨b,G,_⟩:=DataW.trod_int Tryz.underlying3 J;simp at F G;subst F G;exact ⟨⟨a,b⟩,rfl⟩
theorem zy2 {H:Type} {enc:TypeId×Value->H} {w:World} {α:Type} {n:Nat} {R:(Nat->Prop)->World->List Value->α->Prop} {t e:TypeId} (J:Tryz.prog.underlying t=some (.slice e)) (F:Tryz.prog.cellsOf e=n) (L:0<n)
 (G:∀(fuel:Nat) (E:List Value) (x:DataW H×List MemPlace),DataW.trod enc Tryz.prog w 0 (fun _=>true) true fuel e E=some x->∃y:α,R (· <w.heap.size) w E y)
 (fuel:Nat) (E:List Value) (x:DataW H×List MemPlace) (h:DataW.trod enc Tryz.prog w 0 (fun _=>true) true fuel t E=some x):∃y:List α,jm n R (· <w.heap.size) w E y:=by
 have I:∃v,E= [v]:=by
  rcases open_slice J h with ⟨A,_⟩ | ⟨a,len,cap,m,O,D,N,A,_⟩
  ·exact ⟨_,A⟩
  exact ⟨_,A⟩
 obtain ⟨v,rfl⟩:=I;obtain ⟨l,I⟩:=zys J F L G h;exact ⟨l,v,rfl,I⟩
theorem linked_reads {H:Type} {enc:TypeId×Value->H} {w:World} {fuel:Nat} {E:List Value} {x:DataW H×List MemPlace} (h:DataW.trod enc Tryz.prog w 0 (fun _=>true) true fuel 36 E=some x):
 ∃kC kS kF kN kT d,E= [kC,kS,kF,kN,kT]/\j9 (· <w.heap.size) w kC kS kF kN kT d:=by
 obtain ⟨ys,m,rfl,_,N,X,A⟩:=DataW.trod_struct Tryz.underlying36 h;rw [cLk]at N;clear h;obtain ⟨c0,c1,c2,c3,c4,rfl⟩:=len5 N;have F:=A 0 _ rfl;have G:=A 1 _ rfl;have I:=A 2 _ rfl;have J:=A 3 _ rfl;have L:=A 4 _ rfl;simp [cClasses,cInts,cFieldss,cStrss,cTargss]at F G I J L;have D:ys.length=5:=X;obtain ⟨y0,y1,y2,y3,y4,rfl⟩:=len5 D;obtain ⟨Y,h0⟩:=zyy F;obtain ⟨Z,h1⟩:=zys Tryz.underlying22 cInt (by omega) zyz G;obtain ⟨l2,O⟩:=zys Tryz.underlying32 cFields (by omega) (zy2 Tryz.underlying126 cField (by omega) zyu) I;obtain ⟨l3,V⟩:=zys Tryz.underlying33 cStrs (by omega) (zy2 Tryz.underlying225 cStr (by omega) zy0) J;obtain ⟨l4,W⟩:=zys Tryz.underlying34 cTargs (by omega) (zy2 Tryz.underlying226 cTarg (by omega) zy1) L;exact ⟨_,_,_,_,_,⟨Y,Z,l2,l3,l4⟩,rfl,h0,h1,O,V,W⟩
theorem cHp:Tryz.prog.cellsOf 24=7:=by kernel_rfl
theorem len7 {α:Type} {l:List α} (h:l.length=7):∃c0 c1 c2 c3 c4 c5 c6,l= [c0,c1,c2,c3,c4,c5,c6]:=by
 match l,h with
 | [c0,c1,c2,c3,c4,c5,c6],_=>exact ⟨_,_,_,_,_,_,_,rfl⟩
def RIW (M:Nat->Prop) (w:World) (cs:List Value) (y:Int):Prop:=RI M w cs y/\(Lit.int .i64 y).wf=true
theorem zy3 {H:Type} {enc:TypeId×Value->H} {w:World} (fuel:Nat) (A:List Value) (x:DataW H×List MemPlace) (h:DataW.trod enc Tryz.prog w 0 (fun _=>true) true fuel 3 A=some x):∃y:Int,RIW (· <w.heap.size) w A y:=by obtain ⟨a,D,_,E⟩:=DataW.trod_int Tryz.underlying3 h;exact ⟨a,D,E⟩
theorem SL.riw {M:Nat->Prop} {w:World} {v:Value} {l:List Int} (h:SL 1 RIW M w v l):SL 1 RI M w v l/\∀x∈l,(Lit.int .i64 x).wf=true:=by
 obtain ⟨O,cap,e,h1,V,N⟩:=h;refine ⟨⟨O,cap,e,h1,V,fun k D=>?_⟩,fun x W=>?_⟩
 ·obtain ⟨b,off,E,F,G,I,J,L,A⟩:=N k D;exact ⟨b,off,E,F,G,I,J,L,A.1⟩
 obtain ⟨k,D,rfl⟩:=List.getElem_of_mem W;obtain ⟨b,off,E,F,G,I,J,L,A⟩:=N k D;exact A.2
theorem heap_reads {H:Type} {enc:TypeId×Value->H} {w:World} {fuel:Nat} {E:List Value} {x:DataW H×List MemPlace} (h:DataW.trod enc Tryz.prog w 0 (fun _=>true) true fuel 24 E=some x):
 ∃(vW vO:Value) (hp:bb),E= [vW,.int .i64 hp.ag,.int .i64 hp.old,.int .i64 hp.be,.int .i64 hp.ar,vO,.int .i64 hp.next]/\SL 1 RI (· <w.heap.size) w vW hp.ab/\SL 1 RI (· <w.heap.size) w vO hp.am/\(∀x∈hp.ab,(Lit.int .i64 x).wf=true)/\(∀x∈hp.am,(Lit.int .i64 x).wf=true)/\(Lit.int .i64 hp.next).wf=true:=by
 obtain ⟨ys,m,rfl,_,hl,hn,A⟩:=DataW.trod_struct Tryz.underlying24 h;rw [cHp]at hl;clear h;obtain ⟨c0,c1,c2,c3,c4,c5,c6,rfl⟩:=len7 hl;have N:=A 0 _ rfl;have O:=A 1 _ rfl;have V:=A 2 _ rfl;have W:=A 3 _ rfl;have X:=A 4 _ rfl;have Y:=A 5 _ rfl;have Z:=A 6 _ rfl;simp [cInts,cInt]at N O V W X Y Z;have D:ys.length=7:=hn;obtain ⟨y0,y1,y2,y3,y4,y5,y6,rfl⟩:=len7 D;obtain ⟨l0,h0⟩:=zys Tryz.underlying22 cInt (by omega) zy3 N;obtain ⟨a1,F,_⟩:=DataW.trod_int Tryz.underlying3 O;obtain ⟨a2,G,_⟩:=DataW.trod_int Tryz.underlying3 V;obtain ⟨a3,I,_⟩:=DataW.trod_int Tryz.underlying3 W;obtain ⟨a4,J,_⟩:=DataW.trod_int Tryz.underlying3 X;obtain ⟨l5,h5⟩:=zys Tryz.underlying22 cInt (by omega) zy3 Y;obtain ⟨a6,L,_,w6⟩:=DataW.trod_int Tryz.underlying3 Z;simp at F G I J L;subst F G I J L;exact ⟨_,_,⟨l0,a1,a2,a3,a4,l5,a6⟩,rfl,h0.riw.1,h5.riw.1,h0.riw.2,h5.riw.2,w6⟩
end Go.Proofs.YtjdnmblggdobgaaGreat
