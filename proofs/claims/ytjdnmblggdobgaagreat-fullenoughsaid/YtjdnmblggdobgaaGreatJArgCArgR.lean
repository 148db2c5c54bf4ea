import Derived.Test.YtjdnmblggdobgaaGreatRows
import Derived.ProofKit
import Derived.OpenShut
import Derived.Deep.Slices
import Derived.Carry
import Derived.SizedLaws
import Derived.Test.YtjdnmblggdobgaaGreatJHpKHtA
namespace Go.Proofs.YtjdnmblggdobgaaGreat
open Go.ChangeShapes Go.WideShapes Go.ChangeAt Go.RowKit Go.Deep
theorem xg:Tryz.prog.cellsOf 3=1:=by kernel_rfl
theorem An:Tryz.prog.cellsOf 9=1:=by kernel_rfl
theorem cBool:Tryz.prog.cellsOf 4=1:=by kernel_rfl
theorem zz:Tryz.prog.cellsOf 123=2:=by kernel_rfl
theorem zg:Tryz.prog.cellsOf 125=3:=by kernel_rfl
theorem D6:Tryz.prog.cellsOf 248=4:=by kernel_rfl
theorem D8:Tryz.prog.cellsOf 159=9:=by kernel_rfl
theorem Bj:Tryz.prog.cellsOf 162=4:=by kernel_rfl
theorem E4:Tryz.prog.cellsOf 156=1:=by kernel_rfl
theorem zy:Tryz.prog.cellsOf 126=1:=by kernel_rfl
theorem E3:Tryz.prog.cellsOf 157=1:=by kernel_rfl
theorem E5:Tryz.prog.cellsOf 160=1:=by kernel_rfl
theorem xj {α:Type} {l:List α} (h:l.length=2):∃c0 c1,l= [c0,c1]:=by
 match l,h with
 | [c0,c1],_=>exact ⟨_,_,rfl⟩
theorem len3 {α:Type} {l:List α} (h:l.length=3):∃c0 c1 c2,l= [c0,c1,c2]:=by
 match l,h with
 | [c0,c1,c2],_=>exact ⟨_,_,_,rfl⟩
theorem C7 {α:Type} {l:List α} (h:l.length=4):∃c0 c1 c2 c3,l= [c0,c1,c2,c3]:=by
 match l,h with
 | [c0,c1,c2,c3],_=>exact ⟨_,_,_,_,rfl⟩
theorem len8 {α:Type} {l:List α} (h:l.length=8):∃c0 c1 c2 c3 c4 c5 c6 c7,l= [c0,c1,c2,c3,c4,c5,c6,c7]:=by
 match l,h with
 | [c0,c1,c2,c3,c4,c5,c6,c7],_=>exact ⟨_,_,_,_,_,_,_,_,rfl⟩
theorem len9 {α:Type} {l:List α} (h:l.length=9):∃c0 c1 c2 c3 c4 c5 c6 c7 c8,l= [c0,c1,c2,c3,c4,c5,c6,c7,c8]:=by
 match l,h with
 | [c0,c1,c2,c3,c4,c5,c6,c7,c8],_=>exact ⟨_,_,_,_,_,_,_,_,_,rfl⟩
theorem z24 {H:Type} {enc:TypeId×Value->H} {w:World} {v:Value} {α:Type} {n:Nat} {R:(Nat->Prop)->World->List Value->α->Prop} {t e:TypeId} (ht:Tryz.prog.underlying t=some (.slice e)) (Y:Tryz.prog.cellsOf e=n) (hn:0<n)
 (Z:∀(fuel:Nat) (F:List Value) (x:DataW H×List MemPlace),DataW.trod enc Tryz.prog w 0 (fun _=>true) true fuel e F=some x->∃y:α,R (· <w.heap.size) w F y)
 {fuel:Nat} {x:DataW H×List MemPlace} (h:DataW.trod enc Tryz.prog w 0 (fun _=>true) true fuel t [v]=some x):∃l:List α,SL n R (· <w.heap.size) w v l:=by
 rcases open_slice ht h with ⟨J,_⟩ | ⟨a,len,cap,m,n',D,Pl,J,_,ac,af,hm,_,O⟩
 ·obtain rfl:=(List.cons.inj J).1;exact ⟨[],none,0,rfl,nlq _,n0q _,fun k N=>by cases N⟩
 obtain rfl:=(List.cons.inj J).1;have ai:len<=m:=by simp at hm;omega
 have G:∀i,i<len->∃(F:List Value) (y:α),F.length=n/\(∀j,j<n->w.cell? ((a.add (i*n)).add j)=F[j]?)/\R (· <w.heap.size) w F y:=by intro i hi;obtain ⟨W,h1,h2⟩:=O i (by omega);rw [Y]at h1;obtain ⟨_,hl,hc⟩:=World.cells?_some h1;obtain ⟨y,hy⟩:=Z _ _ _ h2;exact ⟨W,y,hl,hc,hy⟩
 by_cases h0:len=0
 ·subst h0;exact ⟨[],some a,cap,rfl,n0q _,n0q _,fun k N=>by cases N⟩
 obtain ⟨b,off,V⟩:=a;obtain ⟨ad,y0,ah,X,_⟩:=G 0 (by omega);have A:=X 0 hn;rw [List.getElem?_eq_getElem (by omega)]at A;have L:V=none:=by rw [add_add]at A;simpa [Addr.add]using World.cell?_spot A
 subst L;have I:∀k j,(((⟨b,off,none⟩:Addr).add (k*n)).add j)=⟨b,off+k*n+j,none⟩:=fun k j=>by rw [add_add,add_plain,Nat.add_assoc]
 have hb:b<w.heap.size:=by rw [I]at A;exact World.block_lt_of_cell? w _ A
 obtain ⟨f,hf⟩:∃f:Nat->α,∀i,i<len->∃F:List Value,F.length=n/\(∀j,j<n->w.cell? ⟨b,off+i*n+j,none⟩=F[j]?)/\R (· <w.heap.size) w F (f i):=by
  classical
  refine ⟨fun i=>if hi:i<len then Classical.choose (Classical.choose_spec (G i hi)) else y0,fun i hi=>?_⟩;simp only [dif_pos hi];obtain ⟨q1,q2,q3⟩:=Classical.choose_spec (Classical.choose_spec (G i hi));exact ⟨_,q1,fun j hj=>by rw [<-I];exact q2 j hj,q3⟩
 have E:((List.range len).map f).length=len:=by simp
 refine ⟨(List.range len).map f,some ⟨b,off,none⟩,cap,by rw [E],by rw [E];exact ac,by rw [E];omega,fun k N=>?_⟩;have aa:k<len:=by rw [E]at N;exact N
 obtain ⟨F,q1,q2,q3⟩:=hf k aa;exact ⟨b,off,F,rfl,hb,hb,q1,q2,by simpa using q3⟩
theorem z26 {H:Type} {enc:TypeId×Value->H} {w:World} (fuel:Nat) (E:List Value) (x:DataW H×List MemPlace) (h:DataW.trod enc Tryz.prog w 0 (fun _=>true) true fuel 123 E=some x):∃y:fm,RK (· <w.heap.size) w E y:=by obtain ⟨V,m,rfl,_,L,N,A⟩:=DataW.trod_struct Tryz.underlying123 h;rw [zz]at L;have D:V.length=2:=N;clear h;obtain ⟨W,X,rfl⟩:=xj L;have I:=A 0 _ rfl;have J:=A 1 _ rfl;simp [xg,An]at I J;obtain ⟨Y,Z,rfl⟩:=xj D;obtain ⟨a,F,_⟩:=DataW.trod_int Tryz.underlying3 I;obtain ⟨s,G,_,O⟩:=DataW.trod_string Tryz.underlying9 J;simp at F G;subst F G;exact ⟨⟨a,s⟩,rfl,O⟩
theorem z27 {H:Type} {enc:TypeId×Value->H} {w:World} (fuel:Nat) (E:List Value) (x:DataW H×List MemPlace) (h:DataW.trod enc Tryz.prog w 0 (fun _=>true) true fuel 125 E=some x):∃y:bq,RF (· <w.heap.size) w E y:=by obtain ⟨W,m,rfl,_,L,O,A⟩:=DataW.trod_struct Tryz.underlying125 h;rw [zg]at L;have D:W.length=2:=O;clear h;obtain ⟨X,Y,Z,rfl⟩:=len3 L;have I:=A 0 _ rfl;have J:=A 1 _ rfl;simp [An,zz]at I J;obtain ⟨y0,y1,rfl⟩:=xj D;obtain ⟨s,G,_,V⟩:=DataW.trod_string Tryz.underlying9 I;obtain ⟨k,F,N⟩:=z26 _ _ _ J;simp at G F;obtain ⟨rfl,rfl⟩:=F;subst G;exact ⟨⟨s,k⟩,rfl,V,N⟩
theorem z28 {H:Type} {enc:TypeId×Value->H} {w:World} (fuel:Nat) (E:List Value) (x:DataW H×List MemPlace) (h:DataW.trod enc Tryz.prog w 0 (fun _=>true) true fuel 248 E=some x):∃y:iz,RH (· <w.heap.size) w E y:=by obtain ⟨Z,m,rfl,_,W,X,A⟩:=DataW.trod_struct Tryz.underlying248 h;rw [D6]at W;have D:Z.length=4:=X;clear h;obtain ⟨c0,c1,c2,c3,rfl⟩:=C7 W;have L:=A 0 _ rfl;have N:=A 1 _ rfl;have O:=A 2 _ rfl;have V:=A 3 _ rfl;simp [xg,An]at L N O V;obtain ⟨y0,y1,y2,y3,rfl⟩:=C7 D;obtain ⟨a,F,_⟩:=DataW.trod_int Tryz.underlying3 L;obtain ⟨b,G,_⟩:=DataW.trod_int Tryz.underlying3 N;obtain ⟨c,I,_⟩:=DataW.trod_int Tryz.underlying3 O;obtain ⟨s,J,_,Y⟩:=DataW.trod_string Tryz.underlying9 V;simp at F G I J;subst F G I J;exact ⟨⟨a,b,c,s⟩,rfl,Y⟩
theorem z29 {H:Type} {enc:TypeId×Value->H} {w:World} (fuel:Nat) (L:List Value) (x:DataW H×List MemPlace) (h:DataW.trod enc Tryz.prog w 0 (fun _=>true) true fuel 159 L=some x):∃y:d9,RM (· <w.heap.size) w L y:=by obtain ⟨ys,m,rfl,_,hl,hn,A⟩:=DataW.trod_struct Tryz.underlying159 h;rw [D8]at hl;have J:ys.length=8:=hn;clear h;obtain ⟨c0,c1,c2,c3,c4,c5,c6,c7,c8,rfl⟩:=len9 hl;have W:=A 0 _ rfl;have X:=A 1 _ rfl;have Y:=A 2 _ rfl;have Z:=A 3 _ rfl;have g4:=A 4 _ rfl;have g5:=A 5 _ rfl;have g6:=A 6 _ rfl;have g7:=A 7 _ rfl;simp [xg,An,cBool,E4,zz,E3]at W X Y Z g4 g5 g6 g7;obtain ⟨y0,y1,y2,y3,y4,y5,y6,y7,rfl⟩:=len8 J;obtain ⟨s,V,_,hs⟩:=DataW.trod_string Tryz.underlying9 W;obtain ⟨b,N,_⟩:=DataW.trod_bool Tryz.underlying4 X;obtain ⟨args,ha⟩:=z24 Tryz.underlying156 zz (by omega) z26 Y;obtain ⟨k,O,hk⟩:=z26 _ _ _ Z;obtain ⟨st,G,_⟩:=DataW.trod_int Tryz.underlying3 g4;obtain ⟨lo,F,_⟩:=DataW.trod_int Tryz.underlying3 g5;obtain ⟨co,E,_,I⟩:=DataW.trod_string Tryz.underlying9 g6;obtain ⟨D,hh⟩:=z24 Tryz.underlying157 D6 (by omega) z28 g7;simp at V N O G F E;obtain ⟨rfl,rfl⟩:=O;subst V N G F E;exact ⟨⟨s,b,args,k,st,lo,co,D⟩,_,_,rfl,ha,hh,hs,hk,I⟩
theorem z3a {H:Type} {enc:TypeId×Value->H} {w:World} (fuel:Nat) (F:List Value) (x:DataW H×List MemPlace) (h:DataW.trod enc Tryz.prog w 0 (fun _=>true) true fuel 162 F=some x):∃y:aq,RC (· <w.heap.size) w F y:=by obtain ⟨ys,m,rfl,_,V,Z,D⟩:=DataW.trod_struct Tryz.underlying162 h;rw [Bj]at V;have E:ys.length=4:=Z;clear h;obtain ⟨c0,c1,c2,c3,rfl⟩:=C7 V;have J:=D 0 _ rfl;have L:=D 1 _ rfl;have N:=D 2 _ rfl;have O:=D 3 _ rfl;simp [An,zy,E5]at J L N O;obtain ⟨y0,y1,y2,y3,rfl⟩:=C7 E;obtain ⟨s,G,_,hs⟩:=DataW.trod_string Tryz.underlying9 J;obtain ⟨u,I,_,hu⟩:=DataW.trod_string Tryz.underlying9 L;obtain ⟨A,X⟩:=z24 Tryz.underlying126 zg (by omega) z27 N;obtain ⟨W,Y⟩:=z24 Tryz.underlying160 D8 (by omega) z29 O;simp at G I;subst G I;exact ⟨⟨s,u,A,W⟩,_,_,rfl,X,Y,hs,hu⟩
theorem z3b {H:Type} {enc:TypeId×Value->H} {w:World} {v:Value} {fuel:Nat} {x:DataW H×List MemPlace} (h:DataW.trod enc Tryz.prog w 0 (fun _=>true) true fuel 31 [v]=some x):∃l:List aq,SL 4 RC (· <w.heap.size) w v l:=
 z24 Tryz.underlying31 Bj (by omega) z3a h
theorem D9:Tryz.prog.cellsOf 233=2:=by kernel_rfl
theorem cLk:Tryz.prog.cellsOf 36=5:=by kernel_rfl
theorem Bk:Tryz.prog.cellsOf 31=1:=by kernel_rfl
theorem D7:Tryz.prog.cellsOf 22=1:=by kernel_rfl
theorem cStrs:Tryz.prog.cellsOf 225=1:=by kernel_rfl
theorem E7:Tryz.prog.cellsOf 226=1:=by kernel_rfl
theorem Bn:Tryz.prog.cellsOf 32=1:=by kernel_rfl
theorem E6:Tryz.prog.cellsOf 33=1:=by kernel_rfl
theorem Cz:Tryz.prog.cellsOf 34=1:=by kernel_rfl
theorem len5 {α:Type} {l:List α} (h:l.length=5):∃c0 c1 c2 c3 c4,l= [c0,c1,c2,c3,c4]:=by
 match l,h with
 | [c0,c1,c2,c3,c4],_=>exact ⟨_,_,_,_,_,rfl⟩
theorem z3c {H:Type} {enc:TypeId×Value->H} {w:World} (fuel:Nat) (A:List Value) (x:DataW H×List MemPlace) (h:DataW.trod enc Tryz.prog w 0 (fun _=>true) true fuel 3 A=some x):∃y:Int,RI (· <w.heap.size) w A y:=by obtain ⟨a,D,_⟩:=DataW.trod_int Tryz.underlying3 h;exact ⟨a,D⟩
theorem z3d {H:Type} {enc:TypeId×Value->H} {w:World} (fuel:Nat) (A:List Value) (x:DataW H×List MemPlace) (h:DataW.trod enc Tryz.prog w 0 (fun _=>true) true fuel 9 A=some x):∃y:ByteArray,RS (· <w.heap.size) w A y:=by obtain ⟨s,D,_,E⟩:=DataW.trod_string Tryz.underlying9 h;exact ⟨s,D,E⟩
theorem z3e {H:Type} {enc:TypeId×Value->H} {w:World} (fuel:Nat) (E:List Value) (x:DataW H×List MemPlace) (h:DataW.trod enc Tryz.prog w 0 (fun _=>true) true fuel 233 E=some x):∃y:cw,RT (· <w.heap.size) w E y:=by obtain ⟨O,m,rfl,_,L,N,A⟩:=DataW.trod_struct Tryz.underlying233 h;rw [D9]at L;have D:O.length=2:=N;clear h;obtain ⟨V,W,rfl⟩:=xj L;have I:=A 0 _ rfl;have J:=A 1 _ rfl;simp [xg]at I J;obtain ⟨X,Y,rfl⟩:=xj D;obtain ⟨a,F,_⟩:=DataW.trod_int Tryz.underlying3 I;obtain ⟨b,G,_⟩:=DataW.trod_int Tryz.underlying3 J;simp at F G;subst F G;exact ⟨⟨a,b⟩,rfl⟩
theorem z3f {H:Type} {enc:TypeId×Value->H} {w:World} {α:Type} {n:Nat} {R:(Nat->Prop)->World->List Value->α->Prop} {t e:TypeId} (J:Tryz.prog.underlying t=some (.slice e)) (F:Tryz.prog.cellsOf e=n) (L:0<n)
 (G:∀(fuel:Nat) (E:List Value) (x:DataW H×List MemPlace),DataW.trod enc Tryz.prog w 0 (fun _=>true) true fuel e E=some x->∃y:α,R (· <w.heap.size) w E y)
 (fuel:Nat) (E:List Value) (x:DataW H×List MemPlace) (h:DataW.trod enc Tryz.prog w 0 (fun _=>true) true fuel t E=some x):∃y:List α,kr n R (· <w.heap.size) w E y:=by
 have I:∃v,E= [v]:=by
  rcases open_slice J h with ⟨A,_⟩ | ⟨a,len,cap,m,O,D,N,A,_⟩
  ·exact ⟨_,A⟩
  exact ⟨_,A⟩
 obtain ⟨v,rfl⟩:=I;obtain ⟨l,I⟩:=z24 J F L G h;exact ⟨l,v,rfl,I⟩
theorem xm {H:Type} {enc:TypeId×Value->H} {w:World} {fuel:Nat} {E:List Value} {x:DataW H×List MemPlace} (h:DataW.trod enc Tryz.prog w 0 (fun _=>true) true fuel 36 E=some x):
 ∃kC kS kF kN kT d,E= [kC,kS,kF,kN,kT]/\mt (· <w.heap.size) w kC kS kF kN kT d:=by
 obtain ⟨ys,m,rfl,_,N,X,A⟩:=DataW.trod_struct Tryz.underlying36 h;rw [cLk]at N;clear h;obtain ⟨c0,c1,c2,c3,c4,rfl⟩:=len5 N;have F:=A 0 _ rfl;have G:=A 1 _ rfl;have I:=A 2 _ rfl;have J:=A 3 _ rfl;have L:=A 4 _ rfl;simp [Bk,D7,Bn,E6,Cz]at F G I J L;have D:ys.length=5:=X;obtain ⟨y0,y1,y2,y3,y4,rfl⟩:=len5 D;obtain ⟨Y,h0⟩:=z3b F;obtain ⟨Z,h1⟩:=z24 Tryz.underlying22 xg (by omega) z3c G;obtain ⟨l2,O⟩:=z24 Tryz.underlying32 zy (by omega) (z3f Tryz.underlying126 zg (by omega) z27) I;obtain ⟨l3,V⟩:=z24 Tryz.underlying33 cStrs (by omega) (z3f Tryz.underlying225 An (by omega) z3d) J;obtain ⟨l4,W⟩:=z24 Tryz.underlying34 E7 (by omega) (z3f Tryz.underlying226 D9 (by omega) z3e) L;exact ⟨_,_,_,_,_,⟨Y,Z,l2,l3,l4⟩,rfl,h0,h1,O,V,W⟩
theorem cHp:Tryz.prog.cellsOf 24=7:=by kernel_rfl
theorem len7 {α:Type} {l:List α} (h:l.length=7):∃c0 c1 c2 c3 c4 c5 c6,l= [c0,c1,c2,c3,c4,c5,c6]:=by
 match l,h with
 | [c0,c1,c2,c3,c4,c5,c6],_=>exact ⟨_,_,_,_,_,_,_,rfl⟩
def RIW (M:Nat->Prop) (w:World) (cs:List Value) (y:Int):Prop:=RI M w cs y/\(Lit.int .i64 y).wf=true
theorem z3g {H:Type} {enc:TypeId×Value->H} {w:World} (fuel:Nat) (A:List Value) (x:DataW H×List MemPlace) (h:DataW.trod enc Tryz.prog w 0 (fun _=>true) true fuel 3 A=some x):∃y:Int,RIW (· <w.heap.size) w A y:=by obtain ⟨a,D,_,E⟩:=DataW.trod_int Tryz.underlying3 h;exact ⟨a,D,E⟩
theorem SL.riw {M:Nat->Prop} {w:World} {v:Value} {l:List Int} (h:SL 1 RIW M w v l):SL 1 RI M w v l/\∀x∈l,(Lit.int .i64 x).wf=true:=by
 obtain ⟨O,cap,e,h1,V,N⟩:=h;refine ⟨⟨O,cap,e,h1,V,fun k D=>?_⟩,fun x W=>?_⟩
 ·obtain ⟨b,off,E,F,G,I,J,L,A⟩:=N k D;exact ⟨b,off,E,F,G,I,J,L,A.1⟩
 obtain ⟨k,D,rfl⟩:=List.getElem_of_mem W;obtain ⟨b,off,E,F,G,I,J,L,A⟩:=N k D;exact A.2
theorem zl {H:Type} {enc:TypeId×Value->H} {w:World} {fuel:Nat} {E:List Value} {x:DataW H×List MemPlace} (h:DataW.trod enc Tryz.prog w 0 (fun _=>true) true fuel 24 E=some x):
 ∃(vW vO:Value) (hp:ar),E= [vW,.i hp.ae,.i hp.old,.i hp.bo,.i hp.ba,vO,.i hp.next]/\SL 1 RI (· <w.heap.size) w vW hp.ab/\SL 1 RI (· <w.heap.size) w vO hp.am/\(∀x∈hp.ab,(Lit.int .i64 x).wf=true)/\(∀x∈hp.am,(Lit.int .i64 x).wf=true)/\(Lit.int .i64 hp.next).wf=true:=by
 obtain ⟨ys,m,rfl,_,hl,hn,A⟩:=DataW.trod_struct Tryz.underlying24 h;rw [cHp]at hl;clear h;obtain ⟨c0,c1,c2,c3,c4,c5,c6,rfl⟩:=len7 hl;have N:=A 0 _ rfl;have O:=A 1 _ rfl;have V:=A 2 _ rfl;have W:=A 3 _ rfl;have X:=A 4 _ rfl;have Y:=A 5 _ rfl;have Z:=A 6 _ rfl;simp [D7,xg]at N O V W X Y Z;have D:ys.length=7:=hn;obtain ⟨y0,y1,y2,y3,y4,y5,y6,rfl⟩:=len7 D;obtain ⟨l0,h0⟩:=z24 Tryz.underlying22 xg (by omega) z3g N;obtain ⟨a1,F,_⟩:=DataW.trod_int Tryz.underlying3 O;obtain ⟨a2,G,_⟩:=DataW.trod_int Tryz.underlying3 V;obtain ⟨a3,I,_⟩:=DataW.trod_int Tryz.underlying3 W;obtain ⟨a4,J,_⟩:=DataW.trod_int Tryz.underlying3 X;obtain ⟨l5,h5⟩:=z24 Tryz.underlying22 xg (by omega) z3g Y;obtain ⟨a6,L,_,w6⟩:=DataW.trod_int Tryz.underlying3 Z;simp at F G I J L;subst F G I J L;exact ⟨_,_,⟨l0,a1,a2,a3,a4,l5,a6⟩,rfl,h0.riw.1,h5.riw.1,h0.riw.2,h5.riw.2,w6⟩
theorem zm {H:Type} {enc:TypeId×Value->H} {w:World} {v:Value} {fuel:Nat} {x:DataW H×List MemPlace} (h:DataW.trod enc Tryz.prog w 0 (fun _=>true) true fuel 22 [v]=some x):∃l:List Int,SL 1 RI (· <w.heap.size) w v l/\∀x∈l,(Lit.int .i64 x).wf=true:=by obtain ⟨l,A⟩:=z24 Tryz.underlying22 xg (by omega) z3g h;exact ⟨l,A.riw.1,A.riw.2⟩
end Go.Proofs.YtjdnmblggdobgaaGreat
