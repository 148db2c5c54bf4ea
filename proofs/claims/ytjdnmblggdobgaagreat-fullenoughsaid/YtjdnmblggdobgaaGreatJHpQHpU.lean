import Derived.Test.YtjdnmblggdobgaaGreatJHpCHpH
import Derived.Laws.EntriesVeiled
set_option maxHeartbeats 4000000
set_option maxRecDepth 100000
namespace Go.Proofs.YtjdnmblggdobgaaGreat
open Go.RowKit Go.Maps Tryz
theorem qr.len {X B:Nat} {w:World} {L J D G E F I A:Value} {h:ar} {d:bd} {ts:List bk} (c:qr X B w L J D G E F I A h d ts):∃a q,A=.slice a ts.length q:=kq c.row
theorem qr.all {X B:Nat} {w:World} {V O G L I J N D:Value} {h:ar} {d:bd} {ts:List bk} (c:qr X B w V O G L I J N D h d ts) (F:ts.length<=1000000):SL 4 Cx (· <w.heap.size) w D ts:=
 (zhw c.row F).mono (fun b A=>by obtain ⟨_,E,_,_,A,_⟩:=A;exact bz A) (fun _ _ h=>h)
def jd (h:ar) (x:bk):Bool:=decide (x.hash<1)||decide (h.next<=x.hash)
theorem zh4 (W:World) (X B:Nat) (vW vO L V N O Y Z:Value) (h:ar) (d:bd) (ts:List bk) (hc:qr X B W vW vO L V N O Y Z h d ts) (P:Nat) (E:W.cell? ⟨P,0,none⟩=some (.p (X+1))) (x:bk):
 Calls prog 169 #[.agg #[.i x.loc,.i x.tag,.i x.len,.i x.hash],.p P] W fun r I=>r=.returned (.bool (jd h x))/\Bl W I:=by
 have A:Hid (Bl W (W.alloc (.cells #[.i x.loc,.i x.tag,.i x.len,.i x.hash] 101))):=(br _ _).alloc (nlq _) _;have F:P<W.heap.size:=World.block_lt_of_cell? W _ E;have J:=bz hc.blk;have c6:(W.alloc (.cells #[.i x.loc,.i x.tag,.i x.len,.i x.hash] 101)).cell? ⟨X+1,6,none⟩=some (.i h.next):=(A.o.cell (p:=⟨X+1,6,none⟩) J).trans (bp hc.blk 6 rfl);have p0:(W.alloc (.cells #[.i x.loc,.i x.tag,.i x.len,.i x.hash] 101)).cell? ⟨P,0,none⟩=some (.p (X+1)):=(A.o.cell (p:=⟨P,0,none⟩) F).trans E;have D:Hid (jd h x=(decide (x.hash<1)||decide (h.next<=x.hash))):=rfl;clear hc E;generalize h.next=nx at*;by_cases h1:x.hash<1
 ·have G:decide (x.hash<1)=true:=by simp [h1]
  rw [D.o,G];clear D;go_enter func169,ntmps169;go_wp2_with fail;go_quiet (fail);go_wp2_with fail;go_ret;exact ⟨rfl,o7 A.o _⟩
 have G:decide (x.hash<1)=false:=by simp [h1]
 rw [D.o,G];clear D;go_enter func169,ntmps169;go_wp2_with fail;go_quiet (fail);go_wp2_with fail;go_ret;exact ⟨by simp,o7 A.o _⟩
theorem zh5 (w:World) (X B:Nat) (vW vO Y kS Z kN kT I:Value) (h:ar) (d:bd) (ts:List bk) (hc:qr X B w vW vO Y kS Z kN kT I h d ts) (N:ts.length<=1000000):
 Calls prog 110 #[.agg #[.p (X+1)]] w fun r w'=>r=.returned (.bool (!ts.any (jd h)))/\Bl w w':=by
 have O:=qj prog;have D:Bl w (w.alloc (.cells #[.p (X+1)] 88)):=(br _ _).alloc (nlq _) _;have A:=hc.below D;have V:(w.alloc (.cells #[.p (X+1)] 88)).cell? ⟨w.heap.size,0,none⟩=some (.p (X+1)):=by simp [go_sem]
 have F:Hid (Calls prog 168 #[I,.func (.func 169) #[] #[.p w.heap.size]] (w.alloc (.cells #[.p (X+1)] 88)) fun r w'=>r=.returned (.bool (ts.any (jd h)))/\Below (w.alloc (.cells #[.p (X+1)] 88)).heap.size (w.alloc (.cells #[.p (X+1)] 88)) w'):=by refine zh0 _ _ I ts (A.all N) (nlq _) 169 #[] _ (jd h) (fun args w=>by kernel_rfl) ?_;intro x hx W L;exact zh4 W X B _ _ _ _ _ _ _ I h d ts (A.below L) w.heap.size ((L.cell (p:=⟨w.heap.size,0,none⟩) (by simp)).trans V) x
 have gl:=bz A.blk;have aa:=bp A.blk 12 (x:=I) rfl;have E:=ag D;obtain ⟨a,q,rfl⟩:=hc.len;clear hc A D;generalize ts.any (jd h)=b at*;go_enter func110,ntmps110;go_wp2_with fail;refine F.o.mono ?_;rintro r w1 ⟨rfl,G⟩;have J:Hid (Bl w w1):=E.o.trans (G.mono E.o.size);clear G F;go_wp2_with fail;go_ret;exact ⟨rfl,J.o⟩
theorem zh6 (W:World) (X B:Nat) (vW Z L V N O Y F:Value) (h:ar) (d:bd) (ts:List bk) (hc:qr X B W vW Z L V N O Y F h d ts) (P:Nat) (I:W.cell? ⟨P,0,none⟩=some (.p (X+1))) (n:Int) (E:(Lit.int .i64 n).wf=true):
 Calls prog 170 #[.i n,.p P] W fun r G=>r=.returned (.bool (!b8 ts n))/\Bl W G:=by
 have D:=ag (zhv W X B _ _ _ _ _ _ _ F h d ts hc n E);have J:P<W.heap.size:=World.block_lt_of_cell? W _ I;clear hc E;generalize b8 ts n=b at*;go_enter func170,ntmps170;go_wp2_with fail;refine D.o.mono ?_;rintro r w1 ⟨rfl,A⟩;clear D;go_wp2_with fail;go_ret;exact ⟨rfl,A⟩
structure ul (d:bd) (h:ar) (ts:List bk):Prop where
 len:ts.length<=1000000
 ab:h.ab.length<=100000
 wf:∀x∈h.ab,(Lit.int .i64 x).wf=true
 fit:∀t∈ts,pm d t/\0<=t.loc/\t.fin<=h.ab.length
theorem ul.wdf {d:bd} {h:ar} {ts:List bk} (l:ul d h ts) (a:Int):(Lit.int .i64 (wd h.ab a)).wf=true:=by
 unfold wd;cases hx:h.ab[a.toNat]? with
 | none=>decide
 | some x=>exact l.wf x (List.mem_of_getElem? hx)
theorem zh7 (W:World) (X B:Nat) (vW vO kC kS kF kN kT vA:Value) (h:ar) (d:bd) (ts:List bk) (hc:qr X B W vW vO kC kS kF kN kT vA h d ts) (N:ul d h ts) (P Q:Nat) (Y:W.cell? ⟨P,0,none⟩=some (.p (X+1))) (hQ:W.cell? ⟨Q,0,none⟩=some (.func (.func 170) #[] #[.p P])) (x:bk) (hx:x∈ts):
 Calls prog 171 #[.agg #[.i x.loc,.i x.tag,.i x.len,.i x.hash],.p P,.p Q] W fun r O=>r=.returned (.bool (ep d.fields h.ab x fun n=>!b8 ts n))/\Bl W O:=by
 obtain ⟨D,L⟩:∃D,D=W.alloc (.cells #[.i x.loc,.i x.tag,.i x.len,.i x.hash] 101):=⟨_,rfl⟩;have A:Bl W D:=L ▸ (br _ _).alloc (nlq _) _;have Z:P<W.heap.size:=World.block_lt_of_cell? W _ Y;have aa:Q<W.heap.size:=World.block_lt_of_cell? W _ hQ;have gl:=bz hc.blk;have E:D.heap[W.heap.size]? =some (.cells #[.i x.loc,.i x.tag,.i x.len,.i x.hash] 101 (0,0)):=L ▸ heap_alloc_new W _;have p0:D.cell? ⟨P,0,none⟩=some (.p (X+1)):=(A.cell (p:=⟨P,0,none⟩) Z).trans Y;have q0:D.cell? ⟨Q,0,none⟩=some (.func (.func 170) #[] #[.p P]):=(A.cell (p:=⟨Q,0,none⟩) aa).trans hQ;have s0:=bp E 0 (x:=.i x.loc) rfl;have s1:=bp E 1 (x:=.i x.tag) rfl;have s2:=bp E 2 (x:=.i x.len) rfl;have s3:=bp E 3 (x:=.i x.hash) rfl;have ls:=bz E;obtain ⟨hf,h1,h2⟩:=N.fit x hx;have HC:Hid (∀V,Bl D V->Calls prog 172 #[.p (X+1),.agg #[.i x.loc,.i x.tag,.i x.len,.i x.hash],.func (.func 170) #[] #[.p P]] V fun r w'=>r=.returned (.bool (ep d.fields h.ab x fun n=>!b8 ts n))/\Bl V w'):=by intro V hV;have J:=(hc.below A).below hV;refine zh3 V B (X+1) _ _ _ _ _ _ _ h d J.gd x hf h1 h2 N.ab 170 #[] _ (fun n=>!b8 ts n) (fun args w=>by kernel_rfl) ?_;intro a ha V2 G;exact zh6 V2 X B _ _ _ _ _ _ _ vA h d ts (J.below G) P ((G.cell (p:=⟨P,0,none⟩) (by show P<_;have:=A.size;have:=hV.size;omega)).trans ((hV.cell (p:=⟨P,0,none⟩) (by show P<_;have:=A.size;omega)).trans p0)) _ (N.wdf a)
 have F:=ag A;have HW:=ag L;have ad:P<D.heap.size:=by have:=A.size;omega
 have af:Q<D.heap.size:=by have:=A.size;omega
 clear hc N Y hQ A L E hf h1 h2 hx;generalize ep d.fields h.ab x (fun n=>!b8 ts n)=b at*;go_enter func171,ntmps171;go_wp2_with fail;rw [<-HW.o]
 go_region_held3 (fun O=>∀p:Addr,p.block<D.heap.size->O.cell? p=D.cell? p) (exact fun p hp=>Below.cell (B:=D.heap.size) (w:=D) (by repeat (first | assumption | exact br _ _ | refine Below.drew ?_)) hp) (first | (refine (HC.o _ ?_).mono ?_;(exact (br _ _).drew);rintro r w2 ⟨rfl,I⟩;have ac:Bl D w2:=(br D.heap.size D).drew.trans I;clear I))
 all_goals
  rename_i hS1;clear hS1;go_wp2_with fail;go_ret;exact ⟨rfl,F.o.trans (ac.mono F.o.size)⟩
theorem zh8 (w:World) (X B:Nat) (vW vO kC kS kF kN kT L:Value) (h:ar) (d:bd) (ts:List bk) (hc:qr X B w vW vO kC kS kF kN kT L h d ts) (W:ul d h ts):
 Calls prog 112 #[.agg #[.p (X+1)]] w fun r w'=>r=.returned (.bool (!ts.any fun x=>ep d.fields h.ab x fun n=>!b8 ts n))/\Bl w w':=by
 have aa:=qj prog;obtain ⟨D,I⟩:∃D,D=(w.alloc (.cells #[.p (X+1)] 88)).alloc (.cells #[.func (.func 170) #[] #[.p w.heap.size]] 79):=⟨_,rfl⟩;have ac:D.heap.size=w.heap.size+2:=by rw [I];simp
 have F:Bl w D:=I ▸ ((br _ _).alloc (nlq _) _).alloc (by simp) _;have A:=hc.below F;have Z:D.cell? ⟨w.heap.size,0,none⟩=some (.p (X+1)):=by rw [I];simp [go_sem]
 have hq:D.cell? ⟨w.heap.size+1,0,none⟩=some (.func (.func 170) #[] #[.p w.heap.size]):=by rw [I];simp [go_sem]
 have E:Hid (Calls prog 168 #[L,.func (.func 171) #[] #[.p w.heap.size,.p (w.heap.size+1)]] D fun r w'=>r=.returned (.bool (ts.any fun x=>ep d.fields h.ab x fun n=>!b8 ts n))/\Bl D w'):=by refine zh0 _ _ L ts (A.all W.len) (nlq _) 171 #[] _ (fun x=>ep d.fields h.ab x fun n=>!b8 ts n) (fun args w=>by kernel_rfl) ?_;intro x hx V O;exact zh7 V X B _ _ _ _ _ _ _ L h d ts (A.below O) W w.heap.size (w.heap.size+1) ((O.cell (p:=⟨w.heap.size,0,none⟩) (by show w.heap.size<_;omega)).trans Z) ((O.cell (p:=⟨w.heap.size+1,0,none⟩) (by show w.heap.size+1<_;omega)).trans hq) x hx
 have gl:=bz A.blk;have Y:=bp A.blk 12 (x:=L) rfl;have J:=ag F;obtain ⟨a,q,rfl⟩:=hc.len;rw [I]at E Y gl;clear hc A F Z hq W;generalize (ts.any fun x=>ep d.fields h.ab x fun n=>!b8 ts n)=b at*;go_enter func112,ntmps112;go_wp2_with fail;refine E.o.mono ?_;rintro r w1 ⟨rfl,G⟩;rw [<-I]at G;have N:Hid (Bl w w1):=J.o.trans (G.mono J.o.size);clear G E;go_wp2_with fail;go_ret;exact ⟨rfl,N.o⟩
def na (l:List Int) (k:Nat):Prop:=∀j,0<j->j<k->wd l ((j:Int) - 1)<wd l j
theorem zh9 {l:List Int} {k:Nat} (h:na l k) (A:0<k->wd l ((k:Int) - 1)<wd l k):na l (k+1):=fun j h0 D=>by
 by_cases e:j=k
 ·subst e;exact A h0
 exact h j h0 (by omega)
theorem zia (w:World) (X B:Nat) (vW vO kC kS kF kN kT vA:Value) (h:ar) (d:bd) (ts:List bk) (hc:qr X B w vW vO kC kS kF kN kT vA h d ts):
 Calls prog 114 #[.agg #[.p (X+1)]] w fun r w'=>(∃b,r=.returned (.bool b)/\(b=true↔na h.am h.am.length))/\Bl w w':=by
 have D:Bl w (w.alloc (.cells #[.p (X+1)] 88)):=(br _ _).alloc (nlq _) _;have A:=hc.below D;have hp:(w.alloc (.cells #[.p (X+1)] 88)).cell? ⟨w.heap.size,0,none⟩=some (.p (X+1)):=by simp [go_sem]
 have gl:=bz A.blk;have HS:=ag A.sO;have m5:=bp A.blk 5 (x:=vO) rfl;obtain ⟨ao,ca,rfl,-,Z,-⟩:=hc.sO;unfold maxLen at Z;have G:=ag D;clear hc A D;go_enter func114,ntmps114;go_wp2_with fail;go_loopw [13] (fun i wr=>∃k:Nat,k<=h.am.length/\i=.i k/\wr=w.alloc (.cells #[.p (X+1)] 88)/\Hid (na h.am k)) (fun i _=>h.am.length - (intOf i).toNat)
 case atStart=>exact ⟨0,n0q _,rfl,rfl,fun j _ F=>by omega⟩
 case round=>
  obtain ⟨k,hk,rfl,rfl,O⟩:=hrel;by_cases E:k<h.am.length
  ·obtain ⟨bW,oW,rfl,ac,eW⟩:=HS.o.atI k E;have q1:(0:Int)<=k:=by omega
   have q2:(k:Int)<h.am.length:=by omega
   have J:Hid (h.am[k]=wd h.am k):=(pi E).symm;by_cases ad:0<(k:Int)
   ·obtain ⟨j,F⟩:∃j:Nat,(k:Int) - 1=j:=⟨k - 1,by omega⟩;have L:j<h.am.length:=by omega
    obtain ⟨bV,oV,e,aa,eV⟩:=HS.o.atI j L;obtain ⟨rfl,rfl⟩:bV=bW/\oV=oW:=by injection e with e;injection e with e1 e2;exact ⟨e1.symm,e2.symm⟩
    have I:Hid (h.am[j]=wd h.am ((k:Int) - 1)):=by show _=_;rw [F];exact (pi L).symm
    have ah:IntKind.i64.wrap ((k:Int) - 1)=(j:Int):=by rw [F];exact gp _ (by omega) (by omega)
    have q3:(0:Int)<=j:=by omega
    have q4:(j:Int)<h.am.length:=by omega
    have HJ:=ag F;by_cases af:h.am[k]<=h.am[j]
    ·have N:Hid (¬na h.am h.am.length):=fun W=>by
      have:=W k (by omega) E;rw [<-J.o,<-I.o]at this;omega
     generalize h.am[k]=x at*;generalize h.am[j]=y at*;clear F e;go_wp2_with fail;go_ret;exact ⟨⟨false,rfl,by simp;exact N.o⟩,G.o⟩
    have V:=ag (zh9 O.o (fun _=>by rw [<-J.o,<-I.o];omega));generalize h.am[k]=x at*;generalize h.am[j]=y at*;clear F e;go_wp2_with fail;go_roundw
    case rel=>exact ⟨k+1,by omega,by go_num,trivial,V.o⟩
    case measure=>simp [intOf];omega
   have V:=ag (zh9 O.o (fun W=>absurd W (by omega)));generalize h.am[k]=x at*;go_wp2_with fail;go_roundw
   case rel=>exact ⟨k+1,by omega,by go_num,trivial,V.o⟩
   case measure=>simp [intOf];omega
  have Y:k=h.am.length:=by omega
  have N:Hid (na h.am h.am.length):=Y ▸ O.o;go_wp2_with fail;go_ret;exact ⟨⟨true,rfl,by simp;exact N.o⟩,G.o⟩
def j6 (h:ar):Bool:=jb h.ae&&jb h.old
def jg (h:ar):Bool:=decide ((h.ab.length:Int)=1+h.ae+h.old)
def jx (h:ar):Bool:=decide (1<=h.bo)&&decide (h.bo<=h.ae+1)&&decide (h.ae+1<=h.ba)&&decide (h.ba<=h.ae+h.old+1)&&decide (1<=h.next)
theorem zib (w:World) (G F:Value) (h:ar):Calls prog 106 #[.agg #[G,.i h.ae,.i h.old,.i h.bo,.i h.ba,F,.i h.next]] w fun r w'=>r=.returned (.bool (j6 h))/\Bl w w':=by
 have A:∀o,Hid (Bl w (w.alloc o)):=fun o=>(br _ _).alloc (nlq _) _;have E:Hid (∀W,Calls prog 48 #[.i h.ae] W fun r w'=>r=.returned (.bool (jb h.ae))/\w'=W):=fun W=>zew W _;have D:Hid (∀W,Calls prog 48 #[.i h.old] W fun r w'=>r=.returned (.bool (jb h.old))/\w'=W):=fun W=>zew W _;unfold j6;generalize jb h.ae=a at*;generalize jb h.old=b at*;go_enter func106,ntmps106;go_wp2_with fail;refine (E.o _).mono ?_;rintro r _ ⟨rfl,rfl⟩;cases a with
 | false=>
   go_wp2_with fail;go_ret;exact ⟨rfl,(A _).o⟩
 | true=>
   go_wp2_with fail;refine (D.o _).mono ?_;rintro r _ ⟨rfl,rfl⟩;go_wp2_with fail;go_ret;exact ⟨by simp,(A _).o⟩
theorem zic (w:World) (E:Option Addr) (F:Nat) (G:Value) (h:ar) (J:3<=h.ae/\h.ae<=2000) (I:3<=h.old/\h.old<=2000):Calls prog 107 #[.agg #[.slice E h.ab.length F,.i h.ae,.i h.old,.i h.bo,.i h.ba,G,.i h.next]] w fun r w'=>r=.returned (.bool (jg h))/\Bl w w':=by
 have A:∀o,Hid (Bl w (w.alloc o)):=fun o=>(br _ _).alloc (nlq _) _;have L:IntKind.i64.wrap (1+h.ae)=1+h.ae:=gp _ (by omega) (by omega);have N:IntKind.i64.wrap (1+h.ae+h.old)=1+h.ae+h.old:=gp _ (by omega) (by omega);have D:Hid (jg h=((h.ab.length:Int)==1+h.ae+h.old)):=by show _=_;unfold jg;by_cases e:(h.ab.length:Int)=1+h.ae+h.old<;>simp [e]
 go_enter func107,ntmps107;go_wp2_with fail;go_ret;exact ⟨by rw [D.o];simp,(A _).o⟩
theorem zid (w:World) (N L:Value) (h:ar) (V:3<=h.ae/\h.ae<=2000) (O:3<=h.old/\h.old<=2000):Calls prog 108 #[.agg #[N,.i h.ae,.i h.old,.i h.bo,.i h.ba,L,.i h.next]] w fun r w'=>r=.returned (.bool (jx h))/\Bl w w':=by
 have E:∀o,Hid (Bl w (w.alloc o)):=fun o=>(br _ _).alloc (nlq _) _;have W:IntKind.i64.wrap (h.ae+1)=h.ae+1:=gp _ (by omega) (by omega);have X:IntKind.i64.wrap (h.ae+h.old)=h.ae+h.old:=gp _ (by omega) (by omega);have Y:IntKind.i64.wrap (h.ae+h.old+1)=h.ae+h.old+1:=gp _ (by omega) (by omega);have D:Hid (jx h=(decide (1<=h.bo)&&decide (h.bo<=h.ae+1)&&decide (h.ae+1<=h.ba)&&decide (h.ba<=h.ae+h.old+1)&&decide (1<=h.next))):=rfl;by_cases h1:1<=h.bo
 ·by_cases F:h.bo<=h.ae+1
  ·by_cases G:h.ae+1<=h.ba
   ·by_cases I:h.ba<=h.ae+h.old+1
    ·by_cases J:1<=h.next
     all_goals
      have A:=ag D.o;simp only [h1,F,G,I,J,decide_true,decide_false,Bool.and_true,Bool.and_false]at A;clear D;go_enter func108,ntmps108;go_wp2_with fail;go_ret;exact ⟨by rw [A.o];rfl,(E _).o⟩
    have A:=ag D.o;simp only [h1,F,G,I,decide_true,decide_false,Bool.and_true,Bool.and_false,Bool.false_and]at A;clear D;go_enter func108,ntmps108;go_wp2_with fail;go_ret;exact ⟨by rw [A.o];rfl,(E _).o⟩
   have A:=ag D.o;simp only [h1,F,G,decide_true,decide_false,Bool.and_true,Bool.and_false,Bool.false_and]at A;clear D;go_enter func108,ntmps108;go_wp2_with fail;go_ret;exact ⟨by rw [A.o];rfl,(E _).o⟩
  have A:=ag D.o;simp only [h1,F,decide_true,decide_false,Bool.and_false,Bool.false_and]at A;clear D;go_enter func108,ntmps108;go_wp2_with fail;go_ret;exact ⟨by rw [A.o];rfl,(E _).o⟩
 have A:=ag D.o;simp only [h1,decide_false,Bool.false_and]at A;clear D;go_enter func108,ntmps108;go_wp2_with fail;go_ret;exact ⟨by rw [A.o];rfl,(E _).o⟩
theorem Dr (ts:List bk) {n:Int} {t:bk} (h:j9 ts n=some t):t∈ts/\t.loc=n:=by
 have key:∀(l:List bk) (A:Option bk),l.foldl (fun A t=>if t.loc=n then some t else A) A=some t->A=some t\/(t∈l/\t.loc=n):=by
  intro l;induction l with
  | nil=>exact fun A h=>Or.inl h
  | cons x l ih=>
    intro A h;rw [List.foldl_cons]at h;rcases ih _ h with h1 | h1
    ·by_cases e:x.loc=n
     ·rw [if_pos e]at h1;cases h1;exact Or.inr ⟨List.mem_cons_self,e⟩
     rw [if_neg e]at h1;exact Or.inl h1
    exact Or.inr ⟨List.mem_cons_of_mem _ h1.1,h1.2⟩
 rcases key ts none h with h | h
 ·cases h
 exact h
def fh (d:bd) (h:ar) (ts:List bk) (n:Int):Bool:=!(j9 ts n).isSome|| !decide (h.ae<n)||((refsOf d.fields (nu ts n)).length:Int)==0
theorem zif (W:World) (X B:Nat) (vW vO kC kS kF kN kT vA:Value) (h:ar) (d:bd) (ts:List bk) (hc:qr X B W vW vO kC kS kF kN kT vA h d ts) (hl:ul d h ts) (P:Nat) (hP:W.cell? ⟨P,0,none⟩=some (.p (X+1))) (n:Int) (hn:(Lit.int .i64 n).wf=true):
 Calls prog 176 #[.i n,.p P] W fun r W'=>r=.returned (.bool (fh d h ts n))/\Bl W W':=by
 have aj:P<W.heap.size:=World.block_lt_of_cell? W _ hP;have N:=ag (zhu W X B _ _ _ _ _ _ _ vA h d ts hc n hn);have HC:=ag hc;have gl:=bz hc.blk;have G:Hid ((j9 ts n).isSome=true->pm d (nu ts n)/\0<=(nu ts n).loc/\(nu ts n).fin<=h.ab.length):=fun hs=>by
  obtain ⟨t,ht⟩:=Option.isSome_iff_exists.1 hs;have e:nu ts n=t:=by unfold nu;rw [ht];rfl
  rw [e];exact hl.fit t (Dr ts ht).1
 have ax:=hl.ab;have F:Hid (fh d h ts n=(!(j9 ts n).isSome|| !decide (h.ae<n)||((refsOf d.fields (nu ts n)).length:Int)==0)):=rfl;unfold nb at N;clear hc hl hn;generalize nu ts n=t at*;generalize (j9 ts n).isSome=ok at*;go_enter func176,ntmps176;go_wp2_with fail;refine N.o.mono ?_;rintro r w1 ⟨rfl,Z⟩;have al:=Z.size;obtain ⟨E,J⟩:∃E,E=w1.alloc (.cells #[.i t.loc,.i t.tag,.i t.len,.i t.hash] 101):=⟨_,rfl⟩;have ac:Bl w1 E:=J ▸ (br _ _).alloc (nlq _) _;have D:Hid (Bl W E):=Z.trans (ac.mono al);have h8:E.heap[w1.heap.size]? =some (.cells #[.i t.loc,.i t.tag,.i t.len,.i t.hash] 101 (0,0)):=J ▸ heap_alloc_new w1 _;have s0:=bp h8 0 (x:=.i t.loc) rfl;have s1:=bp h8 1 (x:=.i t.tag) rfl;have s2:=bp h8 2 (x:=.i t.len) rfl;have s3:=bp h8 3 (x:=.i t.hash) rfl;have l8:=bz h8;have p0:E.cell? ⟨P,0,none⟩=some (.p (X+1)):=(D.o.cell (p:=⟨P,0,none⟩) aj).trans hP;have aa:=ag (HC.o.below D.o);have av:P<E.heap.size:=by have:=D.o.size;omega
 have ao:X+1<E.heap.size:=by have:=D.o.size;omega
 have I:Hid (∀V,Bl E V->Calls prog 177 #[.p (X+1),.i n] V fun r w'=>r=.returned (.bool (decide (h.ae<n)))/\w'=V):=fun V hV=>zez V B (X+1) _ _ _ _ _ _ _ h d (aa.o.below hV).gd n;have O:=ag J;have au:P<w1.heap.size:=by omega
 clear Z ac J h8 N HC hP;cases ok with
 | false=>
   have HR:Hid (fh d h ts n=true):=F.o.trans (by simp);clear G F;go_wp2_with fail;rw [<-O.o];go_quiet (fail);go_wp2_with fail;go_ret;exact ⟨by rw [HR.o];rfl,o7 D.o _⟩
 | true=>
   obtain ⟨hf,aw,ah⟩:=G.o rfl;have L:t.fin=t.loc+3+t.len:=rfl;have ap:=hf.lo;by_cases hy:h.ae<n
   ·have hd:decide (h.ae<n)=true:=by simp [hy]
    rw [hd]at I;have ai:Hid (∀V,Bl E V->Calls prog 178 #[.p (X+1),.agg #[.i t.loc,.i t.tag,.i t.len,.i t.hash]] V fun r w'=>Bl V w'/\∃a c,r=.returned (.slice a (refsOf d.fields t).length c)):=fun V hV=>(zht V B (X+1) _ _ _ _ _ _ _ h d (aa.o.below hV).gd t hf (by omega) (by omega)).mono fun r w' ⟨hb,v,hr,ho⟩=>by obtain ⟨a,c,e⟩:=kq ho;exact ⟨hb,a,c,by rw [hr,e]⟩
    have HR:Hid (fh d h ts n=(((refsOf d.fields t).length:Int)==0)):=F.o.trans (by simp [hy]);generalize (refsOf d.fields t).length=rl at*;clear G F hf ah L;go_wp2_with fail;rw [<-O.o];refine wp_region_held_drew (S:=fun W'=>∀p:Addr,p.block<E.heap.size->W'.cell? p=E.cell? p) (by kernel_rfl) (fun p hp=>rfl) fun A=>?_;refine ta 0 (.bool true) rfl A ?_;refine ta 1 (.bool false) rfl A ?_;refine ta 2 (.bool false) rfl A ?_;refine ta 3 (.p P) rfl A ?_;refine ta 4 (.p (X+1)) rfl A ?_;refine ta 5 (.p (X+1)) rfl A ?_;refine ta 6 (.p (X+1)) rfl A ?_;refine ta 7 (.i n) rfl A ?_;refine wpAnyH_ready (rs:=[8]) (by kernel_rfl) (by simp) ?_;refine AllReadyH.cons rfl (fun K8 Y=>?_) AllReadyH.nil;go_simp;refine (I.o _ (br _ _).drew).mono ?_;rintro r _ ⟨rfl,rfl⟩;refine Y.o _ _ (fun p hp=>rfl) fun A=>?_;refine ta 9 (.bool false) rfl A ?_;refine ta 10 (.bool false) rfl A ?_;refine ta 11 (.bool false) rfl A ?_;refine ta 12 (.p P) rfl A ?_;refine ta 13 (.p (X+1)) rfl A ?_;refine ta 14 (.p (X+1)) rfl A ?_;refine ta 15 (.p (X+1)) rfl A ?_;refine ta 16 (.agg #[.i t.loc,.i t.tag,.i t.len,.i t.hash]) rfl A ?_;refine wpAnyH_ready (rs:=[17]) (by kernel_rfl) (by simp) ?_;refine AllReadyH.cons rfl (fun an ad=>?_) AllReadyH.nil;go_simp;refine (ai.o _ (br _ _).drew).mono ?_;rintro r w3 ⟨ak,a3,c3,rfl⟩;have af:Bl E w3:=(br E.heap.size E).drew.trans ak;refine ad.o _ _ (fun p hp=>af.cell hp) fun A=>?_;refine ta 18 (.i (rl:Int)) rfl A ?_;refine ta 19 (.bool ((rl:Int)==0)) rfl A ?_;refine ta 20 (.bool ((rl:Int)==0)) rfl A ?_;refine ta 21 (.bool ((rl:Int)==0)) rfl A ?_;refine wpAnyH_done (by kernel_rfl) ?_ _;clear A;simp only [Act.put,p1q,p4q,p3q,p2q,p5q,p6q];go_wp2_with fail;go_ret;exact ⟨by rw [HR.o];rfl,D.o.trans (af.mono D.o.size)⟩
   have hd:decide (h.ae<n)=false:=by simp [hy]
   rw [hd]at I;have HR:Hid (fh d h ts n=true):=F.o.trans (by simp [hy]);clear G F hf ah L;go_wp2_with fail;rw [<-O.o];refine wp_region_held_drew (S:=fun W'=>∀p:Addr,p.block<E.heap.size->W'.cell? p=E.cell? p) (by kernel_rfl) (fun p hp=>rfl) fun A=>?_;refine ta 0 (.bool true) rfl A ?_;refine ta 1 (.bool false) rfl A ?_;refine ta 2 (.bool false) rfl A ?_;refine ta 3 (.p P) rfl A ?_;refine ta 4 (.p (X+1)) rfl A ?_;refine ta 5 (.p (X+1)) rfl A ?_;refine ta 6 (.p (X+1)) rfl A ?_;refine ta 7 (.i n) rfl A ?_;refine wpAnyH_ready (rs:=[8]) (by kernel_rfl) (by simp) ?_;refine AllReadyH.cons rfl (fun K8 Y=>?_) AllReadyH.nil;go_simp;refine (I.o _ (br _ _).drew).mono ?_;rintro r _ ⟨rfl,rfl⟩;refine Y.o _ _ (fun p hp=>rfl) fun A=>?_;refine ta 9 (.bool true) rfl A ?_;refine ta 10 (.bool true) rfl A ?_;refine ta 11 (.bool true) rfl A ?_;refine pb 12 rfl A ?_;refine pb 13 rfl A ?_;refine pb 14 rfl A ?_;refine pb 15 rfl A ?_;refine pb 16 rfl A ?_;refine pb 17 rfl A ?_;refine pb 18 rfl A ?_;refine pb 19 rfl A ?_;refine ta 20 (.bool true) rfl A ?_;refine ta 21 (.bool true) rfl A ?_;refine wpAnyH_done (by kernel_rfl) ?_ _;clear A;simp only [Act.put,p1q,p4q,p3q,p2q,p5q,p6q];go_wp2_with fail;go_ret;exact ⟨by rw [HR.o];rfl,D.o.drew⟩
theorem zig (w:World) (X B:Nat) (vW N kC kS kF kN kT vA:Value) (h:ar) (d:bd) (ts:List bk) (hc:qr X B w vW N kC kS kF kN kT vA h d ts) (Y:ul d h ts) (L:∀x∈h.am,(Lit.int .i64 x).wf=true):
 Calls prog 115 #[.agg #[.p (X+1)]] w fun r w'=>r=.returned (.bool (!h.am.any (fh d h ts)))/\Bl w w':=by
 have aa:=qj prog;obtain ⟨E,J⟩:∃E,E=w.alloc (.cells #[.p (X+1)] 88):=⟨_,rfl⟩;have F:Bl w E:=J ▸ (br _ _).alloc (nlq _) _;have ac:E.heap.size=w.heap.size+1:=by rw [J];simp
 have A:=hc.below F;have Z:E.cell? ⟨w.heap.size,0,none⟩=some (.p (X+1)):=by rw [J];simp [go_sem]
 have D:Hid (Calls prog 174 #[N,.func (.func 176) #[] #[.p w.heap.size]] E fun r w'=>r=.returned (.bool (h.am.any (fh d h ts)))/\Bl E w'):=by refine zhy _ B N _ A.sO (by have:=A.le;have:=bz A.blk;omega) 176 #[] _ (fh d h ts) (fun args w=>by kernel_rfl) ?_;intro x hx V W;exact zif V X B _ _ _ _ _ _ _ vA h d ts (A.below W) Y w.heap.size ((W.cell (p:=⟨w.heap.size,0,none⟩) (by show w.heap.size<_;omega)).trans Z) x (L x hx)
 have gl:=bz A.blk;have m5:=bp A.blk 5 (x:=N) rfl;have I:=ag F;obtain ⟨a,q,rfl,-⟩:=hc.sO;rw [J]at D m5 gl;clear hc A F Z Y L;generalize h.am.any (fh d h ts)=b at*;go_enter func115,ntmps115;go_wp2_with fail;refine D.o.mono ?_;rintro r w1 ⟨rfl,G⟩;rw [<-J]at G;have O:Hid (Bl w w1):=I.o.trans (G.mono I.o.size);clear G D;go_wp2_with fail;go_ret;exact ⟨rfl,O.o⟩
structure HsD (hs:List Int) (D:DataW Unit):Prop where
 has:∀n,Maps.has D (jm n)=decide (n∈hs)
 le:Maps.size D<=hs.length
 eq:Maps.size D=hs.length↔hs.Nodup
theorem zih:HsD [] (.map []):=⟨fun n=>by simp;rfl,nlq _,by simp;rfl⟩
theorem zii (A:List Int) (x:Int):(A++ [x]).Nodup↔A.Nodup/\x∉A:=by
 rw [List.nodup_append];constructor
 ·rintro ⟨h1,-,F⟩;exact ⟨h1,fun I=>F x I x (by simp) rfl⟩
 rintro ⟨h1,E⟩;refine ⟨h1,by simp,fun a G b D e=>?_⟩;rw [List.mem_singleton]at D;subst D;subst e;exact E G
theorem zij {F:List Int} {D:DataW Unit} (h:HsD F D) (G:Tidy D) (x:Int) (v:DataW Unit):HsD (F++ [x]) (D.put (jm x) v):=by
 have N:=G.isMap;have A:Maps.size (D.put (jm x) v)=if Maps.has D (jm x)=true then Maps.size D else Maps.size D+1:=size_put G v
 have L:=h.le;have E:=h.eq;rw [h.has x]at A;refine ⟨fun n=>?_,?_,?_⟩
 ·by_cases e:x=n
  ·subst e;rw [has_put_same N (uv _)];simp
  rw [has_put_other (Fi (Ne.symm e)),h.has];have J:¬n=x:=fun q=>e q.symm;simp [J]
 ·rw [A,List.length_append];split<;>simp<;>omega
 rw [A,List.length_append,zii];by_cases I:x∈F
 ·simp [I];omega
 simp [I];exact E
theorem zik (w:World) (X B:Nat) (vW vO kC kS kF kN kT vA:Value) (h:ar) (d:bd) (ts:List bk) (hc:qr X B w vW vO kC kS kF kN kT vA h d ts) (hl:ts.length<=1000000) (al:∀t∈ts,(Lit.int .i64 t.hash).wf=true):
 Calls prog 111 #[.agg #[.p (X+1)]] w fun r w'=>r=.returned (.bool (decide ((ts.map bk.hash).Nodup)))/\Bl w w':=by
 have a2:=@run_makeMap prog;obtain ⟨G,hW⟩:∃G,G=(w.alloc (.cells #[.p (X+1)] 88)).alloc (.map #[] 0):=⟨_,rfl⟩;have a4:G.heap.size=w.heap.size+1+1:=by rw [hW];simp
 have Y:Bl w G:=hW ▸ ((br _ _).alloc (nlq _) _).alloc (by simp) _;have ac:G.heap[w.heap.size]? =some (.cells #[.p (X+1)] 88 (0,0)):=by rw [hW];exact (Below.heap_alloc _ _ _ (by simp)).trans (heap_alloc_new w _)
 have aj:G.ownsMap prog 3 ko (w.heap.size+1) 0 (.map []):=by have:=World.ownsMap_made (w.alloc (.cells #[.p (X+1)] 88)) prog 3 ko;rw [<-hW]at this;simpa using this
 have I:=hc.below Y;have HS:Hid (SL 4 Cx (· <w.heap.size) w vA ts):=hc.all hl;have gl:=bz hc.blk;have ai:=bz I.blk;have J:=bp I.blk 12 (x:=vA) rfl;have p0:=bp ac 0 (x:=.p (X+1)) rfl;obtain ⟨a,q,rfl⟩:=hc.len;have ax:=ag I;have an:=ag Y;have aw:=ag ac;have HM:=ag aj;have au:=ag al;have HW:=ag hW;clear hc I Y ac aj al;rw [hW]at J p0 ai;clear hW;go_enter func111,ntmps111;go_wp2_with fail;rw [<-HW.o];rw [<-HW.o]at J p0 ai;go_loopw [13] (fun i wr=>∃(k:Nat) (D:DataW Unit),k<=ts.length/\i=.i k/\Hid (wr.ownsMap prog 3 ko (w.heap.size+1) k D/\HsD ((ts.take k).map bk.hash) D/\Below (w.heap.size+1) G wr)) (fun i _=>ts.length - (intOf i).toNat)
 case atStart=>exact ⟨0,.map [],n0q _,rfl,HM.o,by simpa using zih,br _ _⟩
 case round=>
  obtain ⟨k,D,hk,rfl,E⟩:=hrel;have a3:=E.o.2.2.size;have Z:Bl w wr:=an.o.trans (E.o.2.2.mono (by omega));by_cases ad:k<ts.length
  ·obtain ⟨bA,oA,rfl,a0,e0,e1,e2,e3⟩:=(HS.o.keptTh (Kp.below Z)).atTh k ad;have q1:(0:Int)<=k:=by omega
   have q2:(k:Int)<ts.length:=by omega
   have ak:=au.o ts[k] (gm ad);have ap:Hid ((ts.take (k+1)).map bk.hash=(ts.take k).map bk.hash++ [ts[k].hash]):=by show _=_;rw [List.take_succ_eq_append_getElem ad,List.map_append];rfl
   generalize ts[k]=t at*;obtain ⟨W7,F⟩:∃W7,W7=wr.alloc (.cells #[.i t.loc,.i t.tag,.i t.len,.i t.hash] 101):=⟨_,rfl⟩;have W:Bl wr W7:=F ▸ (br _ _).alloc (nlq _) _;have h7:W7.heap[wr.heap.size]? =some (.cells #[.i t.loc,.i t.tag,.i t.len,.i t.hash] 101 (0,0)):=F ▸ heap_alloc_new wr _;have af:W7.ownsMap prog 3 ko (w.heap.size+1) k D:=by rw [F];exact E.o.1.alloc _
   have O:keyOf prog 3 (.i t.hash)=some (jm t.hash):=keyOf_int_mk underlying3 ak;obtain ⟨ah,V,A,N⟩:=World.ownsMap.update (w:=W7) af qc underlying183 (by unfold maxLen;omega) O (zfd t);unfold nb at V;have aa:=zij E.o.2.1 (af.tidy qc) t.hash (li t);rw [<-ap.o]at aa;have L:Below (w.heap.size+1) G ah:=(E.o.2.2.trans (W.mono (by omega))).grown N (by have:=W.size;omega) (fun q e=>by cases e;exact nlq _);have s0:=bp h7 0 (x:=.i t.loc) rfl;have s1:=bp h7 1 (x:=.i t.tag) rfl;have s2:=bp h7 2 (x:=.i t.len) rfl;have s3:=bp h7 3 (x:=.i t.hash) rfl;have l7:=bz h7;have HF:Hid (ah.ownsMap prog 3 ko (w.heap.size+1) (k+1) (D.put (jm t.hash) (li t))/\HsD ((ts.take (k+1)).map bk.hash) (D.put (jm t.hash) (li t))/\Below (w.heap.size+1) G ah):=⟨A,aa,L⟩;rw [F]at s0 s1 s2 s3 l7 V;clear W h7 af O A N aa L F ak E;go_wp2_with fail;go_roundw
   case rel=>exact ⟨k+1,_,by omega,by go_num,HF.o⟩
   case measure=>simp [intOf];omega
  have av:k=ts.length:=by omega
  have HR:Hid ((Maps.size D:Int)==(ts.length:Int)↔(ts.map bk.hash).Nodup):=by have:=E.o.2.1.eq;rw [av,List.take_length,List.length_map]at this;show _↔_;rw [<-this];simp;omega
  have a1:=E.o.1.drew.len (e:=101) underlying183;have p1:=(E.o.2.2.cell (p:=⟨w.heap.size,0,none⟩) (by show w.heap.size<_;omega)).trans p0;have m1:=(E.o.2.2.cell (p:=⟨X+1,12,none⟩) (by show X+1<_;omega)).trans J;have az:X+1<wr.heap.size:=by omega
  have ay:w.heap.size<wr.heap.size:=by omega
  have ao:=ag Z;clear E Z p0 J;generalize Maps.size D=sz at*;go_wp2_with fail;go_region
  all_goals
   go_wp2_with fail;go_ret
  all_goals refine ⟨?_,ao.o.drew⟩
  have hr:=HR.o;show Ending.returned (.bool ((sz:Int)==(ts.length:Int)))=_;congr 2;by_cases hd:(ts.map bk.hash).Nodup
  ·rw [decide_eq_true hd];exact hr.2 hd
  rw [decide_eq_false hd];exact Bool.eq_false_iff.2 fun e=>hd (hr.1 e)
end Go.Proofs.YtjdnmblggdobgaaGreat
