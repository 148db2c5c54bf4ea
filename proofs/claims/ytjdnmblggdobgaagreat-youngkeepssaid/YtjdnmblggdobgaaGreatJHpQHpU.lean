import Derived.Test.YtjdnmblggdobgaaGreatJTk2Dies
import Derived.Test.YtjdnmblggdobgaaGreatJHpCHpH
import Derived.BigQuiet
import Derived.Laws.EntriesVeiled
set_option maxHeartbeats 4000000
set_option maxRecDepth 100000
namespace Go.Proofs.YtjdnmblggdobgaaGreat
open Go.RowKit Go.Maps
theorem mc.len {X B:Nat} {w:World} {L J D G E F I A:Value} {h:bb} {d:bd} {ts:List bp} (c:mc X B w L J D G E F I A h d ts):∃a q,A=.slice a ts.length q:=kh c.row
theorem mc.all {X B:Nat} {w:World} {V O G L I J N D:Value} {h:bb} {d:bd} {ts:List bp} (c:mc X B w V O G L I J N D h d ts) (F:ts.length<=1000000):SL 4 RTh (· <w.heap.size) w D ts:=
 (zhw c.row F).mono (fun b A=>by obtain ⟨_,E,_,_,A,_⟩:=A;exact bk A) (fun _ _ h=>h)
def i4 (h:bb) (x:bp):Bool:=decide (x.hash<1)||decide (h.next<=x.hash)
theorem zh4 (W:World) (X B:Nat) (vW vO L V N O Y Z:Value) (h:bb) (d:bd) (ts:List bp) (hc:mc X B W vW vO L V N O Y Z h d ts) (P:Nat) (E:W.cell? ⟨P,0,none⟩=some (.pointer (some ⟨X+1,0,none⟩))) (x:bp):
 Calls Tryz.prog 169 #[.agg #[.int .i64 x.loc,.int .i64 x.tag,.int .i64 x.len,.int .i64 x.hash],.pointer (some ⟨P,0,none⟩)] W fun r I=>r=.returned (.bool (i4 h x))/\Below W.heap.size W I:=by
 have A:Hid (Below W.heap.size W (W.alloc (.cells #[.int .i64 x.loc,.int .i64 x.tag,.int .i64 x.len,.int .i64 x.hash] 101))):=(br _ _).alloc (nlq _) _;have F:P<W.heap.size:=World.block_lt_of_cell? W _ E;have J:=bk hc.blk;have c6:(W.alloc (.cells #[.int .i64 x.loc,.int .i64 x.tag,.int .i64 x.len,.int .i64 x.hash] 101)).cell? ⟨X+1,6,none⟩=some (.int .i64 h.next):=(A.o.cell (p:=⟨X+1,6,none⟩) J).trans (aw hc.blk 6 rfl);have p0:(W.alloc (.cells #[.int .i64 x.loc,.int .i64 x.tag,.int .i64 x.len,.int .i64 x.hash] 101)).cell? ⟨P,0,none⟩=some (.pointer (some ⟨X+1,0,none⟩)):=(A.o.cell (p:=⟨P,0,none⟩) F).trans E;have D:Hid (i4 h x=(decide (x.hash<1)||decide (h.next<=x.hash))):=rfl;clear hc E;generalize h.next=nx at*;by_cases h1:x.hash<1
 ·have G:decide (x.hash<1)=true:=by simp [h1]
  rw [D.o,G];clear D;go_enter Tryz.func169,Tryz.ntmps169;go_wp2_with fail;go_quiet (fail);go_wp2_with fail;go_ret;exact ⟨rfl,ku A.o _⟩
 have G:decide (x.hash<1)=false:=by simp [h1]
 rw [D.o,G];clear D;go_enter Tryz.func169,Tryz.ntmps169;go_wp2_with fail;go_quiet (fail);go_wp2_with fail;go_ret;exact ⟨by simp,ku A.o _⟩
theorem zh5 (w:World) (X B:Nat) (vW vO Y kS Z kN kT I:Value) (h:bb) (d:bd) (ts:List bp) (hc:mc X B w vW vO Y kS Z kN kT I h d ts) (N:ts.length<=1000000):
 Calls Tryz.prog 110 #[.agg #[.pointer (some ⟨X+1,0,none⟩)]] w fun r w'=>r=.returned (.bool (!ts.any (i4 h)))/\Below w.heap.size w w':=by
 have O:=mm Tryz.prog;have D:Below w.heap.size w (w.alloc (.cells #[.pointer (some ⟨X+1,0,none⟩)] 88)):=(br _ _).alloc (nlq _) _;have A:=hc.below D;have V:(w.alloc (.cells #[.pointer (some ⟨X+1,0,none⟩)] 88)).cell? ⟨w.heap.size,0,none⟩=some (.pointer (some ⟨X+1,0,none⟩)):=by simp [go_sem]
 have F:Hid (Calls Tryz.prog 168 #[I,.func (.func 169) #[] #[.pointer (some ⟨w.heap.size,0,none⟩)]] (w.alloc (.cells #[.pointer (some ⟨X+1,0,none⟩)] 88)) fun r w'=>r=.returned (.bool (ts.any (i4 h)))/\Below (w.alloc (.cells #[.pointer (some ⟨X+1,0,none⟩)] 88)).heap.size (w.alloc (.cells #[.pointer (some ⟨X+1,0,none⟩)] 88)) w'):=by refine zh0 _ _ I ts (A.all N) (nlq _) 169 #[] _ (i4 h) (fun args w=>by kernel_rfl) ?_;intro x hx W L;exact zh4 W X B _ _ _ _ _ _ _ I h d ts (A.below L) w.heap.size ((L.cell (p:=⟨w.heap.size,0,none⟩) (by simp)).trans V) x
 have gl:=bk A.blk;have aa:=aw A.blk 12 (x:=I) rfl;have E:=ae D;obtain ⟨a,q,rfl⟩:=hc.len;clear hc A D;generalize ts.any (i4 h)=b at*;go_enter Tryz.func110,Tryz.ntmps110;go_wp2_with fail;refine F.o.mono ?_;rintro r w1 ⟨rfl,G⟩;have J:Hid (Below w.heap.size w w1):=E.o.trans (G.mono E.o.size);clear G F;go_wp2_with fail;go_ret;exact ⟨rfl,J.o⟩
theorem zh6 (W:World) (X B:Nat) (vW Z L V N O Y F:Value) (h:bb) (d:bd) (ts:List bp) (hc:mc X B W vW Z L V N O Y F h d ts) (P:Nat) (I:W.cell? ⟨P,0,none⟩=some (.pointer (some ⟨X+1,0,none⟩))) (n:Int) (E:(Lit.int .i64 n).wf=true):
 Calls Tryz.prog 170 #[.int .i64 n,.pointer (some ⟨P,0,none⟩)] W fun r G=>r=.returned (.bool (!dh ts n))/\Below W.heap.size W G:=by
 have D:=ae (zhv W X B _ _ _ _ _ _ _ F h d ts hc n E);have J:P<W.heap.size:=World.block_lt_of_cell? W _ I;clear hc E;generalize dh ts n=b at*;go_enter Tryz.func170,Tryz.ntmps170;go_wp2_with fail;refine D.o.mono ?_;rintro r w1 ⟨rfl,A⟩;clear D;go_wp2_with fail;go_ret;exact ⟨rfl,A⟩
structure Lain (d:bd) (h:bb) (ts:List bp):Prop where
 len:ts.length<=1000000
 ab:h.ab.length<=100000
 wf:∀x∈h.ab,(Lit.int .i64 x).wf=true
 fit:∀t∈ts,lg d t/\0<=t.loc/\t.fin<=h.ab.length
theorem Lain.wdf {d:bd} {h:bb} {ts:List bp} (l:Lain d h ts) (a:Int):(Lit.int .i64 (wd h.ab a)).wf=true:=by
 unfold wd;cases hx:h.ab[a.toNat]? with
 | none=>decide
 | some x=>exact l.wf x (List.mem_of_getElem? hx)
theorem zh7 (W:World) (X B:Nat) (vW vO kC kS kF kN kT vA:Value) (h:bb) (d:bd) (ts:List bp) (hc:mc X B W vW vO kC kS kF kN kT vA h d ts) (N:Lain d h ts) (P Q:Nat) (Y:W.cell? ⟨P,0,none⟩=some (.pointer (some ⟨X+1,0,none⟩))) (hQ:W.cell? ⟨Q,0,none⟩=some (.func (.func 170) #[] #[.pointer (some ⟨P,0,none⟩)])) (x:bp) (hx:x∈ts):
 Calls Tryz.prog 171 #[.agg #[.int .i64 x.loc,.int .i64 x.tag,.int .i64 x.len,.int .i64 x.hash],.pointer (some ⟨P,0,none⟩),.pointer (some ⟨Q,0,none⟩)] W fun r O=>r=.returned (.bool (gc d.fields h.ab x fun n=>!dh ts n))/\Below W.heap.size W O:=by
 obtain ⟨D,L⟩:∃D,D=W.alloc (.cells #[.int .i64 x.loc,.int .i64 x.tag,.int .i64 x.len,.int .i64 x.hash] 101):=⟨_,rfl⟩;have A:Below W.heap.size W D:=L ▸ (br _ _).alloc (nlq _) _;have Z:P<W.heap.size:=World.block_lt_of_cell? W _ Y;have aa:Q<W.heap.size:=World.block_lt_of_cell? W _ hQ;have gl:=bk hc.blk;have E:D.heap[W.heap.size]? =some (.cells #[.int .i64 x.loc,.int .i64 x.tag,.int .i64 x.len,.int .i64 x.hash] 101 (0,0)):=L ▸ heap_alloc_new W _;have p0:D.cell? ⟨P,0,none⟩=some (.pointer (some ⟨X+1,0,none⟩)):=(A.cell (p:=⟨P,0,none⟩) Z).trans Y;have q0:D.cell? ⟨Q,0,none⟩=some (.func (.func 170) #[] #[.pointer (some ⟨P,0,none⟩)]):=(A.cell (p:=⟨Q,0,none⟩) aa).trans hQ;have s0:=aw E 0 (x:=.int .i64 x.loc) rfl;have s1:=aw E 1 (x:=.int .i64 x.tag) rfl;have s2:=aw E 2 (x:=.int .i64 x.len) rfl;have s3:=aw E 3 (x:=.int .i64 x.hash) rfl;have ls:=bk E;obtain ⟨hf,h1,h2⟩:=N.fit x hx;have HC:Hid (∀V,Below D.heap.size D V->Calls Tryz.prog 172 #[.pointer (some ⟨X+1,0,none⟩),.agg #[.int .i64 x.loc,.int .i64 x.tag,.int .i64 x.len,.int .i64 x.hash],.func (.func 170) #[] #[.pointer (some ⟨P,0,none⟩)]] V fun r w'=>r=.returned (.bool (gc d.fields h.ab x fun n=>!dh ts n))/\Below V.heap.size V w'):=by intro V hV;have J:=(hc.below A).below hV;refine zh3 V B (X+1) _ _ _ _ _ _ _ h d J.gd x hf h1 h2 N.ab 170 #[] _ (fun n=>!dh ts n) (fun args w=>by kernel_rfl) ?_;intro a ha V2 G;exact zh6 V2 X B _ _ _ _ _ _ _ vA h d ts (J.below G) P ((G.cell (p:=⟨P,0,none⟩) (by show P<_;have:=A.size;have:=hV.size;omega)).trans ((hV.cell (p:=⟨P,0,none⟩) (by show P<_;have:=A.size;omega)).trans p0)) _ (N.wdf a)
 have F:=ae A;have HW:=ae L;have ad:P<D.heap.size:=by have:=A.size;omega
 have af:Q<D.heap.size:=by have:=A.size;omega
 clear hc N Y hQ A L E hf h1 h2 hx;generalize gc d.fields h.ab x (fun n=>!dh ts n)=b at*;go_enter Tryz.func171,Tryz.ntmps171;go_wp2_with fail;rw [<-HW.o]
 go_region_held3 (fun O=>∀p:Addr,p.block<D.heap.size->O.cell? p=D.cell? p) (exact fun p hp=>Below.cell (B:=D.heap.size) (w:=D) (by repeat (first | assumption | exact br _ _ | refine Below.drew ?_)) hp) (first | (refine (HC.o _ ?_).mono ?_;(exact (br _ _).drew);rintro r w2 ⟨rfl,I⟩;have ac:Below D.heap.size D w2:=(br D.heap.size D).drew.trans I;clear I))
 all_goals
  rename_i hS1;clear hS1;go_wp2_with fail;go_ret;exact ⟨rfl,F.o.trans (ac.mono F.o.size)⟩
theorem zh8 (w:World) (X B:Nat) (vW vO kC kS kF kN kT L:Value) (h:bb) (d:bd) (ts:List bp) (hc:mc X B w vW vO kC kS kF kN kT L h d ts) (W:Lain d h ts):
 Calls Tryz.prog 112 #[.agg #[.pointer (some ⟨X+1,0,none⟩)]] w fun r w'=>r=.returned (.bool (!ts.any fun x=>gc d.fields h.ab x fun n=>!dh ts n))/\Below w.heap.size w w':=by
 have aa:=mm Tryz.prog;obtain ⟨D,I⟩:∃D,D=(w.alloc (.cells #[.pointer (some ⟨X+1,0,none⟩)] 88)).alloc (.cells #[.func (.func 170) #[] #[.pointer (some ⟨w.heap.size,0,none⟩)]] 79):=⟨_,rfl⟩;have ac:D.heap.size=w.heap.size+2:=by rw [I];simp
 have F:Below w.heap.size w D:=I ▸ ((br _ _).alloc (nlq _) _).alloc (by simp) _;have A:=hc.below F;have Z:D.cell? ⟨w.heap.size,0,none⟩=some (.pointer (some ⟨X+1,0,none⟩)):=by rw [I];simp [go_sem]
 have hq:D.cell? ⟨w.heap.size+1,0,none⟩=some (.func (.func 170) #[] #[.pointer (some ⟨w.heap.size,0,none⟩)]):=by rw [I];simp [go_sem]
 have E:Hid (Calls Tryz.prog 168 #[L,.func (.func 171) #[] #[.pointer (some ⟨w.heap.size,0,none⟩),.pointer (some ⟨w.heap.size+1,0,none⟩)]] D fun r w'=>r=.returned (.bool (ts.any fun x=>gc d.fields h.ab x fun n=>!dh ts n))/\Below D.heap.size D w'):=by refine zh0 _ _ L ts (A.all W.len) (nlq _) 171 #[] _ (fun x=>gc d.fields h.ab x fun n=>!dh ts n) (fun args w=>by kernel_rfl) ?_;intro x hx V O;exact zh7 V X B _ _ _ _ _ _ _ L h d ts (A.below O) W w.heap.size (w.heap.size+1) ((O.cell (p:=⟨w.heap.size,0,none⟩) (by show w.heap.size<_;omega)).trans Z) ((O.cell (p:=⟨w.heap.size+1,0,none⟩) (by show w.heap.size+1<_;omega)).trans hq) x hx
 have gl:=bk A.blk;have Y:=aw A.blk 12 (x:=L) rfl;have J:=ae F;obtain ⟨a,q,rfl⟩:=hc.len;rw [I]at E Y gl;clear hc A F Z hq W;generalize (ts.any fun x=>gc d.fields h.ab x fun n=>!dh ts n)=b at*;go_enter Tryz.func112,Tryz.ntmps112;go_wp2_with fail;refine E.o.mono ?_;rintro r w1 ⟨rfl,G⟩;rw [<-I]at G;have N:Hid (Below w.heap.size w w1):=J.o.trans (G.mono J.o.size);clear G E;go_wp2_with fail;go_ret;exact ⟨rfl,N.o⟩
def kg (l:List Int) (k:Nat):Prop:=∀j,0<j->j<k->wd l ((j:Int) - 1)<wd l j
theorem zh9 {l:List Int} {k:Nat} (h:kg l k) (A:0<k->wd l ((k:Int) - 1)<wd l k):kg l (k+1):=fun j h0 D=>by
 by_cases e:j=k
 ·subst e;exact A h0
 exact h j h0 (by omega)
theorem zia (w:World) (X B:Nat) (vW vO kC kS kF kN kT vA:Value) (h:bb) (d:bd) (ts:List bp) (hc:mc X B w vW vO kC kS kF kN kT vA h d ts):
 Calls Tryz.prog 114 #[.agg #[.pointer (some ⟨X+1,0,none⟩)]] w fun r w'=>(∃b,r=.returned (.bool b)/\(b=true↔kg h.am h.am.length))/\Below w.heap.size w w':=by
 have D:Below w.heap.size w (w.alloc (.cells #[.pointer (some ⟨X+1,0,none⟩)] 88)):=(br _ _).alloc (nlq _) _;have A:=hc.below D;have hp:(w.alloc (.cells #[.pointer (some ⟨X+1,0,none⟩)] 88)).cell? ⟨w.heap.size,0,none⟩=some (.pointer (some ⟨X+1,0,none⟩)):=by simp [go_sem]
 have gl:=bk A.blk;have HS:=ae A.sO;have m5:=aw A.blk 5 (x:=vO) rfl;obtain ⟨ao,ca,rfl,-,Z,-⟩:=hc.sO;unfold maxLen at Z;have G:=ae D;clear hc A D;go_enter Tryz.func114,Tryz.ntmps114;go_wp2_with fail;go_loopw [13] (fun i wr=>∃k:Nat,k<=h.am.length/\i=.int .i64 k/\wr=w.alloc (.cells #[.pointer (some ⟨X+1,0,none⟩)] 88)/\Hid (kg h.am k)) (fun i _=>h.am.length - (intOf i).toNat)
 case atStart=>exact ⟨0,n0q _,rfl,rfl,fun j _ F=>by omega⟩
 case round=>
  obtain ⟨k,hk,rfl,rfl,O⟩:=hrel;by_cases E:k<h.am.length
  ·obtain ⟨bW,oW,rfl,ac,eW⟩:=HS.o.atI k E;have q1:(0:Int)<=k:=by omega
   have q2:(k:Int)<h.am.length:=by omega
   have J:Hid (h.am[k]=wd h.am k):=(mw E).symm;by_cases ad:0<(k:Int)
   ·obtain ⟨j,F⟩:∃j:Nat,(k:Int) - 1=j:=⟨k - 1,by omega⟩;have L:j<h.am.length:=by omega
    obtain ⟨bV,oV,e,aa,eV⟩:=HS.o.atI j L;obtain ⟨rfl,rfl⟩:bV=bW/\oV=oW:=by injection e with e;injection e with e1 e2;exact ⟨e1.symm,e2.symm⟩
    have I:Hid (h.am[j]=wd h.am ((k:Int) - 1)):=by show _=_;rw [F];exact (mw L).symm
    have ag:IntKind.i64.wrap ((k:Int) - 1)=(j:Int):=by rw [F];exact fy _ (by omega) (by omega)
    have q3:(0:Int)<=j:=by omega
    have q4:(j:Int)<h.am.length:=by omega
    have HJ:=ae F;by_cases af:h.am[k]<=h.am[j]
    ·have N:Hid (¬kg h.am h.am.length):=fun W=>by
      have:=W k (by omega) E;rw [<-J.o,<-I.o]at this;omega
     generalize h.am[k]=x at*;generalize h.am[j]=y at*;clear F e;go_wp2_with fail;go_ret;exact ⟨⟨false,rfl,by simp;exact N.o⟩,G.o⟩
    have V:=ae (zh9 O.o (fun _=>by rw [<-J.o,<-I.o];omega));generalize h.am[k]=x at*;generalize h.am[j]=y at*;clear F e;go_wp2_with fail;go_roundw
    case rel=>exact ⟨k+1,by omega,by go_num,trivial,V.o⟩
    case measure=>simp [intOf];omega
   have V:=ae (zh9 O.o (fun W=>absurd W (by omega)));generalize h.am[k]=x at*;go_wp2_with fail;go_roundw
   case rel=>exact ⟨k+1,by omega,by go_num,trivial,V.o⟩
   case measure=>simp [intOf];omega
  have Y:k=h.am.length:=by omega
  have N:Hid (kg h.am h.am.length):=Y ▸ O.o;go_wp2_with fail;go_ret;exact ⟨⟨true,rfl,by simp;exact N.o⟩,G.o⟩
def jd (h:bb):Bool:=ie h.ag&&ie h.old
def i2 (h:bb):Bool:=decide ((h.ab.length:Int)=1+h.ag+h.old)
def ju (h:bb):Bool:=decide (1<=h.be)&&decide (h.be<=h.ag+1)&&decide (h.ag+1<=h.ar)&&decide (h.ar<=h.ag+h.old+1)&&decide (1<=h.next)
theorem zib (w:World) (G F:Value) (h:bb):Calls Tryz.prog 106 #[.agg #[G,.int .i64 h.ag,.int .i64 h.old,.int .i64 h.be,.int .i64 h.ar,F,.int .i64 h.next]] w fun r w'=>r=.returned (.bool (jd h))/\Below w.heap.size w w':=by
 have A:∀o,Hid (Below w.heap.size w (w.alloc o)):=fun o=>(br _ _).alloc (nlq _) _;have E:Hid (∀W,Calls Tryz.prog 48 #[.int .i64 h.ag] W fun r w'=>r=.returned (.bool (ie h.ag))/\w'=W):=fun W=>zew W _;have D:Hid (∀W,Calls Tryz.prog 48 #[.int .i64 h.old] W fun r w'=>r=.returned (.bool (ie h.old))/\w'=W):=fun W=>zew W _;unfold jd;generalize ie h.ag=a at*;generalize ie h.old=b at*;go_enter Tryz.func106,Tryz.ntmps106;go_wp2_with fail;refine (E.o _).mono ?_;rintro r _ ⟨rfl,rfl⟩;cases a with
 | false=>
   go_wp2_with fail;go_ret;exact ⟨rfl,(A _).o⟩
 | true=>
   go_wp2_with fail;refine (D.o _).mono ?_;rintro r _ ⟨rfl,rfl⟩;go_wp2_with fail;go_ret;exact ⟨by simp,(A _).o⟩
theorem zic (w:World) (E:Option Addr) (F:Nat) (G:Value) (h:bb) (J:3<=h.ag/\h.ag<=2000) (I:3<=h.old/\h.old<=2000):Calls Tryz.prog 107 #[.agg #[.slice E h.ab.length F,.int .i64 h.ag,.int .i64 h.old,.int .i64 h.be,.int .i64 h.ar,G,.int .i64 h.next]] w fun r w'=>r=.returned (.bool (i2 h))/\Below w.heap.size w w':=by
 have A:∀o,Hid (Below w.heap.size w (w.alloc o)):=fun o=>(br _ _).alloc (nlq _) _;have L:IntKind.i64.wrap (1+h.ag)=1+h.ag:=fy _ (by omega) (by omega);have N:IntKind.i64.wrap (1+h.ag+h.old)=1+h.ag+h.old:=fy _ (by omega) (by omega);have D:Hid (i2 h=((h.ab.length:Int)==1+h.ag+h.old)):=by show _=_;unfold i2;by_cases e:(h.ab.length:Int)=1+h.ag+h.old<;>simp [e]
 go_enter Tryz.func107,Tryz.ntmps107;go_wp2_with fail;go_ret;exact ⟨by rw [D.o];simp,(A _).o⟩
theorem zid (w:World) (N L:Value) (h:bb) (V:3<=h.ag/\h.ag<=2000) (O:3<=h.old/\h.old<=2000):Calls Tryz.prog 108 #[.agg #[N,.int .i64 h.ag,.int .i64 h.old,.int .i64 h.be,.int .i64 h.ar,L,.int .i64 h.next]] w fun r w'=>r=.returned (.bool (ju h))/\Below w.heap.size w w':=by
 have E:∀o,Hid (Below w.heap.size w (w.alloc o)):=fun o=>(br _ _).alloc (nlq _) _;have W:IntKind.i64.wrap (h.ag+1)=h.ag+1:=fy _ (by omega) (by omega);have X:IntKind.i64.wrap (h.ag+h.old)=h.ag+h.old:=fy _ (by omega) (by omega);have Y:IntKind.i64.wrap (h.ag+h.old+1)=h.ag+h.old+1:=fy _ (by omega) (by omega);have D:Hid (ju h=(decide (1<=h.be)&&decide (h.be<=h.ag+1)&&decide (h.ag+1<=h.ar)&&decide (h.ar<=h.ag+h.old+1)&&decide (1<=h.next))):=rfl;by_cases h1:1<=h.be
 ·by_cases F:h.be<=h.ag+1
  ·by_cases G:h.ag+1<=h.ar
   ·by_cases I:h.ar<=h.ag+h.old+1
    ·by_cases J:1<=h.next
     all_goals
      have A:=ae D.o;simp only [h1,F,G,I,J,decide_true,decide_false,Bool.and_true,Bool.and_false]at A;clear D;go_enter Tryz.func108,Tryz.ntmps108;go_wp2_with fail;go_ret;exact ⟨by rw [A.o];rfl,(E _).o⟩
    have A:=ae D.o;simp only [h1,F,G,I,decide_true,decide_false,Bool.and_true,Bool.and_false,Bool.false_and]at A;clear D;go_enter Tryz.func108,Tryz.ntmps108;go_wp2_with fail;go_ret;exact ⟨by rw [A.o];rfl,(E _).o⟩
   have A:=ae D.o;simp only [h1,F,G,decide_true,decide_false,Bool.and_true,Bool.and_false,Bool.false_and]at A;clear D;go_enter Tryz.func108,Tryz.ntmps108;go_wp2_with fail;go_ret;exact ⟨by rw [A.o];rfl,(E _).o⟩
  have A:=ae D.o;simp only [h1,F,decide_true,decide_false,Bool.and_false,Bool.false_and]at A;clear D;go_enter Tryz.func108,Tryz.ntmps108;go_wp2_with fail;go_ret;exact ⟨by rw [A.o];rfl,(E _).o⟩
 have A:=ae D.o;simp only [h1,decide_false,Bool.false_and]at A;clear D;go_enter Tryz.func108,Tryz.ntmps108;go_wp2_with fail;go_ret;exact ⟨by rw [A.o];rfl,(E _).o⟩
theorem zie (ts:List bp) {n:Int} {t:bp} (h:km ts n=some t):t∈ts/\t.loc=n:=by
 have key:∀(l:List bp) (A:Option bp),l.foldl (fun A t=>if t.loc=n then some t else A) A=some t->A=some t\/(t∈l/\t.loc=n):=by
  intro l;induction l with
  | nil=>exact fun A h=>Or.inl h
  | cons x l ih=>
    intro A h;rw [List.foldl_cons]at h;rcases ih _ h with h1 | h1
    ·by_cases e:x.loc=n
     ·rw [if_pos e]at h1;cases h1;exact Or.inr ⟨List.mem_cons_self,e⟩
     rw [if_neg e]at h1;exact Or.inl h1
    exact Or.inr ⟨List.mem_cons_of_mem _ h1.1,h1.2⟩
 rcases key ts none h with h | h
 ·cases h
 exact h
def ga (d:bd) (h:bb) (ts:List bp) (n:Int):Bool:=!(km ts n).isSome|| !decide (h.ag<n)||((refsOf d.fields (atOr ts n)).length:Int)==0
theorem zif (W:World) (X B:Nat) (vW vO kC kS kF kN kT vA:Value) (h:bb) (d:bd) (ts:List bp) (hc:mc X B W vW vO kC kS kF kN kT vA h d ts) (hl:Lain d h ts) (P:Nat) (hP:W.cell? ⟨P,0,none⟩=some (.pointer (some ⟨X+1,0,none⟩))) (n:Int) (hn:(Lit.int .i64 n).wf=true):
 Calls Tryz.prog 176 #[.int .i64 n,.pointer (some ⟨P,0,none⟩)] W fun r W'=>r=.returned (.bool (ga d h ts n))/\Below W.heap.size W W':=by
 have aj:P<W.heap.size:=World.block_lt_of_cell? W _ hP;have N:=ae (zhu W X B _ _ _ _ _ _ _ vA h d ts hc n hn);have HC:=ae hc;have gl:=bk hc.blk;have G:Hid ((km ts n).isSome=true->lg d (atOr ts n)/\0<=(atOr ts n).loc/\(atOr ts n).fin<=h.ab.length):=fun hs=>by
  obtain ⟨t,ht⟩:=Option.isSome_iff_exists.1 hs;have e:atOr ts n=t:=by unfold atOr;rw [ht];rfl
  rw [e];exact hl.fit t (zie ts ht).1
 have ay:=hl.ab;have F:Hid (ga d h ts n=(!(km ts n).isSome|| !decide (h.ag<n)||((refsOf d.fields (atOr ts n)).length:Int)==0)):=rfl;unfold thV at N;clear hc hl hn;generalize atOr ts n=t at*;generalize (km ts n).isSome=ok at*;go_enter Tryz.func176,Tryz.ntmps176;go_wp2_with fail;refine N.o.mono ?_;rintro r w1 ⟨rfl,Z⟩;have al:=Z.size;obtain ⟨D,J⟩:∃D,D=w1.alloc (.cells #[.int .i64 t.loc,.int .i64 t.tag,.int .i64 t.len,.int .i64 t.hash] 101):=⟨_,rfl⟩;have ac:Below w1.heap.size w1 D:=J ▸ (br _ _).alloc (nlq _) _;have E:Hid (Below W.heap.size W D):=Z.trans (ac.mono al);have h8:D.heap[w1.heap.size]? =some (.cells #[.int .i64 t.loc,.int .i64 t.tag,.int .i64 t.len,.int .i64 t.hash] 101 (0,0)):=J ▸ heap_alloc_new w1 _;have s0:=aw h8 0 (x:=.int .i64 t.loc) rfl;have s1:=aw h8 1 (x:=.int .i64 t.tag) rfl;have s2:=aw h8 2 (x:=.int .i64 t.len) rfl;have s3:=aw h8 3 (x:=.int .i64 t.hash) rfl;have l8:=bk h8;have p0:D.cell? ⟨P,0,none⟩=some (.pointer (some ⟨X+1,0,none⟩)):=(E.o.cell (p:=⟨P,0,none⟩) aj).trans hP;have aa:=ae (HC.o.below E.o);have av:P<D.heap.size:=by have:=E.o.size;omega
 have ao:X+1<D.heap.size:=by have:=E.o.size;omega
 have I:Hid (∀V,Below D.heap.size D V->Calls Tryz.prog 177 #[.pointer (some ⟨X+1,0,none⟩),.int .i64 n] V fun r w'=>r=.returned (.bool (decide (h.ag<n)))/\w'=V):=fun V hV=>zez V B (X+1) _ _ _ _ _ _ _ h d (aa.o.below hV).gd n;have O:=ae J;have au:P<w1.heap.size:=by omega
 clear Z ac J h8 N HC hP;cases ok with
 | false=>
   have HR:Hid (ga d h ts n=true):=F.o.trans (by simp);clear G F;go_wp2_with fail;rw [<-O.o];go_quiet (fail);go_wp2_with fail;go_ret;exact ⟨by rw [HR.o];rfl,ku E.o _⟩
 | true=>
   obtain ⟨hf,ax,ah⟩:=G.o rfl;have L:t.fin=t.loc+3+t.len:=rfl;have aq:=hf.lo;by_cases hy:h.ag<n
   ·have hd:decide (h.ag<n)=true:=by simp [hy]
    rw [hd]at I;have ai:Hid (∀V,Below D.heap.size D V->Calls Tryz.prog 178 #[.pointer (some ⟨X+1,0,none⟩),.agg #[.int .i64 t.loc,.int .i64 t.tag,.int .i64 t.len,.int .i64 t.hash]] V fun r w'=>Below V.heap.size V w'/\∃a c,r=.returned (.slice a (refsOf d.fields t).length c)):=fun V hV=>(zht V B (X+1) _ _ _ _ _ _ _ h d (aa.o.below hV).gd t hf (by omega) (by omega)).mono fun r w' ⟨hb,v,hr,ho⟩=>by obtain ⟨a,c,e⟩:=kh ho;exact ⟨hb,a,c,by rw [hr,e]⟩
    have HR:Hid (ga d h ts n=(((refsOf d.fields t).length:Int)==0)):=F.o.trans (by simp [hy]);generalize (refsOf d.fields t).length=rl at*;clear G F hf ah L;go_wp2_with fail;rw [<-O.o];refine wp_region_held_drew (S:=fun W'=>∀p:Addr,p.block<D.heap.size->W'.cell? p=D.cell? p) (by kernel_rfl) (fun p hp=>rfl) fun A=>?_;refine ta 0 (.bool true) rfl A ?_;refine ta 1 (.bool false) rfl A ?_;refine ta 2 (.bool false) rfl A ?_;refine ta 3 (.pointer (some ⟨P,0,none⟩)) rfl A ?_;refine ta 4 (.pointer (some ⟨X+1,0,none⟩)) rfl A ?_;refine ta 5 (.pointer (some ⟨X+1,0,none⟩)) rfl A ?_;refine ta 6 (.pointer (some ⟨X+1,0,none⟩)) rfl A ?_;refine ta 7 (.int .i64 n) rfl A ?_;refine wpAnyH_ready (rs:=[8]) (by kernel_rfl) (by simp) ?_;refine AllReadyH.cons rfl (fun K8 Y=>?_) AllReadyH.nil;go_simp;refine (I.o _ (br _ _).drew).mono ?_;rintro r _ ⟨rfl,rfl⟩;refine Y.o _ _ (fun p hp=>rfl) fun A=>?_;refine ta 9 (.bool false) rfl A ?_;refine ta 10 (.bool false) rfl A ?_;refine ta 11 (.bool false) rfl A ?_;refine ta 12 (.pointer (some ⟨P,0,none⟩)) rfl A ?_;refine ta 13 (.pointer (some ⟨X+1,0,none⟩)) rfl A ?_;refine ta 14 (.pointer (some ⟨X+1,0,none⟩)) rfl A ?_;refine ta 15 (.pointer (some ⟨X+1,0,none⟩)) rfl A ?_;refine ta 16 (.agg #[.int .i64 t.loc,.int .i64 t.tag,.int .i64 t.len,.int .i64 t.hash]) rfl A ?_;refine wpAnyH_ready (rs:=[17]) (by kernel_rfl) (by simp) ?_;refine AllReadyH.cons rfl (fun an ad=>?_) AllReadyH.nil;go_simp;refine (ai.o _ (br _ _).drew).mono ?_;rintro r w3 ⟨ak,a3,c3,rfl⟩;have af:Below D.heap.size D w3:=(br D.heap.size D).drew.trans ak;refine ad.o _ _ (fun p hp=>af.cell hp) fun A=>?_;refine ta 18 (.int .i64 (rl:Int)) rfl A ?_;refine ta 19 (.bool ((rl:Int)==0)) rfl A ?_;refine ta 20 (.bool ((rl:Int)==0)) rfl A ?_;refine ta 21 (.bool ((rl:Int)==0)) rfl A ?_;refine wpAnyH_done (by kernel_rfl) ?_ _;clear A;simp only [Act.put,p1q,p4q,p3q,p2q,p5q,p6q];go_wp2_with fail;go_ret;exact ⟨by rw [HR.o];rfl,E.o.trans (af.mono E.o.size)⟩
   have hd:decide (h.ag<n)=false:=by simp [hy]
   rw [hd]at I;have HR:Hid (ga d h ts n=true):=F.o.trans (by simp [hy]);clear G F hf ah L;go_wp2_with fail;rw [<-O.o];refine wp_region_held_drew (S:=fun W'=>∀p:Addr,p.block<D.heap.size->W'.cell? p=D.cell? p) (by kernel_rfl) (fun p hp=>rfl) fun A=>?_;refine ta 0 (.bool true) rfl A ?_;refine ta 1 (.bool false) rfl A ?_;refine ta 2 (.bool false) rfl A ?_;refine ta 3 (.pointer (some ⟨P,0,none⟩)) rfl A ?_;refine ta 4 (.pointer (some ⟨X+1,0,none⟩)) rfl A ?_;refine ta 5 (.pointer (some ⟨X+1,0,none⟩)) rfl A ?_;refine ta 6 (.pointer (some ⟨X+1,0,none⟩)) rfl A ?_;refine ta 7 (.int .i64 n) rfl A ?_;refine wpAnyH_ready (rs:=[8]) (by kernel_rfl) (by simp) ?_;refine AllReadyH.cons rfl (fun K8 Y=>?_) AllReadyH.nil;go_simp;refine (I.o _ (br _ _).drew).mono ?_;rintro r _ ⟨rfl,rfl⟩;refine Y.o _ _ (fun p hp=>rfl) fun A=>?_;refine ta 9 (.bool true) rfl A ?_;refine ta 10 (.bool true) rfl A ?_;refine ta 11 (.bool true) rfl A ?_;refine lq 12 rfl A ?_;refine lq 13 rfl A ?_;refine lq 14 rfl A ?_;refine lq 15 rfl A ?_;refine lq 16 rfl A ?_;refine lq 17 rfl A ?_;refine lq 18 rfl A ?_;refine lq 19 rfl A ?_;refine ta 20 (.bool true) rfl A ?_;refine ta 21 (.bool true) rfl A ?_;refine wpAnyH_done (by kernel_rfl) ?_ _;clear A;simp only [Act.put,p1q,p4q,p3q,p2q,p5q,p6q];go_wp2_with fail;go_ret;exact ⟨by rw [HR.o];rfl,E.o.drew⟩
theorem zig (w:World) (X B:Nat) (vW N kC kS kF kN kT vA:Value) (h:bb) (d:bd) (ts:List bp) (hc:mc X B w vW N kC kS kF kN kT vA h d ts) (Y:Lain d h ts) (L:∀x∈h.am,(Lit.int .i64 x).wf=true):
 Calls Tryz.prog 115 #[.agg #[.pointer (some ⟨X+1,0,none⟩)]] w fun r w'=>r=.returned (.bool (!h.am.any (ga d h ts)))/\Below w.heap.size w w':=by
 have aa:=mm Tryz.prog;obtain ⟨D,J⟩:∃D,D=w.alloc (.cells #[.pointer (some ⟨X+1,0,none⟩)] 88):=⟨_,rfl⟩;have F:Below w.heap.size w D:=J ▸ (br _ _).alloc (nlq _) _;have ac:D.heap.size=w.heap.size+1:=by rw [J];simp
 have A:=hc.below F;have Z:D.cell? ⟨w.heap.size,0,none⟩=some (.pointer (some ⟨X+1,0,none⟩)):=by rw [J];simp [go_sem]
 have E:Hid (Calls Tryz.prog 174 #[N,.func (.func 176) #[] #[.pointer (some ⟨w.heap.size,0,none⟩)]] D fun r w'=>r=.returned (.bool (h.am.any (ga d h ts)))/\Below D.heap.size D w'):=by refine zhy _ B N _ A.sO (by have:=A.le;have:=bk A.blk;omega) 176 #[] _ (ga d h ts) (fun args w=>by kernel_rfl) ?_;intro x hx V W;exact zif V X B _ _ _ _ _ _ _ vA h d ts (A.below W) Y w.heap.size ((W.cell (p:=⟨w.heap.size,0,none⟩) (by show w.heap.size<_;omega)).trans Z) x (L x hx)
 have gl:=bk A.blk;have m5:=aw A.blk 5 (x:=N) rfl;have I:=ae F;obtain ⟨a,q,rfl,-⟩:=hc.sO;rw [J]at E m5 gl;clear hc A F Z Y L;generalize h.am.any (ga d h ts)=b at*;go_enter Tryz.func115,Tryz.ntmps115;go_wp2_with fail;refine E.o.mono ?_;rintro r w1 ⟨rfl,G⟩;rw [<-J]at G;have O:Hid (Below w.heap.size w w1):=I.o.trans (G.mono I.o.size);clear G E;go_wp2_with fail;go_ret;exact ⟨rfl,O.o⟩
structure HsD (hs:List Int) (D:DataW Unit):Prop where
 has:∀n,Maps.has D (ky n)=decide (n∈hs)
 le:Maps.size D<=hs.length
 eq:Maps.size D=hs.length↔hs.Nodup
theorem zih:HsD [] (.map []):=⟨fun n=>by simp;rfl,nlq _,by simp;rfl⟩
theorem zii (A:List Int) (x:Int):(A++ [x]).Nodup↔A.Nodup/\x∉A:=by
 rw [List.nodup_append];constructor
 ·rintro ⟨h1,-,F⟩;exact ⟨h1,fun I=>F x I x (by simp) rfl⟩
 rintro ⟨h1,E⟩;refine ⟨h1,by simp,fun a G b D e=>?_⟩;rw [List.mem_singleton]at D;subst D;subst e;exact E G
theorem zij {F:List Int} {D:DataW Unit} (h:HsD F D) (G:Tidy D) (x:Int) (v:DataW Unit):HsD (F++ [x]) (D.put (ky x) v):=by
 have N:=G.isMap;have A:Maps.size (D.put (ky x) v)=if Maps.has D (ky x)=true then Maps.size D else Maps.size D+1:=size_put G v
 have L:=h.le;have E:=h.eq;rw [h.has x]at A;refine ⟨fun n=>?_,?_,?_⟩
 ·by_cases e:x=n
  ·subst e;rw [has_put_same N (isIKey _)];simp
  rw [has_put_other (zfg (Ne.symm e)),h.has];have J:¬n=x:=fun q=>e q.symm;simp [J]
 ·rw [A,List.length_append];split<;>simp<;>omega
 rw [A,List.length_append,zii];by_cases I:x∈F
 ·simp [I];omega
 simp [I];exact E
theorem zik (w:World) (X B:Nat) (vW vO kC kS kF kN kT vA:Value) (h:bb) (d:bd) (ts:List bp) (hc:mc X B w vW vO kC kS kF kN kT vA h d ts) (hl:ts.length<=1000000) (ak:∀t∈ts,(Lit.int .i64 t.hash).wf=true):
 Calls Tryz.prog 111 #[.agg #[.pointer (some ⟨X+1,0,none⟩)]] w fun r w'=>r=.returned (.bool (decide ((ts.map bp.hash).Nodup)))/\Below w.heap.size w w':=by
 have a2:=@run_makeMap Tryz.prog;obtain ⟨G,hW⟩:∃G,G=(w.alloc (.cells #[.pointer (some ⟨X+1,0,none⟩)] 88)).alloc (.map #[] 0):=⟨_,rfl⟩;have a4:G.heap.size=w.heap.size+1+1:=by rw [hW];simp
 have Y:Below w.heap.size w G:=hW ▸ ((br _ _).alloc (nlq _) _).alloc (by simp) _;have ac:G.heap[w.heap.size]? =some (.cells #[.pointer (some ⟨X+1,0,none⟩)] 88 (0,0)):=by rw [hW];exact (Below.heap_alloc _ _ _ (by simp)).trans (heap_alloc_new w _)
 have ai:G.ownsMap Tryz.prog 3 mt (w.heap.size+1) 0 (.map []):=by have:=World.ownsMap_made (w.alloc (.cells #[.pointer (some ⟨X+1,0,none⟩)] 88)) Tryz.prog 3 mt;rw [<-hW]at this;simpa using this
 have I:=hc.below Y;have HS:Hid (SL 4 RTh (· <w.heap.size) w vA ts):=hc.all hl;have gl:=bk hc.blk;have ah:=bk I.blk;have J:=aw I.blk 12 (x:=vA) rfl;have p0:=aw ac 0 (x:=.pointer (some ⟨X+1,0,none⟩)) rfl;obtain ⟨a,q,rfl⟩:=hc.len;have ax:=ae I;have al:=ae Y;have av:=ae ac;have HM:=ae ai;have aq:=ae ak;have HW:=ae hW;clear hc I Y ac ai ak;rw [hW]at J p0 ah;clear hW;go_enter Tryz.func111,Tryz.ntmps111;go_wp2_with fail;rw [<-HW.o];rw [<-HW.o]at J p0 ah;go_loopw [13] (fun i wr=>∃(k:Nat) (D:DataW Unit),k<=ts.length/\i=.int .i64 k/\Hid (wr.ownsMap Tryz.prog 3 mt (w.heap.size+1) k D/\HsD ((ts.take k).map bp.hash) D/\Below (w.heap.size+1) G wr)) (fun i _=>ts.length - (intOf i).toNat)
 case atStart=>exact ⟨0,.map [],n0q _,rfl,HM.o,by simpa using zih,br _ _⟩
 case round=>
  obtain ⟨k,D,hk,rfl,E⟩:=hrel;have a3:=E.o.2.2.size;have Z:Below w.heap.size w wr:=al.o.trans (E.o.2.2.mono (by omega));by_cases ad:k<ts.length
  ·obtain ⟨bA,oA,rfl,a0,e0,e1,e2,e3⟩:=(HS.o.keptTh (Kp.below Z)).atTh k ad;have q1:(0:Int)<=k:=by omega
   have q2:(k:Int)<ts.length:=by omega
   have aj:=aq.o ts[k] (gm ad);have ao:Hid ((ts.take (k+1)).map bp.hash=(ts.take k).map bp.hash++ [ts[k].hash]):=by show _=_;rw [List.take_succ_eq_append_getElem ad,List.map_append];rfl
   generalize ts[k]=t at*;obtain ⟨W7,F⟩:∃W7,W7=wr.alloc (.cells #[.int .i64 t.loc,.int .i64 t.tag,.int .i64 t.len,.int .i64 t.hash] 101):=⟨_,rfl⟩;have W:Below wr.heap.size wr W7:=F ▸ (br _ _).alloc (nlq _) _;have h7:W7.heap[wr.heap.size]? =some (.cells #[.int .i64 t.loc,.int .i64 t.tag,.int .i64 t.len,.int .i64 t.hash] 101 (0,0)):=F ▸ heap_alloc_new wr _;have af:W7.ownsMap Tryz.prog 3 mt (w.heap.size+1) k D:=by rw [F];exact E.o.1.alloc _
   have O:keyOf Tryz.prog 3 (.int .i64 t.hash)=some (ky t.hash):=keyOf_int_mk Tryz.underlying3 aj;obtain ⟨ag,V,A,N⟩:=World.ownsMap.update (w:=W7) af law3 Tryz.underlying183 (by unfold maxLen;omega) O (zfd t);unfold thV at V;have aa:=zij E.o.2.1 (af.tidy law3) t.hash (ma t);rw [<-ao.o]at aa;have L:Below (w.heap.size+1) G ag:=(E.o.2.2.trans (W.mono (by omega))).grown N (by have:=W.size;omega) (fun q e=>by cases e;exact nlq _);have s0:=aw h7 0 (x:=.int .i64 t.loc) rfl;have s1:=aw h7 1 (x:=.int .i64 t.tag) rfl;have s2:=aw h7 2 (x:=.int .i64 t.len) rfl;have s3:=aw h7 3 (x:=.int .i64 t.hash) rfl;have l7:=bk h7;have HF:Hid (ag.ownsMap Tryz.prog 3 mt (w.heap.size+1) (k+1) (D.put (ky t.hash) (ma t))/\HsD ((ts.take (k+1)).map bp.hash) (D.put (ky t.hash) (ma t))/\Below (w.heap.size+1) G ag):=⟨A,aa,L⟩;rw [F]at s0 s1 s2 s3 l7 V;clear W h7 af O A N aa L F aj E;go_wp2_with fail;go_roundw
   case rel=>exact ⟨k+1,_,by omega,by go_num,HF.o⟩
   case measure=>simp [intOf];omega
  have au:k=ts.length:=by omega
  have HR:Hid ((Maps.size D:Int)==(ts.length:Int)↔(ts.map bp.hash).Nodup):=by have:=E.o.2.1.eq;rw [au,List.take_length,List.length_map]at this;show _↔_;rw [<-this];simp;omega
  have a1:=E.o.1.drew.len (e:=101) Tryz.underlying183;have p1:=(E.o.2.2.cell (p:=⟨w.heap.size,0,none⟩) (by show w.heap.size<_;omega)).trans p0;have m1:=(E.o.2.2.cell (p:=⟨X+1,12,none⟩) (by show X+1<_;omega)).trans J;have az:X+1<wr.heap.size:=by omega
  have ay:w.heap.size<wr.heap.size:=by omega
  have an:=ae Z;clear E Z p0 J;generalize Maps.size D=sz at*;go_wp2_with fail;go_region
  all_goals
   go_wp2_with fail;go_ret
  all_goals refine ⟨?_,an.o.drew⟩
  have hr:=HR.o;show Ending.returned (.bool ((sz:Int)==(ts.length:Int)))=_;congr 2;by_cases hd:(ts.map bp.hash).Nodup
  ·rw [decide_eq_true hd];exact hr.2 hd
  rw [decide_eq_false hd];exact Bool.eq_false_iff.2 fun e=>hd (hr.1 e)
end Go.Proofs.YtjdnmblggdobgaaGreat
