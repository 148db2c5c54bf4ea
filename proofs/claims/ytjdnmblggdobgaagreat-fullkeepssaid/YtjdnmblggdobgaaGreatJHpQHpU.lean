import Derived.Test.YtjdnmblggdobgaaGreatJTk2Dies
import Derived.Test.YtjdnmblggdobgaaGreatJHpCHpH
import Derived.BigQuiet
import Derived.Laws.EntriesVeiled
set_option maxHeartbeats 4000000
set_option maxRecDepth 100000
namespace Go.Proofs.YtjdnmblggdobgaaGreat
open Go.RowKit Go.Maps
theorem oo.len {X B:Nat} {w:World} {J I A F D E G u:Value} {h:bd} {d:be} {ts:List bp} (c:oo X B w J I A F D E G u h d ts):∃a q,u=.slice a ts.length q:=kh c.row
theorem oo.all {X B:Nat} {w:World} {O N F J G I L A:Value} {h:bd} {d:be} {ts:List bp} (c:oo X B w O N F J G I L A h d ts) (E:ts.length<=1000000):SL 4 RTh (· <w.heap.size) w A ts:=
 (zhw c.row E).mono (fun b u=>by obtain ⟨_,D,_,_,u,_⟩:=u;exact bz u) (fun _ _ h=>h)
def iy (h:bd) (x:bp):Bool:=decide (x.hash<1)||decide (h.next<=x.hash)
theorem zh4 (W:World) (X B:Nat) (vW Z J O L N V Y:Value) (h:bd) (d:be) (ts:List bp) (hc:oo X B W vW Z J O L N V Y h d ts) (P:Nat) (D:W.cell? ⟨P,0,none⟩=some (.pointer (some ⟨X+1,0,none⟩))) (x:bp):
 Calls Tryz.prog 169 #[.agg #[.int .i64 x.loc,.int .i64 x.tag,.int .i64 x.len,.int .i64 x.hash],.pointer (some ⟨P,0,none⟩)] W fun r G=>r=.returned (.bool (iy h x))/\Below W.heap.size W G:=by
 have u:Hid (Below W.heap.size W (W.alloc (.cells #[.int .i64 x.loc,.int .i64 x.tag,.int .i64 x.len,.int .i64 x.hash] 101))):=(br _ _).alloc (nlq _) _;have E:P<W.heap.size:=World.block_lt_of_cell? W _ D;have I:=bz hc.blk;have c6:(W.alloc (.cells #[.int .i64 x.loc,.int .i64 x.tag,.int .i64 x.len,.int .i64 x.hash] 101)).cell? ⟨X+1,6,none⟩=some (.int .i64 h.next):=(u.o.cell (p:=⟨X+1,6,none⟩) I).trans (ba hc.blk 6 rfl);have p0:(W.alloc (.cells #[.int .i64 x.loc,.int .i64 x.tag,.int .i64 x.len,.int .i64 x.hash] 101)).cell? ⟨P,0,none⟩=some (.pointer (some ⟨X+1,0,none⟩)):=(u.o.cell (p:=⟨P,0,none⟩) E).trans D;have A:Hid (iy h x=(decide (x.hash<1)||decide (h.next<=x.hash))):=rfl;clear hc D;generalize h.next=nx at*;by_cases h1:x.hash<1
 ·have F:decide (x.hash<1)=true:=by simp [h1]
  rw [A.o,F];clear A;go_enter Tryz.func169,Tryz.ntmps169;go_wp2_with fail;go_quiet (fail);go_wp2_with fail;go_ret;exact ⟨rfl,mp u.o _⟩
 have F:decide (x.hash<1)=false:=by simp [h1]
 rw [A.o,F];clear A;go_enter Tryz.func169,Tryz.ntmps169;go_wp2_with fail;go_quiet (fail);go_wp2_with fail;go_ret;exact ⟨by simp,mp u.o _⟩
theorem zh5 (w:World) (X B:Nat) (vW vO V kS Y Z kT G:Value) (h:bd) (d:be) (ts:List bp) (hc:oo X B w vW vO V kS Y Z kT G h d ts) (L:ts.length<=1000000):
 Calls Tryz.prog 110 #[.agg #[.pointer (some ⟨X+1,0,none⟩)]] w fun r w'=>r=.returned (.bool (!ts.any (iy h)))/\Below w.heap.size w w':=by
 have N:=np Tryz.prog;have A:Below w.heap.size w (w.alloc (.cells #[.pointer (some ⟨X+1,0,none⟩)] 88)):=(br _ _).alloc (nlq _) _;have u:=hc.below A;have O:(w.alloc (.cells #[.pointer (some ⟨X+1,0,none⟩)] 88)).cell? ⟨w.heap.size,0,none⟩=some (.pointer (some ⟨X+1,0,none⟩)):=by simp [go_sem]
 have E:Hid (Calls Tryz.prog 168 #[G,.func (.func 169) #[] #[.pointer (some ⟨w.heap.size,0,none⟩)]] (w.alloc (.cells #[.pointer (some ⟨X+1,0,none⟩)] 88)) fun r w'=>r=.returned (.bool (ts.any (iy h)))/\Below (w.alloc (.cells #[.pointer (some ⟨X+1,0,none⟩)] 88)).heap.size (w.alloc (.cells #[.pointer (some ⟨X+1,0,none⟩)] 88)) w'):=by refine zh0 _ _ G ts (u.all L) (nlq _) 169 #[] _ (iy h) (fun args w=>by kernel_rfl) ?_;intro x hx W J;exact zh4 W X B _ _ _ _ _ _ _ G h d ts (u.below J) w.heap.size ((J.cell (p:=⟨w.heap.size,0,none⟩) (by simp)).trans O) x
 have gl:=bz u.blk;have aa:=ba u.blk 12 (x:=G) rfl;have D:=ag A;obtain ⟨a,q,rfl⟩:=hc.len;clear hc u A;generalize ts.any (iy h)=b at*;go_enter Tryz.func110,Tryz.ntmps110;go_wp2_with fail;refine E.o.mono ?_;rintro r w1 ⟨rfl,F⟩;have I:Hid (Below w.heap.size w w1):=D.o.trans (F.mono D.o.size);clear F E;go_wp2_with fail;go_ret;exact ⟨rfl,I.o⟩
theorem zh6 (W:World) (X B:Nat) (Z Y J O L N V E:Value) (h:bd) (d:be) (ts:List bp) (hc:oo X B W Z Y J O L N V E h d ts) (P:Nat) (G:W.cell? ⟨P,0,none⟩=some (.pointer (some ⟨X+1,0,none⟩))) (n:Int) (D:(Lit.int .i64 n).wf=true):
 Calls Tryz.prog 170 #[.int .i64 n,.pointer (some ⟨P,0,none⟩)] W fun r F=>r=.returned (.bool (!cw ts n))/\Below W.heap.size W F:=by
 have A:=ag (zhv W X B _ _ _ _ _ _ _ E h d ts hc n D);have I:P<W.heap.size:=World.block_lt_of_cell? W _ G;clear hc D;generalize cw ts n=b at*;go_enter Tryz.func170,Tryz.ntmps170;go_wp2_with fail;refine A.o.mono ?_;rintro r w1 ⟨rfl,u⟩;clear A;go_wp2_with fail;go_ret;exact ⟨rfl,u⟩
structure Lain (d:be) (h:bd) (ts:List bp):Prop where
 len:ts.length<=1000000
 ab:h.ab.length<=100000
 wf:∀x∈h.ab,(Lit.int .i64 x).wf=true
 fit:∀t∈ts,FitT d t/\0<=t.loc/\t.fin<=h.ab.length
theorem Lain.wdf {d:be} {h:bd} {ts:List bp} (l:Lain d h ts) (a:Int):(Lit.int .i64 (wd h.ab a)).wf=true:=by
 unfold wd;cases hx:h.ab[a.toNat]? with
 | none=>decide
 | some x=>exact l.wf x (List.mem_of_getElem? hx)
theorem zh7 (W:World) (X B:Nat) (vW vO kC kS kF kN kT vA:Value) (h:bd) (d:be) (ts:List bp) (hc:oo X B W vW vO kC kS kF kN kT vA h d ts) (L:Lain d h ts) (P Q:Nat) (O:W.cell? ⟨P,0,none⟩=some (.pointer (some ⟨X+1,0,none⟩))) (Z:W.cell? ⟨Q,0,none⟩=some (.func (.func 170) #[] #[.pointer (some ⟨P,0,none⟩)])) (x:bp) (hx:x∈ts):
 Calls Tryz.prog 171 #[.agg #[.int .i64 x.loc,.int .i64 x.tag,.int .i64 x.len,.int .i64 x.hash],.pointer (some ⟨P,0,none⟩),.pointer (some ⟨Q,0,none⟩)] W fun r N=>r=.returned (.bool (fq d.fields h.ab x fun n=>!cw ts n))/\Below W.heap.size W N:=by
 obtain ⟨A,J⟩:∃A,A=W.alloc (.cells #[.int .i64 x.loc,.int .i64 x.tag,.int .i64 x.len,.int .i64 x.hash] 101):=⟨_,rfl⟩;have u:Below W.heap.size W A:=J ▸ (br _ _).alloc (nlq _) _;have Y:P<W.heap.size:=World.block_lt_of_cell? W _ O;have aa:Q<W.heap.size:=World.block_lt_of_cell? W _ Z;have gl:=bz hc.blk;have D:A.heap[W.heap.size]? =some (.cells #[.int .i64 x.loc,.int .i64 x.tag,.int .i64 x.len,.int .i64 x.hash] 101 (0,0)):=J ▸ heap_alloc_new W _;have p0:A.cell? ⟨P,0,none⟩=some (.pointer (some ⟨X+1,0,none⟩)):=(u.cell (p:=⟨P,0,none⟩) Y).trans O;have q0:A.cell? ⟨Q,0,none⟩=some (.func (.func 170) #[] #[.pointer (some ⟨P,0,none⟩)]):=(u.cell (p:=⟨Q,0,none⟩) aa).trans Z;have s0:=ba D 0 (x:=.int .i64 x.loc) rfl;have s1:=ba D 1 (x:=.int .i64 x.tag) rfl;have s2:=ba D 2 (x:=.int .i64 x.len) rfl;have s3:=ba D 3 (x:=.int .i64 x.hash) rfl;have ls:=bz D;obtain ⟨hf,h1,h2⟩:=L.fit x hx;have HC:Hid (∀V,Below A.heap.size A V->Calls Tryz.prog 172 #[.pointer (some ⟨X+1,0,none⟩),.agg #[.int .i64 x.loc,.int .i64 x.tag,.int .i64 x.len,.int .i64 x.hash],.func (.func 170) #[] #[.pointer (some ⟨P,0,none⟩)]] V fun r w'=>r=.returned (.bool (fq d.fields h.ab x fun n=>!cw ts n))/\Below V.heap.size V w'):=by intro V hV;have I:=(hc.below u).below hV;refine zh3 V B (X+1) _ _ _ _ _ _ _ h d I.gd x hf h1 h2 L.ab 170 #[] _ (fun n=>!cw ts n) (fun args w=>by kernel_rfl) ?_;intro a ha V2 F;exact zh6 V2 X B _ _ _ _ _ _ _ vA h d ts (I.below F) P ((F.cell (p:=⟨P,0,none⟩) (by show P<_;have:=u.size;have:=hV.size;omega)).trans ((hV.cell (p:=⟨P,0,none⟩) (by show P<_;have:=u.size;omega)).trans p0)) _ (L.wdf a)
 have E:=ag u;have HW:=ag J;have ad:P<A.heap.size:=by have:=u.size;omega
 have ae:Q<A.heap.size:=by have:=u.size;omega
 clear hc L O Z u J D hf h1 h2 hx;generalize fq d.fields h.ab x (fun n=>!cw ts n)=b at*;go_enter Tryz.func171,Tryz.ntmps171;go_wp2_with fail;rw [<-HW.o]
 go_region_held3 (fun N=>∀p:Addr,p.block<A.heap.size->N.cell? p=A.cell? p) (exact fun p hp=>Below.cell (B:=A.heap.size) (w:=A) (by repeat (first | assumption | exact br _ _ | refine Below.drew ?_)) hp) (first | (refine (HC.o _ ?_).mono ?_;(exact (br _ _).drew);rintro r w2 ⟨rfl,G⟩;have ac:Below A.heap.size A w2:=(br A.heap.size A).drew.trans G;clear G))
 all_goals
  rename_i hS1;clear hS1;go_wp2_with fail;go_ret;exact ⟨rfl,E.o.trans (ac.mono E.o.size)⟩
theorem zh8 (w:World) (X B:Nat) (vW vO kC kS kF kN kT J:Value) (h:bd) (d:be) (ts:List bp) (hc:oo X B w vW vO kC kS kF kN kT J h d ts) (O:Lain d h ts):
 Calls Tryz.prog 112 #[.agg #[.pointer (some ⟨X+1,0,none⟩)]] w fun r w'=>r=.returned (.bool (!ts.any fun x=>fq d.fields h.ab x fun n=>!cw ts n))/\Below w.heap.size w w':=by
 have aa:=np Tryz.prog;obtain ⟨A,G⟩:∃A,A=(w.alloc (.cells #[.pointer (some ⟨X+1,0,none⟩)] 88)).alloc (.cells #[.func (.func 170) #[] #[.pointer (some ⟨w.heap.size,0,none⟩)]] 79):=⟨_,rfl⟩;have ac:A.heap.size=w.heap.size+2:=by rw [G];simp
 have E:Below w.heap.size w A:=G ▸ ((br _ _).alloc (nlq _) _).alloc (by simp) _;have u:=hc.below E;have Y:A.cell? ⟨w.heap.size,0,none⟩=some (.pointer (some ⟨X+1,0,none⟩)):=by rw [G];simp [go_sem]
 have Z:A.cell? ⟨w.heap.size+1,0,none⟩=some (.func (.func 170) #[] #[.pointer (some ⟨w.heap.size,0,none⟩)]):=by rw [G];simp [go_sem]
 have D:Hid (Calls Tryz.prog 168 #[J,.func (.func 171) #[] #[.pointer (some ⟨w.heap.size,0,none⟩),.pointer (some ⟨w.heap.size+1,0,none⟩)]] A fun r w'=>r=.returned (.bool (ts.any fun x=>fq d.fields h.ab x fun n=>!cw ts n))/\Below A.heap.size A w'):=by refine zh0 _ _ J ts (u.all O.len) (nlq _) 171 #[] _ (fun x=>fq d.fields h.ab x fun n=>!cw ts n) (fun args w=>by kernel_rfl) ?_;intro x hx V N;exact zh7 V X B _ _ _ _ _ _ _ J h d ts (u.below N) O w.heap.size (w.heap.size+1) ((N.cell (p:=⟨w.heap.size,0,none⟩) (by show w.heap.size<_;omega)).trans Y) ((N.cell (p:=⟨w.heap.size+1,0,none⟩) (by show w.heap.size+1<_;omega)).trans Z) x hx
 have gl:=bz u.blk;have W:=ba u.blk 12 (x:=J) rfl;have I:=ag E;obtain ⟨a,q,rfl⟩:=hc.len;rw [G]at D W gl;clear hc u E Y Z O;generalize (ts.any fun x=>fq d.fields h.ab x fun n=>!cw ts n)=b at*;go_enter Tryz.func112,Tryz.ntmps112;go_wp2_with fail;refine D.o.mono ?_;rintro r w1 ⟨rfl,F⟩;rw [<-G]at F;have L:Hid (Below w.heap.size w w1):=I.o.trans (F.mono I.o.size);clear F D;go_wp2_with fail;go_ret;exact ⟨rfl,L.o⟩
def me (l:List Int) (k:Nat):Prop:=∀j,0<j->j<k->wd l ((j:Int) - 1)<wd l j
theorem zh9 {l:List Int} {k:Nat} (h:me l k) (u:0<k->wd l ((k:Int) - 1)<wd l k):me l (k+1):=fun j h0 A=>by
 by_cases e:j=k
 ·subst e;exact u h0
 exact h j h0 (by omega)
theorem zia (w:World) (X B:Nat) (vW vO kC kS kF kN kT vA:Value) (h:bd) (d:be) (ts:List bp) (hc:oo X B w vW vO kC kS kF kN kT vA h d ts):
 Calls Tryz.prog 114 #[.agg #[.pointer (some ⟨X+1,0,none⟩)]] w fun r w'=>(∃b,r=.returned (.bool b)/\(b=true↔me h.ap h.ap.length))/\Below w.heap.size w w':=by
 have A:Below w.heap.size w (w.alloc (.cells #[.pointer (some ⟨X+1,0,none⟩)] 88)):=(br _ _).alloc (nlq _) _;have u:=hc.below A;have hp:(w.alloc (.cells #[.pointer (some ⟨X+1,0,none⟩)] 88)).cell? ⟨w.heap.size,0,none⟩=some (.pointer (some ⟨X+1,0,none⟩)):=by simp [go_sem]
 have gl:=bz u.blk;have Z:=ag u.sO;have m5:=ba u.blk 5 (x:=vO) rfl;obtain ⟨ao,ca,rfl,-,Y,-⟩:=hc.sO;unfold maxLen at Y;have F:=ag A;clear hc u A;go_enter Tryz.func114,Tryz.ntmps114;go_wp2_with fail;go_loopw [13] (fun i wr=>∃k:Nat,k<=h.ap.length/\i=.int .i64 k/\wr=w.alloc (.cells #[.pointer (some ⟨X+1,0,none⟩)] 88)/\Hid (me h.ap k)) (fun i _=>h.ap.length - (intOf i).toNat)
 case atStart=>exact ⟨0,n0q _,rfl,rfl,fun j _ E=>by omega⟩
 case round=>
  obtain ⟨k,hk,rfl,rfl,N⟩:=hrel;by_cases D:k<h.ap.length
  ·obtain ⟨bW,oW,rfl,ac,eW⟩:=Z.o.atI k D;have q1:(0:Int)<=k:=by omega
   have q2:(k:Int)<h.ap.length:=by omega
   have I:Hid (h.ap[k]=wd h.ap k):=(zen D).symm;by_cases ad:0<(k:Int)
   ·obtain ⟨j,E⟩:∃j:Nat,(k:Int) - 1=j:=⟨k - 1,by omega⟩;have J:j<h.ap.length:=by omega
    obtain ⟨bV,oV,e,aa,eV⟩:=Z.o.atI j J;obtain ⟨rfl,rfl⟩:bV=bW/\oV=oW:=by injection e with e;injection e with e1 e2;exact ⟨e1.symm,e2.symm⟩
    have G:Hid (h.ap[j]=wd h.ap ((k:Int) - 1)):=by show _=_;rw [E];exact (zen J).symm
    have af:IntKind.i64.wrap ((k:Int) - 1)=(j:Int):=by rw [E];exact ge _ (by omega) (by omega)
    have q3:(0:Int)<=j:=by omega
    have q4:(j:Int)<h.ap.length:=by omega
    have HJ:=ag E;by_cases ae:h.ap[k]<=h.ap[j]
    ·have L:Hid (¬me h.ap h.ap.length):=fun V=>by
      have:=V k (by omega) D;rw [<-I.o,<-G.o]at this;omega
     generalize h.ap[k]=x at*;generalize h.ap[j]=y at*;clear E e;go_wp2_with fail;go_ret;exact ⟨⟨false,rfl,by simp;exact L.o⟩,F.o⟩
    have O:=ag (zh9 N.o (fun _=>by rw [<-I.o,<-G.o];omega));generalize h.ap[k]=x at*;generalize h.ap[j]=y at*;clear E e;go_wp2_with fail;go_roundw
    case rel=>exact ⟨k+1,by omega,by go_num,trivial,O.o⟩
    case measure=>simp [intOf];omega
   have O:=ag (zh9 N.o (fun V=>absurd V (by omega)));generalize h.ap[k]=x at*;go_wp2_with fail;go_roundw
   case rel=>exact ⟨k+1,by omega,by go_num,trivial,O.o⟩
   case measure=>simp [intOf];omega
  have W:k=h.ap.length:=by omega
  have L:Hid (me h.ap h.ap.length):=W ▸ N.o;go_wp2_with fail;go_ret;exact ⟨⟨true,rfl,by simp;exact L.o⟩,F.o⟩
def jg (h:bd):Bool:=ij h.ae&&ij h.old
def iv (h:bd):Bool:=decide ((h.ab.length:Int)=1+h.ae+h.old)
def ju (h:bd):Bool:=decide (1<=h.bg)&&decide (h.bg<=h.ae+1)&&decide (h.ae+1<=h.bk)&&decide (h.bk<=h.ae+h.old+1)&&decide (1<=h.next)
theorem zib (w:World) (F E:Value) (h:bd):Calls Tryz.prog 106 #[.agg #[F,.int .i64 h.ae,.int .i64 h.old,.int .i64 h.bg,.int .i64 h.bk,E,.int .i64 h.next]] w fun r w'=>r=.returned (.bool (jg h))/\Below w.heap.size w w':=by
 have u:∀o,Hid (Below w.heap.size w (w.alloc o)):=fun o=>(br _ _).alloc (nlq _) _;have D:Hid (∀W,Calls Tryz.prog 48 #[.int .i64 h.ae] W fun r w'=>r=.returned (.bool (ij h.ae))/\w'=W):=fun W=>zew W _;have A:Hid (∀W,Calls Tryz.prog 48 #[.int .i64 h.old] W fun r w'=>r=.returned (.bool (ij h.old))/\w'=W):=fun W=>zew W _;unfold jg;generalize ij h.ae=a at*;generalize ij h.old=b at*;go_enter Tryz.func106,Tryz.ntmps106;go_wp2_with fail;refine (D.o _).mono ?_;rintro r _ ⟨rfl,rfl⟩;cases a with
 | false=>
   go_wp2_with fail;go_ret;exact ⟨rfl,(u _).o⟩
 | true=>
   go_wp2_with fail;refine (A.o _).mono ?_;rintro r _ ⟨rfl,rfl⟩;go_wp2_with fail;go_ret;exact ⟨by simp,(u _).o⟩
theorem zic (w:World) (D:Option Addr) (E:Nat) (F:Value) (h:bd) (I:3<=h.ae/\h.ae<=2000) (G:3<=h.old/\h.old<=2000):Calls Tryz.prog 107 #[.agg #[.slice D h.ab.length E,.int .i64 h.ae,.int .i64 h.old,.int .i64 h.bg,.int .i64 h.bk,F,.int .i64 h.next]] w fun r w'=>r=.returned (.bool (iv h))/\Below w.heap.size w w':=by
 have u:∀o,Hid (Below w.heap.size w (w.alloc o)):=fun o=>(br _ _).alloc (nlq _) _;have J:IntKind.i64.wrap (1+h.ae)=1+h.ae:=ge _ (by omega) (by omega);have L:IntKind.i64.wrap (1+h.ae+h.old)=1+h.ae+h.old:=ge _ (by omega) (by omega);have A:Hid (iv h=((h.ab.length:Int)==1+h.ae+h.old)):=by show _=_;unfold iv;by_cases e:(h.ab.length:Int)=1+h.ae+h.old<;>simp [e]
 go_enter Tryz.func107,Tryz.ntmps107;go_wp2_with fail;go_ret;exact ⟨by rw [A.o];simp,(u _).o⟩
theorem zid (w:World) (L J:Value) (h:bd) (O:3<=h.ae/\h.ae<=2000) (N:3<=h.old/\h.old<=2000):Calls Tryz.prog 108 #[.agg #[L,.int .i64 h.ae,.int .i64 h.old,.int .i64 h.bg,.int .i64 h.bk,J,.int .i64 h.next]] w fun r w'=>r=.returned (.bool (ju h))/\Below w.heap.size w w':=by
 have D:∀o,Hid (Below w.heap.size w (w.alloc o)):=fun o=>(br _ _).alloc (nlq _) _;have V:IntKind.i64.wrap (h.ae+1)=h.ae+1:=ge _ (by omega) (by omega);have W:IntKind.i64.wrap (h.ae+h.old)=h.ae+h.old:=ge _ (by omega) (by omega);have X:IntKind.i64.wrap (h.ae+h.old+1)=h.ae+h.old+1:=ge _ (by omega) (by omega);have A:Hid (ju h=(decide (1<=h.bg)&&decide (h.bg<=h.ae+1)&&decide (h.ae+1<=h.bk)&&decide (h.bk<=h.ae+h.old+1)&&decide (1<=h.next))):=rfl;by_cases h1:1<=h.bg
 ·by_cases E:h.bg<=h.ae+1
  ·by_cases F:h.ae+1<=h.bk
   ·by_cases G:h.bk<=h.ae+h.old+1
    ·by_cases I:1<=h.next
     all_goals
      have u:=ag A.o;simp only [h1,E,F,G,I,decide_true,decide_false,Bool.and_true,Bool.and_false]at u;clear A;go_enter Tryz.func108,Tryz.ntmps108;go_wp2_with fail;go_ret;exact ⟨by rw [u.o];rfl,(D _).o⟩
    have u:=ag A.o;simp only [h1,E,F,G,decide_true,decide_false,Bool.and_true,Bool.and_false,Bool.false_and]at u;clear A;go_enter Tryz.func108,Tryz.ntmps108;go_wp2_with fail;go_ret;exact ⟨by rw [u.o];rfl,(D _).o⟩
   have u:=ag A.o;simp only [h1,E,F,decide_true,decide_false,Bool.and_true,Bool.and_false,Bool.false_and]at u;clear A;go_enter Tryz.func108,Tryz.ntmps108;go_wp2_with fail;go_ret;exact ⟨by rw [u.o];rfl,(D _).o⟩
  have u:=ag A.o;simp only [h1,E,decide_true,decide_false,Bool.and_false,Bool.false_and]at u;clear A;go_enter Tryz.func108,Tryz.ntmps108;go_wp2_with fail;go_ret;exact ⟨by rw [u.o];rfl,(D _).o⟩
 have u:=ag A.o;simp only [h1,decide_false,Bool.false_and]at u;clear A;go_enter Tryz.func108,Tryz.ntmps108;go_wp2_with fail;go_ret;exact ⟨by rw [u.o];rfl,(D _).o⟩
theorem zie (ts:List bp) {n:Int} {t:bp} (h:km ts n=some t):t∈ts/\t.loc=n:=by
 have key:∀(l:List bp) (u:Option bp),l.foldl (fun u t=>if t.loc=n then some t else u) u=some t->u=some t\/(t∈l/\t.loc=n):=by
  intro l;induction l with
  | nil=>exact fun u h=>Or.inl h
  | cons x l ih=>
    intro u h;rw [List.foldl_cons]at h;rcases ih _ h with h1 | h1
    ·by_cases e:x.loc=n
     ·rw [if_pos e]at h1;cases h1;exact Or.inr ⟨List.mem_cons_self,e⟩
     rw [if_neg e]at h1;exact Or.inl h1
    exact Or.inr ⟨List.mem_cons_of_mem _ h1.1,h1.2⟩
 rcases key ts none h with h | h
 ·cases h
 exact h
def gi (d:be) (h:bd) (ts:List bp) (n:Int):Bool:=!(km ts n).isSome|| !decide (h.ae<n)||((refsOf d.fields (nj ts n)).length:Int)==0
theorem zif (W:World) (X B:Nat) (vW vO kC kS kF kN kT vA:Value) (h:bd) (d:be) (ts:List bp) (hc:oo X B W vW vO kC kS kF kN kT vA h d ts) (hl:Lain d h ts) (P:Nat) (hP:W.cell? ⟨P,0,none⟩=some (.pointer (some ⟨X+1,0,none⟩))) (n:Int) (hn:(Lit.int .i64 n).wf=true):
 Calls Tryz.prog 176 #[.int .i64 n,.pointer (some ⟨P,0,none⟩)] W fun r W'=>r=.returned (.bool (gi d h ts n))/\Below W.heap.size W W':=by
 have aj:P<W.heap.size:=World.block_lt_of_cell? W _ hP;have L:=ag (zhu W X B _ _ _ _ _ _ _ vA h d ts hc n hn);have HC:=ag hc;have gl:=bz hc.blk;have F:Hid ((km ts n).isSome=true->FitT d (nj ts n)/\0<=(nj ts n).loc/\(nj ts n).fin<=h.ab.length):=fun hs=>by
  obtain ⟨t,ht⟩:=Option.isSome_iff_exists.1 hs;have e:nj ts n=t:=by unfold nj;rw [ht];rfl
  rw [e];exact hl.fit t (zie ts ht).1
 have av:=hl.ab;have E:Hid (gi d h ts n=(!(km ts n).isSome|| !decide (h.ae<n)||((refsOf d.fields (nj ts n)).length:Int)==0)):=rfl;unfold mx at L;clear hc hl hn;generalize nj ts n=t at*;generalize (km ts n).isSome=ok at*;go_enter Tryz.func176,Tryz.ntmps176;go_wp2_with fail;refine L.o.mono ?_;rintro r w1 ⟨rfl,Y⟩;have al:=Y.size;obtain ⟨A,I⟩:∃A,A=w1.alloc (.cells #[.int .i64 t.loc,.int .i64 t.tag,.int .i64 t.len,.int .i64 t.hash] 101):=⟨_,rfl⟩;have ac:Below w1.heap.size w1 A:=I ▸ (br _ _).alloc (nlq _) _;have D:Hid (Below W.heap.size W A):=Y.trans (ac.mono al);have Z:A.heap[w1.heap.size]? =some (.cells #[.int .i64 t.loc,.int .i64 t.tag,.int .i64 t.len,.int .i64 t.hash] 101 (0,0)):=I ▸ heap_alloc_new w1 _;have s0:=ba Z 0 (x:=.int .i64 t.loc) rfl;have s1:=ba Z 1 (x:=.int .i64 t.tag) rfl;have s2:=ba Z 2 (x:=.int .i64 t.len) rfl;have s3:=ba Z 3 (x:=.int .i64 t.hash) rfl;have l8:=bz Z;have p0:A.cell? ⟨P,0,none⟩=some (.pointer (some ⟨X+1,0,none⟩)):=(D.o.cell (p:=⟨P,0,none⟩) aj).trans hP;have aa:=ag (HC.o.below D.o);have ar:P<A.heap.size:=by have:=D.o.size;omega
 have ao:X+1<A.heap.size:=by have:=D.o.size;omega
 have G:Hid (∀V,Below A.heap.size A V->Calls Tryz.prog 177 #[.pointer (some ⟨X+1,0,none⟩),.int .i64 n] V fun r w'=>r=.returned (.bool (decide (h.ae<n)))/\w'=V):=fun V hV=>zez V B (X+1) _ _ _ _ _ _ _ h d (aa.o.below hV).gd n;have N:=ag I;have aq:P<w1.heap.size:=by omega
 clear Y ac I Z L HC hP;cases ok with
 | false=>
   have HR:Hid (gi d h ts n=true):=E.o.trans (by simp);clear F E;go_wp2_with fail;rw [<-N.o];go_quiet (fail);go_wp2_with fail;go_ret;exact ⟨by rw [HR.o];rfl,mp D.o _⟩
 | true=>
   obtain ⟨hf,au,ah⟩:=F.o rfl;have J:t.fin=t.loc+3+t.len:=rfl;have ap:=hf.lo;by_cases hy:h.ae<n
   ·have hd:decide (h.ae<n)=true:=by simp [hy]
    rw [hd]at G;have ai:Hid (∀V,Below A.heap.size A V->Calls Tryz.prog 178 #[.pointer (some ⟨X+1,0,none⟩),.agg #[.int .i64 t.loc,.int .i64 t.tag,.int .i64 t.len,.int .i64 t.hash]] V fun r w'=>Below V.heap.size V w'/\∃a c,r=.returned (.slice a (refsOf d.fields t).length c)):=fun V hV=>(zht V B (X+1) _ _ _ _ _ _ _ h d (aa.o.below hV).gd t hf (by omega) (by omega)).mono fun r w' ⟨hb,v,hr,ho⟩=>by obtain ⟨a,c,e⟩:=kh ho;exact ⟨hb,a,c,by rw [hr,e]⟩
    have HR:Hid (gi d h ts n=(((refsOf d.fields t).length:Int)==0)):=E.o.trans (by simp [hy]);generalize (refsOf d.fields t).length=rl at*;clear F E hf ah J;go_wp2_with fail;rw [<-N.o];refine wp_region_held_drew (S:=fun W'=>∀p:Addr,p.block<A.heap.size->W'.cell? p=A.cell? p) (by kernel_rfl) (fun p hp=>rfl) fun u=>?_;refine ta 0 (.bool true) rfl u ?_;refine ta 1 (.bool false) rfl u ?_;refine ta 2 (.bool false) rfl u ?_;refine ta 3 (.pointer (some ⟨P,0,none⟩)) rfl u ?_;refine ta 4 (.pointer (some ⟨X+1,0,none⟩)) rfl u ?_;refine ta 5 (.pointer (some ⟨X+1,0,none⟩)) rfl u ?_;refine ta 6 (.pointer (some ⟨X+1,0,none⟩)) rfl u ?_;refine ta 7 (.int .i64 n) rfl u ?_;refine wpAnyH_ready (rs:=[8]) (by kernel_rfl) (by simp) ?_;refine AllReadyH.cons rfl (fun K8 O=>?_) AllReadyH.nil;go_simp;refine (G.o _ (br _ _).drew).mono ?_;rintro r _ ⟨rfl,rfl⟩;refine O.o _ _ (fun p hp=>rfl) fun u=>?_;refine ta 9 (.bool false) rfl u ?_;refine ta 10 (.bool false) rfl u ?_;refine ta 11 (.bool false) rfl u ?_;refine ta 12 (.pointer (some ⟨P,0,none⟩)) rfl u ?_;refine ta 13 (.pointer (some ⟨X+1,0,none⟩)) rfl u ?_;refine ta 14 (.pointer (some ⟨X+1,0,none⟩)) rfl u ?_;refine ta 15 (.pointer (some ⟨X+1,0,none⟩)) rfl u ?_;refine ta 16 (.agg #[.int .i64 t.loc,.int .i64 t.tag,.int .i64 t.len,.int .i64 t.hash]) rfl u ?_;refine wpAnyH_ready (rs:=[17]) (by kernel_rfl) (by simp) ?_;refine AllReadyH.cons rfl (fun an ad=>?_) AllReadyH.nil;go_simp;refine (ai.o _ (br _ _).drew).mono ?_;rintro r w3 ⟨ak,a3,c3,rfl⟩;have af:Below A.heap.size A w3:=(br A.heap.size A).drew.trans ak;refine ad.o _ _ (fun p hp=>af.cell hp) fun u=>?_;refine ta 18 (.int .i64 (rl:Int)) rfl u ?_;refine ta 19 (.bool ((rl:Int)==0)) rfl u ?_;refine ta 20 (.bool ((rl:Int)==0)) rfl u ?_;refine ta 21 (.bool ((rl:Int)==0)) rfl u ?_;refine wpAnyH_done (by kernel_rfl) ?_ _;clear u;simp only [Act.put,p1q,p4q,p3q,p2q,p5q,p6q];go_wp2_with fail;go_ret;exact ⟨by rw [HR.o];rfl,D.o.trans (af.mono D.o.size)⟩
   have hd:decide (h.ae<n)=false:=by simp [hy]
   rw [hd]at G;have HR:Hid (gi d h ts n=true):=E.o.trans (by simp [hy]);clear F E hf ah J;go_wp2_with fail;rw [<-N.o];refine wp_region_held_drew (S:=fun W'=>∀p:Addr,p.block<A.heap.size->W'.cell? p=A.cell? p) (by kernel_rfl) (fun p hp=>rfl) fun u=>?_;refine ta 0 (.bool true) rfl u ?_;refine ta 1 (.bool false) rfl u ?_;refine ta 2 (.bool false) rfl u ?_;refine ta 3 (.pointer (some ⟨P,0,none⟩)) rfl u ?_;refine ta 4 (.pointer (some ⟨X+1,0,none⟩)) rfl u ?_;refine ta 5 (.pointer (some ⟨X+1,0,none⟩)) rfl u ?_;refine ta 6 (.pointer (some ⟨X+1,0,none⟩)) rfl u ?_;refine ta 7 (.int .i64 n) rfl u ?_;refine wpAnyH_ready (rs:=[8]) (by kernel_rfl) (by simp) ?_;refine AllReadyH.cons rfl (fun K8 O=>?_) AllReadyH.nil;go_simp;refine (G.o _ (br _ _).drew).mono ?_;rintro r _ ⟨rfl,rfl⟩;refine O.o _ _ (fun p hp=>rfl) fun u=>?_;refine ta 9 (.bool true) rfl u ?_;refine ta 10 (.bool true) rfl u ?_;refine ta 11 (.bool true) rfl u ?_;refine mw 12 rfl u ?_;refine mw 13 rfl u ?_;refine mw 14 rfl u ?_;refine mw 15 rfl u ?_;refine mw 16 rfl u ?_;refine mw 17 rfl u ?_;refine mw 18 rfl u ?_;refine mw 19 rfl u ?_;refine ta 20 (.bool true) rfl u ?_;refine ta 21 (.bool true) rfl u ?_;refine wpAnyH_done (by kernel_rfl) ?_ _;clear u;simp only [Act.put,p1q,p4q,p3q,p2q,p5q,p6q];go_wp2_with fail;go_ret;exact ⟨by rw [HR.o];rfl,D.o.drew⟩
theorem zig (w:World) (X B:Nat) (vW L kC kS kF kN kT Z:Value) (h:bd) (d:be) (ts:List bp) (hc:oo X B w vW L kC kS kF kN kT Z h d ts) (W:Lain d h ts) (J:∀x∈h.ap,(Lit.int .i64 x).wf=true):
 Calls Tryz.prog 115 #[.agg #[.pointer (some ⟨X+1,0,none⟩)]] w fun r w'=>r=.returned (.bool (!h.ap.any (gi d h ts)))/\Below w.heap.size w w':=by
 have aa:=np Tryz.prog;obtain ⟨A,I⟩:∃A,A=w.alloc (.cells #[.pointer (some ⟨X+1,0,none⟩)] 88):=⟨_,rfl⟩;have E:Below w.heap.size w A:=I ▸ (br _ _).alloc (nlq _) _;have ac:A.heap.size=w.heap.size+1:=by rw [I];simp
 have u:=hc.below E;have Y:A.cell? ⟨w.heap.size,0,none⟩=some (.pointer (some ⟨X+1,0,none⟩)):=by rw [I];simp [go_sem]
 have D:Hid (Calls Tryz.prog 174 #[L,.func (.func 176) #[] #[.pointer (some ⟨w.heap.size,0,none⟩)]] A fun r w'=>r=.returned (.bool (h.ap.any (gi d h ts)))/\Below A.heap.size A w'):=by refine zhy _ B L _ u.sO (by have:=u.le;have:=bz u.blk;omega) 176 #[] _ (gi d h ts) (fun args w=>by kernel_rfl) ?_;intro x hx V O;exact zif V X B _ _ _ _ _ _ _ Z h d ts (u.below O) W w.heap.size ((O.cell (p:=⟨w.heap.size,0,none⟩) (by show w.heap.size<_;omega)).trans Y) x (J x hx)
 have gl:=bz u.blk;have m5:=ba u.blk 5 (x:=L) rfl;have G:=ag E;obtain ⟨a,q,rfl,-⟩:=hc.sO;rw [I]at D m5 gl;clear hc u E Y W J;generalize h.ap.any (gi d h ts)=b at*;go_enter Tryz.func115,Tryz.ntmps115;go_wp2_with fail;refine D.o.mono ?_;rintro r w1 ⟨rfl,F⟩;rw [<-I]at F;have N:Hid (Below w.heap.size w w1):=G.o.trans (F.mono G.o.size);clear F D;go_wp2_with fail;go_ret;exact ⟨rfl,N.o⟩
structure HsD (hs:List Int) (D:DataW Unit):Prop where
 has:∀n,Maps.has D (jc n)=decide (n∈hs)
 le:Maps.size D<=hs.length
 eq:Maps.size D=hs.length↔hs.Nodup
theorem zih:HsD [] (.map []):=⟨fun n=>by simp;rfl,nlq _,by simp;rfl⟩
theorem zii (u:List Int) (x:Int):(u++ [x]).Nodup↔u.Nodup/\x∉u:=by
 rw [List.nodup_append];constructor
 ·rintro ⟨h1,-,E⟩;exact ⟨h1,fun G=>E x G x (by simp) rfl⟩
 rintro ⟨h1,D⟩;refine ⟨h1,by simp,fun a F b A e=>?_⟩;rw [List.mem_singleton]at A;subst A;subst e;exact D F
theorem zij {E:List Int} {D:DataW Unit} (h:HsD E D) (F:Tidy D) (x:Int) (v:DataW Unit):HsD (E++ [x]) (D.put (jc x) v):=by
 have L:=F.isMap;have u:Maps.size (D.put (jc x) v)=if Maps.has D (jc x)=true then Maps.size D else Maps.size D+1:=size_put F v
 have J:=h.le;have A:=h.eq;rw [h.has x]at u;refine ⟨fun n=>?_,?_,?_⟩
 ·by_cases e:x=n
  ·subst e;rw [has_put_same L (isIKey _)];simp
  rw [has_put_other (zfg (Ne.symm e)),h.has];have I:¬n=x:=fun q=>e q.symm;simp [I]
 ·rw [u,List.length_append];split<;>simp<;>omega
 rw [u,List.length_append,zii];by_cases G:x∈E
 ·simp [G];omega
 simp [G];exact A
theorem zik (w:World) (X B:Nat) (vW vO kC kS kF kN kT vA:Value) (h:bd) (d:be) (ts:List bp) (hc:oo X B w vW vO kC kS kF kN kT vA h d ts) (hl:ts.length<=1000000) (aj:∀t∈ts,(Lit.int .i64 t.hash).wf=true):
 Calls Tryz.prog 111 #[.agg #[.pointer (some ⟨X+1,0,none⟩)]] w fun r w'=>r=.returned (.bool (decide ((ts.map bp.hash).Nodup)))/\Below w.heap.size w w':=by
 have ay:=@run_makeMap Tryz.prog;obtain ⟨F,hW⟩:∃F,F=(w.alloc (.cells #[.pointer (some ⟨X+1,0,none⟩)] 88)).alloc (.map #[] 0):=⟨_,rfl⟩;have a0:F.heap.size=w.heap.size+1+1:=by rw [hW];simp
 have W:Below w.heap.size w F:=hW ▸ ((br _ _).alloc (nlq _) _).alloc (by simp) _;have aa:F.heap[w.heap.size]? =some (.cells #[.pointer (some ⟨X+1,0,none⟩)] 88 (0,0)):=by rw [hW];exact (Below.heap_alloc _ _ _ (by simp)).trans (heap_alloc_new w _)
 have ah:F.ownsMap Tryz.prog 3 jt (w.heap.size+1) 0 (.map []):=by have:=World.ownsMap_made (w.alloc (.cells #[.pointer (some ⟨X+1,0,none⟩)] 88)) Tryz.prog 3 jt;rw [<-hW]at this;simpa using this
 have G:=hc.below W;have HS:Hid (SL 4 RTh (· <w.heap.size) w vA ts):=hc.all hl;have gl:=bz hc.blk;have af:=bz G.blk;have I:=ba G.blk 12 (x:=vA) rfl;have p0:=ba aa 0 (x:=.pointer (some ⟨X+1,0,none⟩)) rfl;obtain ⟨a,q,rfl⟩:=hc.len;have ar:=ag G;have ak:=ag W;have aq:=ag aa;have HM:=ag ah;have ao:=ag aj;have HW:=ag hW;clear hc G W aa ah aj;rw [hW]at I p0 af;clear hW;go_enter Tryz.func111,Tryz.ntmps111;go_wp2_with fail;rw [<-HW.o];rw [<-HW.o]at I p0 af;go_loopw [13] (fun i wr=>∃(k:Nat) (D:DataW Unit),k<=ts.length/\i=.int .i64 k/\Hid (wr.ownsMap Tryz.prog 3 jt (w.heap.size+1) k D/\HsD ((ts.take k).map bp.hash) D/\Below (w.heap.size+1) F wr)) (fun i _=>ts.length - (intOf i).toNat)
 case atStart=>exact ⟨0,.map [],n0q _,rfl,HM.o,by simpa using zih,br _ _⟩
 case round=>
  obtain ⟨k,D,hk,rfl,A⟩:=hrel;have az:=A.o.2.2.size;have Y:Below w.heap.size w wr:=ak.o.trans (A.o.2.2.mono (by omega));by_cases ac:k<ts.length
  ·obtain ⟨bA,oA,rfl,aw,e0,e1,e2,e3⟩:=(HS.o.keptTh (Kp.below Y)).atTh k ac;have q1:(0:Int)<=k:=by omega
   have q2:(k:Int)<ts.length:=by omega
   have ai:=ao.o ts[k] (gm ac);have an:Hid ((ts.take (k+1)).map bp.hash=(ts.take k).map bp.hash++ [ts[k].hash]):=by show _=_;rw [List.take_succ_eq_append_getElem ac,List.map_append];rfl
   generalize ts[k]=t at*;obtain ⟨W7,E⟩:∃W7,W7=wr.alloc (.cells #[.int .i64 t.loc,.int .i64 t.tag,.int .i64 t.len,.int .i64 t.hash] 101):=⟨_,rfl⟩;have V:Below wr.heap.size wr W7:=E ▸ (br _ _).alloc (nlq _) _;have h7:W7.heap[wr.heap.size]? =some (.cells #[.int .i64 t.loc,.int .i64 t.tag,.int .i64 t.len,.int .i64 t.hash] 101 (0,0)):=E ▸ heap_alloc_new wr _;have ad:W7.ownsMap Tryz.prog 3 jt (w.heap.size+1) k D:=by rw [E];exact A.o.1.alloc _
   have N:keyOf Tryz.prog 3 (.int .i64 t.hash)=some (jc t.hash):=keyOf_int_mk Tryz.underlying3 ai;obtain ⟨ae,O,u,L⟩:=World.ownsMap.update (w:=W7) ad law3 Tryz.underlying183 (by unfold maxLen;omega) N (zfd t);unfold mx at O;have Z:=zij A.o.2.1 (ad.tidy law3) t.hash (jy t);rw [<-an.o]at Z;have J:Below (w.heap.size+1) F ae:=(A.o.2.2.trans (V.mono (by omega))).grown L (by have:=V.size;omega) (fun q e=>by cases e;exact nlq _);have s0:=ba h7 0 (x:=.int .i64 t.loc) rfl;have s1:=ba h7 1 (x:=.int .i64 t.tag) rfl;have s2:=ba h7 2 (x:=.int .i64 t.len) rfl;have s3:=ba h7 3 (x:=.int .i64 t.hash) rfl;have l7:=bz h7;have HF:Hid (ae.ownsMap Tryz.prog 3 jt (w.heap.size+1) (k+1) (D.put (jc t.hash) (jy t))/\HsD ((ts.take (k+1)).map bp.hash) (D.put (jc t.hash) (jy t))/\Below (w.heap.size+1) F ae):=⟨u,Z,J⟩;rw [E]at s0 s1 s2 s3 l7 O;clear V h7 ad N u L Z J E ai A;go_wp2_with fail;go_roundw
   case rel=>exact ⟨k+1,_,by omega,by go_num,HF.o⟩
   case measure=>simp [intOf];omega
  have ap:k=ts.length:=by omega
  have HR:Hid ((Maps.size D:Int)==(ts.length:Int)↔(ts.map bp.hash).Nodup):=by have:=A.o.2.1.eq;rw [ap,List.take_length,List.length_map]at this;show _↔_;rw [<-this];simp;omega
  have ax:=A.o.1.drew.len (e:=101) Tryz.underlying183;have p1:=(A.o.2.2.cell (p:=⟨w.heap.size,0,none⟩) (by show w.heap.size<_;omega)).trans p0;have m1:=(A.o.2.2.cell (p:=⟨X+1,12,none⟩) (by show X+1<_;omega)).trans I;have av:X+1<wr.heap.size:=by omega
  have au:w.heap.size<wr.heap.size:=by omega
  have al:=ag Y;clear A Y p0 I;generalize Maps.size D=sz at*;go_wp2_with fail;go_region
  all_goals
   go_wp2_with fail;go_ret
  all_goals refine ⟨?_,al.o.drew⟩
  have hr:=HR.o;show Ending.returned (.bool ((sz:Int)==(ts.length:Int)))=_;congr 2;by_cases hd:(ts.map bp.hash).Nodup
  ·rw [decide_eq_true hd];exact hr.2 hd
  rw [decide_eq_false hd];exact Bool.eq_false_iff.2 fun e=>hd (hr.1 e)
end Go.Proofs.YtjdnmblggdobgaaGreat
