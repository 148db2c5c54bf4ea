import Derived.Test.YtjdnmblggdobgaaGreatJHpCHpH
import Derived.Laws.EntriesVeiled
set_option maxHeartbeats 4000000
set_option maxRecDepth 100000
namespace Go.Proofs.YtjdnmblggdobgaaGreat
open Go.Maps Go.RowKit Tryz List Or World
variable (W w:World) (E:Option Addr) (F:Nat) (G:Value) (X B:Nat) (vW vO L V N O Y Z kC kS kF kN kT vA:Value) (h:ar) (d:ax) (ts:List bq)
theorem qc.len {X B:Nat} {w:World} {L J D G E F I A:Value} {h:ar} {d:ax} {ts:List bq} (c:qc X B w L J D G E F I A h d ts):∃a q,A=.slice a ts.length q:=ku c.row
theorem qc.all {X B:Nat} {w:World} {V O G L I J N D:Value} {h:ar} {d:ax} {ts:List bq} (c:qc X B w V O G L I J N D h d ts) (F:ts.length<=1000000):SL 4 Df (· <w.heap.size) w D ts:=
 (zhn c.row F).mono (fun b A=>by obtain ⟨_,E,_,_,A,_⟩:=A;exact bz A) (fun _ _ h=>h)
def jx (h:ar) (x:bq):Bool:=decide (x.hash<1)||decide (h.next<=x.hash)
theorem zhv (hc:qc X B W vW vO L V N O Y Z h d ts) (P:Nat) (E:W.cell? ⟨P,0,none⟩=some (.p (X+1))) (x:bq):
 Calls prog 169 #[.agg #[.i x.loc,.i x.tag,.i x.len,.i x.hash],.p P] W fun r I=>r=.returned (.bool (jx h x))/\Bl W I:=by
 have A:Hid (Bl W (W.alloc (.cells #[.i x.loc,.i x.tag,.i x.len,.i x.hash] 101))):=(br _ _).alloc (nlq _) _;have F:P<W.heap.size:=block_lt_of_cell? W _ E;have J:=bz hc.blk;have c6:(W.alloc (.cells #[.i x.loc,.i x.tag,.i x.len,.i x.hash] 101)).cell? ⟨X+1,6,none⟩=some (.i h.next):=(A.o.cell (p:=⟨X+1,6,none⟩) J).trans (bg hc.blk 6 rfl);have p0:(W.alloc (.cells #[.i x.loc,.i x.tag,.i x.len,.i x.hash] 101)).cell? ⟨P,0,none⟩=some (.p (X+1)):=(A.o.cell (p:=⟨P,0,none⟩) F).trans E;have D:Hid (jx h x=(decide (x.hash<1)||decide (h.next<=x.hash))):=rfl;clear hc E;generalize h.next=nx at*;by_cases h1:x.hash<1
 ·have G:decide (x.hash<1)=true:=by simp [h1]
  rw [D.o,G];clear D;go_enter func169,ntmps169;go_wp2_with fail;go_quiet (fail);go_wp2_with fail;go_ret;exact ⟨rfl,pa A.o _⟩
 have G:decide (x.hash<1)=false:=by simp [h1]
 rw [D.o,G];clear D;go_enter func169,ntmps169;go_wp2_with fail;go_quiet (fail);go_wp2_with fail;go_ret;exact ⟨by simp,pa A.o _⟩
theorem zhw (Z kN kT I:Value) (h:ar) (d:ax) (ts:List bq) (hc:qc X B w vW vO Y kS Z kN kT I h d ts) (N:ts.length<=1000000):
 Calls prog 110 #[.agg #[.p (X+1)]] w fun r w'=>r=.returned (.bool (!ts.any (jx h)))/\Bl w w':=by
 have O:=ri prog;have D:Bl w (w.alloc (.cells #[.p (X+1)] 88)):=(br _ _).alloc (nlq _) _;have A:=hc.below D;have V:(w.alloc (.cells #[.p (X+1)] 88)).cell? ⟨w.heap.size,0,none⟩=some (.p (X+1)):=by simp [go_sem]
 have F:Hid (Calls prog 168 #[I,.func (.func 169) #[] #[.p w.heap.size]] (w.alloc (.cells #[.p (X+1)] 88)) fun r w'=>r=.returned (.bool (ts.any (jx h)))/\Below (w.alloc (.cells #[.p (X+1)] 88)).heap.size (w.alloc (.cells #[.p (X+1)] 88)) w'):=by refine zhr _ _ I ts (A.all N) (nlq _) 169 #[] _ (jx h) (fun args w=>by kernel_rfl) ?_;intro x hx W L;exact zhv W X B _ _ _ _ _ _ _ I h d ts (A.below L) w.heap.size ((L.cell (p:=⟨w.heap.size,0,none⟩) (by simp)).trans V) x
 have gl:=bz A.blk;have aa:=bg A.blk 12 (x:=I) rfl;have E:=aj D;obtain ⟨a,q,rfl⟩:=hc.len;clear hc A D;generalize ts.any (jx h)=b at*;go_enter func110,ntmps110;go_wp2_with fail;refine F.o.mono ?_;rintro r w1 ⟨rfl,G⟩;have J:Hid (Bl w w1):=E.o.trans (G.mono E.o.size);clear G F;go_wp2_with fail;go_ret;exact ⟨rfl,J.o⟩
theorem zhx (L V N O Y F:Value) (h:ar) (d:ax) (ts:List bq) (hc:qc X B W vW Z L V N O Y F h d ts) (P:Nat) (I:W.cell? ⟨P,0,none⟩=some (.p (X+1))) (n:Int) (E:(Lit.int .i64 n).wf=true):
 Calls prog 170 #[.i n,.p P] W fun r G=>r=.returned (.bool (!cq ts n))/\Bl W G:=by
 have D:=aj (zhm W X B _ _ _ _ _ _ _ F h d ts hc n E);have J:P<W.heap.size:=block_lt_of_cell? W _ I;clear hc E;generalize cq ts n=b at*;go_enter func170,ntmps170;go_wp2_with fail;refine D.o.mono ?_;rintro r w1 ⟨rfl,A⟩;clear D;go_wp2_with fail;go_ret;exact ⟨rfl,A⟩
structure vw (d:ax) (h:ar) (ts:List bq):Prop where
 len:ts.length<=1000000
 ab:h.ab.length<=100000
 wf:∀x∈h.ab,(Lit.int .i64 x).wf=true
 fit:∀t∈ts,qf d t/\0<=t.loc/\t.fin<=h.ab.length
theorem vw.wdf {d:ax} {h:ar} {ts:List bq} (l:vw d h ts) (a:Int):(Lit.int .i64 (wd h.ab a)).wf=true:=by
 unfold wd;cases hx:h.ab[a.toNat]? with
 | none=>decide
 | some x=>exact l.wf x (mem_of_getElem? hx)
theorem zhy (hc:qc X B W vW vO kC kS kF kN kT vA h d ts) (N:vw d h ts) (P Q:Nat) (Y:W.cell? ⟨P,0,none⟩=some (.p (X+1))) (hQ:W.cell? ⟨Q,0,none⟩=some (.func (.func 170) #[] #[.p P])) (x:bq) (hx:x∈ts):
 Calls prog 171 #[.agg #[.i x.loc,.i x.tag,.i x.len,.i x.hash],.p P,.p Q] W fun r O=>r=.returned (.bool (fx d.fields h.ab x fun n=>!cq ts n))/\Bl W O:=by
 obtain ⟨D,L⟩:∃D,D=W.alloc (.cells #[.i x.loc,.i x.tag,.i x.len,.i x.hash] 101):=⟨_,rfl⟩;have A:Bl W D:=L ▸ (br _ _).alloc (nlq _) _;have Z:P<W.heap.size:=block_lt_of_cell? W _ Y;have aa:Q<W.heap.size:=block_lt_of_cell? W _ hQ;have gl:=bz hc.blk;have E:D.heap[W.heap.size]? =some (.cells #[.i x.loc,.i x.tag,.i x.len,.i x.hash] 101 (0,0)):=L ▸ heap_alloc_new W _;have p0:D.cell? ⟨P,0,none⟩=some (.p (X+1)):=(A.cell (p:=⟨P,0,none⟩) Z).trans Y;have q0:D.cell? ⟨Q,0,none⟩=some (.func (.func 170) #[] #[.p P]):=(A.cell (p:=⟨Q,0,none⟩) aa).trans hQ;have s0:=bg E 0 (x:=.i x.loc) rfl;have s1:=bg E 1 (x:=.i x.tag) rfl;have s2:=bg E 2 (x:=.i x.len) rfl;have s3:=bg E 3 (x:=.i x.hash) rfl;have ls:=bz E;obtain ⟨hf,h1,h2⟩:=N.fit x hx;have HC:Hid (∀V,Bl D V->Calls prog 172 #[.p (X+1),.agg #[.i x.loc,.i x.tag,.i x.len,.i x.hash],.func (.func 170) #[] #[.p P]] V fun r w'=>r=.returned (.bool (fx d.fields h.ab x fun n=>!cq ts n))/\Bl V w'):=by intro V hV;have J:=(hc.below A).below hV;refine zhu V B (X+1) _ _ _ _ _ _ _ h d J.gd x hf h1 h2 N.ab 170 #[] _ (fun n=>!cq ts n) (fun args w=>by kernel_rfl) ?_;intro a ha V2 G;exact zhx V2 X B _ _ _ _ _ _ _ vA h d ts (J.below G) P ((G.cell (p:=⟨P,0,none⟩) (by show P<_;have:=A.size;have:=hV.size;omega)).trans ((hV.cell (p:=⟨P,0,none⟩) (by show P<_;have:=A.size;omega)).trans p0)) _ (N.wdf a)
 have F:=aj A;have HW:=aj L;have ad:P<D.heap.size:=by have:=A.size;omega
 have ae:Q<D.heap.size:=by have:=A.size;omega
 clear hc N Y hQ A L E hf h1 h2 hx;generalize fx d.fields h.ab x (fun n=>!cq ts n)=b at*;go_enter func171,ntmps171;go_wp2_with fail;rw [<-HW.o]
 go_region_held3 (fun O=>∀p:Addr,p.block<D.heap.size->O.cell? p=D.cell? p) (exact fun p hp=>Below.cell (B:=D.heap.size) (w:=D) (by repeat (first | assumption | exact br _ _ | refine Below.drew ?_)) hp) (first | (refine (HC.o _ ?_).mono ?_;(exact (br _ _).drew);rintro r w2 ⟨rfl,I⟩;have ac:Bl D w2:=(br D.heap.size D).drew.trans I;clear I))
 all_goals
  rename_i hS1;clear hS1;go_wp2_with fail;go_ret;exact ⟨rfl,F.o.trans (ac.mono F.o.size)⟩
theorem zhz (L:Value) (h:ar) (d:ax) (ts:List bq) (hc:qc X B w vW vO kC kS kF kN kT L h d ts) (W:vw d h ts):
 Calls prog 112 #[.agg #[.p (X+1)]] w fun r w'=>r=.returned (.bool (!ts.any fun x=>fx d.fields h.ab x fun n=>!cq ts n))/\Bl w w':=by
 have aa:=ri prog;obtain ⟨D,I⟩:∃D,D=(w.alloc (.cells #[.p (X+1)] 88)).alloc (.cells #[.func (.func 170) #[] #[.p w.heap.size]] 79):=⟨_,rfl⟩;have ac:D.heap.size=w.heap.size+2:=by rw [I];simp
 have F:Bl w D:=I ▸ ((br _ _).alloc (nlq _) _).alloc (by simp) _;have A:=hc.below F;have Z:D.cell? ⟨w.heap.size,0,none⟩=some (.p (X+1)):=by rw [I];simp [go_sem]
 have hq:D.cell? ⟨w.heap.size+1,0,none⟩=some (.func (.func 170) #[] #[.p w.heap.size]):=by rw [I];simp [go_sem]
 have E:Hid (Calls prog 168 #[L,.func (.func 171) #[] #[.p w.heap.size,.p (w.heap.size+1)]] D fun r w'=>r=.returned (.bool (ts.any fun x=>fx d.fields h.ab x fun n=>!cq ts n))/\Bl D w'):=by refine zhr _ _ L ts (A.all W.len) (nlq _) 171 #[] _ (fun x=>fx d.fields h.ab x fun n=>!cq ts n) (fun args w=>by kernel_rfl) ?_;intro x hx V O;exact zhy V X B _ _ _ _ _ _ _ L h d ts (A.below O) W w.heap.size (w.heap.size+1) ((O.cell (p:=⟨w.heap.size,0,none⟩) (by show w.heap.size<_;omega)).trans Z) ((O.cell (p:=⟨w.heap.size+1,0,none⟩) (by show w.heap.size+1<_;omega)).trans hq) x hx
 have gl:=bz A.blk;have Y:=bg A.blk 12 (x:=L) rfl;have J:=aj F;obtain ⟨a,q,rfl⟩:=hc.len;rw [I]at E Y gl;clear hc A F Z hq W;generalize (ts.any fun x=>fx d.fields h.ab x fun n=>!cq ts n)=b at*;go_enter func112,ntmps112;go_wp2_with fail;refine E.o.mono ?_;rintro r w1 ⟨rfl,G⟩;rw [<-I]at G;have N:Hid (Bl w w1):=J.o.trans (G.mono J.o.size);clear G E;go_wp2_with fail;go_ret;exact ⟨rfl,N.o⟩
def nu (l:List Int) (k:Nat):Prop:=∀j,0<j->j<k->wd l ((j:Int) - 1)<wd l j
theorem zh0 {l:List Int} {k:Nat} (h:nu l k) (A:0<k->wd l ((k:Int) - 1)<wd l k):nu l (k+1):=fun j h0 D=>by
 by_cases e:j=k
 ·subst e;exact A h0
 exact h j h0 (by omega)
theorem zh1 (hc:qc X B w vW vO kC kS kF kN kT vA h d ts):
 Calls prog 114 #[.agg #[.p (X+1)]] w fun r w'=>(∃b,r=.returned (.bool b)/\(b=true↔nu h.ap h.ap.length))/\Bl w w':=by
 have D:Bl w (w.alloc (.cells #[.p (X+1)] 88)):=(br _ _).alloc (nlq _) _;have A:=hc.below D;have hp:(w.alloc (.cells #[.p (X+1)] 88)).cell? ⟨w.heap.size,0,none⟩=some (.p (X+1)):=by simp [go_sem]
 have gl:=bz A.blk;have HS:=aj A.sO;have m5:=bg A.blk 5 (x:=vO) rfl;obtain ⟨ao,ca,rfl,-,Z,-⟩:=hc.sO;unfold maxLen at Z;have G:=aj D;clear hc A D;go_enter func114,ntmps114;go_wp2_with fail;go_loopw [13] (fun i wr=>∃k:Nat,k<=h.ap.length/\i=.i k/\wr=w.alloc (.cells #[.p (X+1)] 88)/\Hid (nu h.ap k)) (fun i _=>h.ap.length - (intOf i).toNat)
 case atStart=>exact ⟨0,n0q _,rfl,rfl,fun j _ F=>by omega⟩
 case round=>
  obtain ⟨k,hk,rfl,rfl,O⟩:=hrel;by_cases E:k<h.ap.length
  ·obtain ⟨bW,oW,rfl,ac,eW⟩:=HS.o.atI k E;have q1:(0:Int)<=k:=by omega
   have q2:(k:Int)<h.ap.length:=by omega
   have J:Hid (h.ap[k]=wd h.ap k):=(qm E).symm;by_cases ad:0<(k:Int)
   ·obtain ⟨j,F⟩:∃j:Nat,(k:Int) - 1=j:=⟨k - 1,by omega⟩;have L:j<h.ap.length:=by omega
    obtain ⟨bV,oV,e,aa,eV⟩:=HS.o.atI j L;obtain ⟨rfl,rfl⟩:bV=bW/\oV=oW:=by injection e with e;injection e with e1 e2;exact ⟨e1.symm,e2.symm⟩
    have I:Hid (h.ap[j]=wd h.ap ((k:Int) - 1)):=by show _=_;rw [F];exact (qm L).symm
    have af:IntKind.i64.wrap ((k:Int) - 1)=(j:Int):=by rw [F];exact gw _ (by omega) (by omega)
    have q3:(0:Int)<=j:=by omega
    have q4:(j:Int)<h.ap.length:=by omega
    have HJ:=aj F;by_cases ae:h.ap[k]<=h.ap[j]
    ·have N:Hid (¬nu h.ap h.ap.length):=fun W=>by
      have:=W k (by omega) E;rw [<-J.o,<-I.o]at this;omega
     generalize h.ap[k]=x at*;generalize h.ap[j]=y at*;clear F e;go_wp2_with fail;go_ret;exact ⟨⟨false,rfl,by simp;exact N.o⟩,G.o⟩
    have V:=aj (zh0 O.o (fun _=>by rw [<-J.o,<-I.o];omega));generalize h.ap[k]=x at*;generalize h.ap[j]=y at*;clear F e;go_wp2_with fail;go_roundw
    case rel=>exact ⟨k+1,by omega,by go_num,trivial,V.o⟩
    case measure=>simp [intOf];omega
   have V:=aj (zh0 O.o (fun W=>absurd W (by omega)));generalize h.ap[k]=x at*;go_wp2_with fail;go_roundw
   case rel=>exact ⟨k+1,by omega,by go_num,trivial,V.o⟩
   case measure=>simp [intOf];omega
  have Y:k=h.ap.length:=by omega
  have N:Hid (nu h.ap h.ap.length):=Y ▸ O.o;go_wp2_with fail;go_ret;exact ⟨⟨true,rfl,by simp;exact N.o⟩,G.o⟩
def kj (h:ar):Bool:=jd h.ae&&jd h.old
def ju (h:ar):Bool:=decide ((h.ab.length:Int)=1+h.ae+h.old)
def lq (h:ar):Bool:=decide (1<=h.bk)&&decide (h.bk<=h.ae+1)&&decide (h.ae+1<=h.be)&&decide (h.be<=h.ae+h.old+1)&&decide (1<=h.next)
theorem zh2 (F:Value) (h:ar):Calls prog 106 #[.agg #[G,.i h.ae,.i h.old,.i h.bk,.i h.be,F,.i h.next]] w fun r w'=>r=.returned (.bool (kj h))/\Bl w w':=by
 have A:∀o,Hid (Bl w (w.alloc o)):=fun o=>(br _ _).alloc (nlq _) _;have E:Hid (∀W,Calls prog 48 #[.i h.ae] W fun r w'=>r=.returned (.bool (jd h.ae))/\w'=W):=fun W=>zen W _;have D:Hid (∀W,Calls prog 48 #[.i h.old] W fun r w'=>r=.returned (.bool (jd h.old))/\w'=W):=fun W=>zen W _;unfold kj;generalize jd h.ae=a at*;generalize jd h.old=b at*;go_enter func106,ntmps106;go_wp2_with fail;refine (E.o _).mono ?_;rintro r _ ⟨rfl,rfl⟩;cases a
 ·go_wp2_with fail;go_ret;exact ⟨rfl,(A _).o⟩
 go_wp2_with fail;refine (D.o _).mono ?_;rintro r _ ⟨rfl,rfl⟩;go_wp2_with fail;go_ret;exact ⟨by simp,(A _).o⟩
theorem zh3 (J:3<=h.ae/\h.ae<=2000) (I:3<=h.old/\h.old<=2000):Calls prog 107 #[.agg #[.slice E h.ab.length F,.i h.ae,.i h.old,.i h.bk,.i h.be,G,.i h.next]] w fun r w'=>r=.returned (.bool (ju h))/\Bl w w':=by
 have A:∀o,Hid (Bl w (w.alloc o)):=fun o=>(br _ _).alloc (nlq _) _;have L:IntKind.i64.wrap (1+h.ae)=1+h.ae:=gw _ (by omega) (by omega);have N:IntKind.i64.wrap (1+h.ae+h.old)=1+h.ae+h.old:=gw _ (by omega) (by omega);have D:Hid (ju h=((h.ab.length:Int)==1+h.ae+h.old)):=by show _=_;unfold ju;by_cases e:(h.ab.length:Int)=1+h.ae+h.old<;>simp [e]
 go_enter func107,ntmps107;go_wp2_with fail;go_ret;exact ⟨by rw [D.o];simp,(A _).o⟩
theorem zh4 (L:Value) (h:ar) (V:3<=h.ae/\h.ae<=2000) (O:3<=h.old/\h.old<=2000):Calls prog 108 #[.agg #[N,.i h.ae,.i h.old,.i h.bk,.i h.be,L,.i h.next]] w fun r w'=>r=.returned (.bool (lq h))/\Bl w w':=by
 have E:∀o,Hid (Bl w (w.alloc o)):=fun o=>(br _ _).alloc (nlq _) _;have W:IntKind.i64.wrap (h.ae+1)=h.ae+1:=gw _ (by omega) (by omega);have X:IntKind.i64.wrap (h.ae+h.old)=h.ae+h.old:=gw _ (by omega) (by omega);have Y:IntKind.i64.wrap (h.ae+h.old+1)=h.ae+h.old+1:=gw _ (by omega) (by omega);have D:Hid (lq h=(decide (1<=h.bk)&&decide (h.bk<=h.ae+1)&&decide (h.ae+1<=h.be)&&decide (h.be<=h.ae+h.old+1)&&decide (1<=h.next))):=rfl;by_cases h1:1<=h.bk
 ·by_cases F:h.bk<=h.ae+1
  ·by_cases G:h.ae+1<=h.be
   ·by_cases I:h.be<=h.ae+h.old+1
    ·by_cases J:1<=h.next
     all_goals
      have A:=aj D.o;simp only [h1,F,G,I,J,decide_true,decide_false,Bool.and_true,Bool.and_false]at A;clear D;go_enter func108,ntmps108;go_wp2_with fail;go_ret;exact ⟨by rw [A.o];rfl,(E _).o⟩
    have A:=aj D.o;simp only [h1,F,G,I,decide_true,decide_false,Bool.and_true,Bool.and_false,Bool.false_and]at A;clear D;go_enter func108,ntmps108;go_wp2_with fail;go_ret;exact ⟨by rw [A.o];rfl,(E _).o⟩
   have A:=aj D.o;simp only [h1,F,G,decide_true,decide_false,Bool.and_true,Bool.and_false,Bool.false_and]at A;clear D;go_enter func108,ntmps108;go_wp2_with fail;go_ret;exact ⟨by rw [A.o];rfl,(E _).o⟩
  have A:=aj D.o;simp only [h1,F,decide_true,decide_false,Bool.and_false,Bool.false_and]at A;clear D;go_enter func108,ntmps108;go_wp2_with fail;go_ret;exact ⟨by rw [A.o];rfl,(E _).o⟩
 have A:=aj D.o;simp only [h1,decide_false,Bool.false_and]at A;clear D;go_enter func108,ntmps108;go_wp2_with fail;go_ret;exact ⟨by rw [A.o];rfl,(E _).o⟩
theorem Fr {n:Int} {t:bq} (h:mw ts n=some t):t∈ts/\t.loc=n:=by
 have key:∀(l:List bq) (A:Option bq),l.foldl (fun A t=>if t.loc=n then some t else A) A=some t->A=some t\/(t∈l/\t.loc=n):=by
  intro l;induction l with
  | nil=>exact fun A h=>inl h
  | cons x l ih=>
    intro A h;rw [foldl_cons]at h;rcases ih _ h with h1 | h1
    ·by_cases e:x.loc=n
     ·rw [if_pos e]at h1;cases h1;exact inr ⟨mem_cons_self,e⟩
     rw [if_neg e]at h1;exact inl h1
    exact inr ⟨mem_cons_of_mem _ h1.1,h1.2⟩
 rcases key ts none h with h | h
 ·cases h
 exact h
def ib (d:ax) (h:ar) (ts:List bq) (n:Int):Bool:=!(mw ts n).isSome|| !decide (h.ae<n)||((refsOf d.fields (qp ts n)).length:Int)==0
theorem zh6 (hc:qc X B W vW vO kC kS kF kN kT vA h d ts) (hl:vw d h ts) (P:Nat) (hP:W.cell? ⟨P,0,none⟩=some (.p (X+1))) (n:Int) (hn:(Lit.int .i64 n).wf=true):
 Calls prog 176 #[.i n,.p P] W fun r W'=>r=.returned (.bool (ib d h ts n))/\Bl W W':=by
 have ak:P<W.heap.size:=block_lt_of_cell? W _ hP;have N:=aj (zhl W X B _ _ _ _ _ _ _ vA h d ts hc n hn);have HC:=aj hc;have gl:=bz hc.blk;have G:Hid ((mw ts n).isSome=true->qf d (qp ts n)/\0<=(qp ts n).loc/\(qp ts n).fin<=h.ab.length):=fun hs=>by
  obtain ⟨t,ht⟩:=Option.isSome_iff_exists.1 hs;have e:qp ts n=t:=by unfold qp;rw [ht];rfl
  rw [e];exact hl.fit t (Fr ts ht).1
 have a0:=hl.ab;have F:Hid (ib d h ts n=(!(mw ts n).isSome|| !decide (h.ae<n)||((refsOf d.fields (qp ts n)).length:Int)==0)):=rfl;unfold nw at N;clear hc hl hn;generalize qp ts n=t at*;generalize (mw ts n).isSome=ok at*;go_enter func176,ntmps176;go_wp2_with fail;refine N.o.mono ?_;rintro r w1 ⟨rfl,Z⟩;have am:=Z.size;obtain ⟨E,J⟩:∃E,E=w1.alloc (.cells #[.i t.loc,.i t.tag,.i t.len,.i t.hash] 101):=⟨_,rfl⟩;have ac:Bl w1 E:=J ▸ (br _ _).alloc (nlq _) _;have D:Hid (Bl W E):=Z.trans (ac.mono am);have h8:E.heap[w1.heap.size]? =some (.cells #[.i t.loc,.i t.tag,.i t.len,.i t.hash] 101 (0,0)):=J ▸ heap_alloc_new w1 _;have s0:=bg h8 0 (x:=.i t.loc) rfl;have s1:=bg h8 1 (x:=.i t.tag) rfl;have s2:=bg h8 2 (x:=.i t.len) rfl;have s3:=bg h8 3 (x:=.i t.hash) rfl;have l8:=bz h8;have p0:E.cell? ⟨P,0,none⟩=some (.p (X+1)):=(D.o.cell (p:=⟨P,0,none⟩) ak).trans hP;have aa:=aj (HC.o.below D.o);have ay:P<E.heap.size:=by have:=D.o.size;omega
 have au:X+1<E.heap.size:=by have:=D.o.size;omega
 have I:Hid (∀V,Bl E V->Calls prog 177 #[.p (X+1),.i n] V fun r w'=>r=.returned (.bool (decide (h.ae<n)))/\w'=V):=fun V hV=>zeq V B (X+1) _ _ _ _ _ _ _ h d (aa.o.below hV).gd n;have O:=aj J;have aw:P<w1.heap.size:=by omega
 clear Z ac J h8 N HC hP;cases ok
 ·have HR:Hid (ib d h ts n=true):=F.o.trans (by simp);clear G F;go_wp2_with fail;rw [<-O.o];go_quiet (fail);go_wp2_with fail;go_ret;exact ⟨by rw [HR.o];rfl,pa D.o _⟩
 obtain ⟨hf,az,ah⟩:=G.o rfl;have L:t.fin=t.loc+3+t.len:=rfl;have av:=hf.lo;by_cases hy:h.ae<n
 ·have hd:decide (h.ae<n)=true:=by simp [hy]
  rw [hd]at I;have ai:Hid (∀V,Bl E V->Calls prog 178 #[.p (X+1),.agg #[.i t.loc,.i t.tag,.i t.len,.i t.hash]] V fun r w'=>Bl V w'/\∃a c,r=.returned (.slice a (refsOf d.fields t).length c)):=fun V hV=>(zhk V B (X+1) _ _ _ _ _ _ _ h d (aa.o.below hV).gd t hf (by omega) (by omega)).mono fun r w' ⟨hb,v,hr,ho⟩=>by obtain ⟨a,c,e⟩:=ku ho;exact ⟨hb,a,c,by rw [hr,e]⟩
  have HR:Hid (ib d h ts n=(((refsOf d.fields t).length:Int)==0)):=F.o.trans (by simp [hy]);generalize (refsOf d.fields t).length=rl at*;clear G F hf ah L;go_wp2_with fail;rw [<-O.o];refine wp_region_held_drew (S:=fun W'=>∀p:Addr,p.block<E.heap.size->W'.cell? p=E.cell? p) (by kernel_rfl) (fun p hp=>rfl) fun A=>?_;refine ta 0 (.bool true) rfl A ?_;refine ta 1 (.bool false) rfl A ?_;refine ta 2 (.bool false) rfl A ?_;refine ta 3 (.p P) rfl A ?_;refine ta 4 (.p (X+1)) rfl A ?_;refine ta 5 (.p (X+1)) rfl A ?_;refine ta 6 (.p (X+1)) rfl A ?_;refine ta 7 (.i n) rfl A ?_;refine wpAnyH_ready (rs:=[8]) (by kernel_rfl) (by simp) ?_;refine AllReadyH.cons rfl (fun K8 Y=>?_) AllReadyH.nil;go_simp;refine (I.o _ (br _ _).drew).mono ?_;rintro r _ ⟨rfl,rfl⟩;refine Y.o _ _ (fun p hp=>rfl) fun A=>?_;refine ta 9 (.bool false) rfl A ?_;refine ta 10 (.bool false) rfl A ?_;refine ta 11 (.bool false) rfl A ?_;refine ta 12 (.p P) rfl A ?_;refine ta 13 (.p (X+1)) rfl A ?_;refine ta 14 (.p (X+1)) rfl A ?_;refine ta 15 (.p (X+1)) rfl A ?_;refine ta 16 (.agg #[.i t.loc,.i t.tag,.i t.len,.i t.hash]) rfl A ?_;refine wpAnyH_ready (rs:=[17]) (by kernel_rfl) (by simp) ?_;refine AllReadyH.cons rfl (fun an ad=>?_) AllReadyH.nil;go_simp;refine (ai.o _ (br _ _).drew).mono ?_;rintro r w3 ⟨al,a3,c3,rfl⟩;have af:Bl E w3:=(br E.heap.size E).drew.trans al;refine ad.o _ _ (fun p hp=>af.cell hp) fun A=>?_;refine ta 18 (.i (rl:Int)) rfl A ?_;refine ta 19 (.bool ((rl:Int)==0)) rfl A ?_;refine ta 20 (.bool ((rl:Int)==0)) rfl A ?_;refine ta 21 (.bool ((rl:Int)==0)) rfl A ?_;refine wpAnyH_done (by kernel_rfl) ?_ _;clear A;simp only [Act.put,p1q,p4q,p3q,p2q,p5q,p6q];go_wp2_with fail;go_ret;exact ⟨by rw [HR.o];rfl,D.o.trans (af.mono D.o.size)⟩
 have hd:decide (h.ae<n)=false:=by simp [hy]
 rw [hd]at I;have HR:Hid (ib d h ts n=true):=F.o.trans (by simp [hy]);clear G F hf ah L;go_wp2_with fail;rw [<-O.o];refine wp_region_held_drew (S:=fun W'=>∀p:Addr,p.block<E.heap.size->W'.cell? p=E.cell? p) (by kernel_rfl) (fun p hp=>rfl) fun A=>?_;refine ta 0 (.bool true) rfl A ?_;refine ta 1 (.bool false) rfl A ?_;refine ta 2 (.bool false) rfl A ?_;refine ta 3 (.p P) rfl A ?_;refine ta 4 (.p (X+1)) rfl A ?_;refine ta 5 (.p (X+1)) rfl A ?_;refine ta 6 (.p (X+1)) rfl A ?_;refine ta 7 (.i n) rfl A ?_;refine wpAnyH_ready (rs:=[8]) (by kernel_rfl) (by simp) ?_;refine AllReadyH.cons rfl (fun K8 Y=>?_) AllReadyH.nil;go_simp;refine (I.o _ (br _ _).drew).mono ?_;rintro r _ ⟨rfl,rfl⟩;refine Y.o _ _ (fun p hp=>rfl) fun A=>?_;refine ta 9 (.bool true) rfl A ?_;refine ta 10 (.bool true) rfl A ?_;refine ta 11 (.bool true) rfl A ?_;refine pn 12 rfl A ?_;refine pn 13 rfl A ?_;refine pn 14 rfl A ?_;refine pn 15 rfl A ?_;refine pn 16 rfl A ?_;refine pn 17 rfl A ?_;refine pn 18 rfl A ?_;refine pn 19 rfl A ?_;refine ta 20 (.bool true) rfl A ?_;refine ta 21 (.bool true) rfl A ?_;refine wpAnyH_done (by kernel_rfl) ?_ _;clear A;simp only [Act.put,p1q,p4q,p3q,p2q,p5q,p6q];go_wp2_with fail;go_ret;exact ⟨by rw [HR.o];rfl,D.o.drew⟩
theorem zh7 (hc:qc X B w vW N kC kS kF kN kT vA h d ts) (Y:vw d h ts) (L:∀x∈h.ap,(Lit.int .i64 x).wf=true):
 Calls prog 115 #[.agg #[.p (X+1)]] w fun r w'=>r=.returned (.bool (!h.ap.any (ib d h ts)))/\Bl w w':=by
 have aa:=ri prog;obtain ⟨E,J⟩:∃E,E=w.alloc (.cells #[.p (X+1)] 88):=⟨_,rfl⟩;have F:Bl w E:=J ▸ (br _ _).alloc (nlq _) _;have ac:E.heap.size=w.heap.size+1:=by rw [J];simp
 have A:=hc.below F;have Z:E.cell? ⟨w.heap.size,0,none⟩=some (.p (X+1)):=by rw [J];simp [go_sem]
 have D:Hid (Calls prog 174 #[N,.func (.func 176) #[] #[.p w.heap.size]] E fun r w'=>r=.returned (.bool (h.ap.any (ib d h ts)))/\Bl E w'):=by refine zhp _ B N _ A.sO (by have:=A.le;have:=bz A.blk;omega) 176 #[] _ (ib d h ts) (fun args w=>by kernel_rfl) ?_;intro x hx V W;exact zh6 V X B _ _ _ _ _ _ _ vA h d ts (A.below W) Y w.heap.size ((W.cell (p:=⟨w.heap.size,0,none⟩) (by show w.heap.size<_;omega)).trans Z) x (L x hx)
 have gl:=bz A.blk;have m5:=bg A.blk 5 (x:=N) rfl;have I:=aj F;obtain ⟨a,q,rfl,-⟩:=hc.sO;rw [J]at D m5 gl;clear hc A F Z Y L;generalize h.ap.any (ib d h ts)=b at*;go_enter func115,ntmps115;go_wp2_with fail;refine D.o.mono ?_;rintro r w1 ⟨rfl,G⟩;rw [<-J]at G;have O:Hid (Bl w w1):=I.o.trans (G.mono I.o.size);clear G D;go_wp2_with fail;go_ret;exact ⟨rfl,O.o⟩
structure HsD (hs:List Int) (D:DataW Unit):Prop where
 has:∀n,Maps.has D (jt n)=decide (n∈hs)
 le:Maps.size D<=hs.length
 eq:Maps.size D=hs.length↔hs.Nodup
theorem zh8:HsD [] (.map []):=⟨fun n=>by simp;rfl,nlq _,by simp;rfl⟩
theorem zh9 (A:List Int) (x:Int):(A++ [x]).Nodup↔A.Nodup/\x∉A:=by
 rw [nodup_append];constructor
 ·rintro ⟨h1,-,F⟩;exact ⟨h1,fun I=>F x I x (by simp) rfl⟩
 rintro ⟨h1,E⟩;refine ⟨h1,by simp,fun a G b D e=>?_⟩;rw [mem_singleton]at D;subst D;subst e;exact E G
theorem zia {F:List Int} {D:DataW Unit} (h:HsD F D) (G:Tidy D) (x:Int) (v:DataW Unit):HsD (F++ [x]) (D.put (jt x) v):=by
 have N:=G.isMap;have A:Maps.size (D.put (jt x) v)=if Maps.has D (jt x)=true then Maps.size D else Maps.size D+1:=size_put G v
 have L:=h.le;have E:=h.eq;rw [h.has x]at A;refine ⟨fun n=>?_,?_,?_⟩
 ·by_cases e:x=n
  ·subst e;rw [has_put_same N (wo _)];simp
  rw [has_put_other (Fp (Ne.symm e)),h.has];have J:¬n=x:=fun q=>e q.symm;simp [J]
 ·rw [A,length_append];split<;>simp<;>omega
 rw [A,length_append,zh9];by_cases I:x∈F
 ·simp [I];omega
 simp [I];exact E
theorem zib (hc:qc X B w vW vO kC kS kF kN kT vA h d ts) (hl:ts.length<=1000000) (al:∀t∈ts,(Lit.int .i64 t.hash).wf=true):
 Calls prog 111 #[.agg #[.p (X+1)]] w fun r w'=>r=.returned (.bool (decide ((ts.map bq.hash).Nodup)))/\Bl w w':=by
 have a4:=@run_makeMap prog;obtain ⟨G,hW⟩:∃G,G=(w.alloc (.cells #[.p (X+1)] 88)).alloc (.map #[] 0):=⟨_,rfl⟩;have a6:G.heap.size=w.heap.size+1+1:=by rw [hW];simp
 have Y:Bl w G:=hW ▸ ((br _ _).alloc (nlq _) _).alloc (by simp) _;have ac:G.heap[w.heap.size]? =some (.cells #[.p (X+1)] 88 (0,0)):=by rw [hW];exact (Below.heap_alloc _ _ _ (by simp)).trans (heap_alloc_new w _)
 have ai:G.ownsMap prog 3 ll (w.heap.size+1) 0 (.map []):=by have:=ownsMap_made (w.alloc (.cells #[.p (X+1)] 88)) prog 3 ll;rw [<-hW]at this;simpa using this
 have I:=hc.below Y;have HS:Hid (SL 4 Df (· <w.heap.size) w vA ts):=hc.all hl;have gl:=bz hc.blk;have ah:=bz I.blk;have J:=bg I.blk 12 (x:=vA) rfl;have p0:=bg ac 0 (x:=.p (X+1)) rfl;obtain ⟨a,q,rfl⟩:=hc.len;have az:=aj I;have am:=aj Y;have ay:=aj ac;have HM:=aj ai;have av:=aj al;have HW:=aj hW;clear hc I Y ac ai al;rw [hW]at J p0 ah;clear hW;go_enter func111,ntmps111;go_wp2_with fail;rw [<-HW.o];rw [<-HW.o]at J p0 ah;go_loopw [13] (fun i wr=>∃(k:Nat) (D:DataW Unit),k<=ts.length/\i=.i k/\Hid (wr.ownsMap prog 3 ll (w.heap.size+1) k D/\HsD ((ts.take k).map bq.hash) D/\Below (w.heap.size+1) G wr)) (fun i _=>ts.length - (intOf i).toNat)
 case atStart=>exact ⟨0,.map [],n0q _,rfl,HM.o,by simpa using zh8,br _ _⟩
 case round=>
  obtain ⟨k,D,hk,rfl,E⟩:=hrel;have a5:=E.o.2.2.size;have Z:Bl w wr:=am.o.trans (E.o.2.2.mono (by omega));by_cases ad:k<ts.length
  ·obtain ⟨bA,oA,rfl,a2,e0,e1,e2,e3⟩:=(HS.o.keptTh (Kp.below Z)).atTh k ad;have q1:(0:Int)<=k:=by omega
   have q2:(k:Int)<ts.length:=by omega
   have ak:=av.o ts[k] (gm ad);have au:Hid ((ts.take (k+1)).map bq.hash=(ts.take k).map bq.hash++ [ts[k].hash]):=by show _=_;rw [take_succ_eq_append_getElem ad,map_append];rfl
   generalize ts[k]=t at*;obtain ⟨W7,F⟩:∃W7,W7=wr.alloc (.cells #[.i t.loc,.i t.tag,.i t.len,.i t.hash] 101):=⟨_,rfl⟩;have W:Bl wr W7:=F ▸ (br _ _).alloc (nlq _) _;have h7:W7.heap[wr.heap.size]? =some (.cells #[.i t.loc,.i t.tag,.i t.len,.i t.hash] 101 (0,0)):=F ▸ heap_alloc_new wr _;have ae:W7.ownsMap prog 3 ll (w.heap.size+1) k D:=by rw [F];exact E.o.1.alloc _
   have O:keyOf prog 3 (.i t.hash)=some (jt t.hash):=keyOf_int_mk underlying3 ak;obtain ⟨af,V,A,N⟩:=ownsMap.update (w:=W7) ae qq underlying183 (by unfold maxLen;omega) O (ze4 t);unfold nw at V;have aa:=zia E.o.2.1 (ae.tidy qq) t.hash (mg t);rw [<-au.o]at aa;have L:Below (w.heap.size+1) G af:=(E.o.2.2.trans (W.mono (by omega))).grown N (by have:=W.size;omega) (fun q e=>by cases e;exact nlq _);have s0:=bg h7 0 (x:=.i t.loc) rfl;have s1:=bg h7 1 (x:=.i t.tag) rfl;have s2:=bg h7 2 (x:=.i t.len) rfl;have s3:=bg h7 3 (x:=.i t.hash) rfl;have l7:=bz h7;have HF:Hid (af.ownsMap prog 3 ll (w.heap.size+1) (k+1) (D.put (jt t.hash) (mg t))/\HsD ((ts.take (k+1)).map bq.hash) (D.put (jt t.hash) (mg t))/\Below (w.heap.size+1) G af):=⟨A,aa,L⟩;rw [F]at s0 s1 s2 s3 l7 V;clear W h7 ae O A N aa L F ak E;go_wp2_with fail;go_roundw
   case rel=>exact ⟨k+1,_,by omega,by go_num,HF.o⟩
   case measure=>simp [intOf];omega
  have aw:k=ts.length:=by omega
  have HR:Hid ((Maps.size D:Int)==(ts.length:Int)↔(ts.map bq.hash).Nodup):=by have:=E.o.2.1.eq;rw [aw,take_length,length_map]at this;show _↔_;rw [<-this];simp;omega
  have a3:=E.o.1.drew.len (e:=101) underlying183;have p1:=(E.o.2.2.cell (p:=⟨w.heap.size,0,none⟩) (by show w.heap.size<_;omega)).trans p0;have m1:=(E.o.2.2.cell (p:=⟨X+1,12,none⟩) (by show X+1<_;omega)).trans J;have a1:X+1<wr.heap.size:=by omega
  have a0:w.heap.size<wr.heap.size:=by omega
  have an:=aj Z;clear E Z p0 J;generalize Maps.size D=sz at*;go_wp2_with fail;go_region
  all_goals
   go_wp2_with fail;go_ret
  all_goals refine ⟨?_,an.o.drew⟩
  have hr:=HR.o;show Ending.returned (.bool ((sz:Int)==(ts.length:Int)))=_;congr 2;by_cases hd:(ts.map bq.hash).Nodup
  ·rw [decide_eq_true hd];exact hr.2 hd
  rw [decide_eq_false hd];exact Bool.eq_false_iff.2 fun e=>hd (hr.1 e)
end Go.Proofs.YtjdnmblggdobgaaGreat
