import Derived.Test.YtjdnmblggdobgaaGreatJPlainFine
import Derived.Test.YtjdnmblggdobgaaGreatChecked
import Derived.WalkKit
import Derived.WalkLawsBesides
import Derived.WalkSpells
import Derived.BigQuiet
import Derived.Deep.QuietTactic
import Derived.Defers
import Derived.Recover
import Derived.Deep.LoopGhost
set_option maxHeartbeats 2000000
namespace Go.Proofs.YtjdnmblggdobgaaGreat
open Go.RowKit
theorem ag {p:Prop} (h:p):Hid p:=h
def SL {α:Type} (n:Nat) (R:(Nat->Prop)->World->List Value->α->Prop) (M:Nat->Prop) (w:World) (v:Value) (l:List α):Prop:=
 ∃ao cap,v=.slice ao l.length cap/\l.length<=cap/\l.length<=maxLen/\∀k (hk:k<l.length),∃b off cs,ao=some ⟨b,off,none⟩/\M b/\b<w.heap.size/\cs.length=n/\(∀j,j<n->w.cell? ⟨b,off+k*n+j,none⟩=cs[j]?)/\R M w cs l[k]
def RK (_:Nat->Prop) (_:World) (cs:List Value) (k:ew):Prop:=cs= [.int .i64 k.kind,.string k.da]/\k.da.size<=maxLen
def RF (_:Nat->Prop) (_:World) (cs:List Value) (f:bo):Prop:=cs= [.string f.name,.int .i64 f.kind.kind,.string f.kind.da]/\f.name.size<=maxLen/\f.kind.da.size<=maxLen
def RH (_:Nat->Prop) (_:World) (cs:List Value) (h:ii):Prop:=cs= [.int .i64 h.frm,.int .i64 h.upto,.int .i64 h.loc,.string h.da]/\h.da.size<=maxLen
def RM (M:Nat->Prop) (w:World) (cs:List Value) (m:dx):Prop:=
 ∃va vh,cs= [.string m.name,.bool m.static,va,.int .i64 m.ret.kind,.string m.ret.da,.int .i64 m.stack,.int .i64 m.locals,.string m.code,vh]/\SL 2 RK M w va m.args/\SL 4 RH M w vh m.hands/\
  m.name.size<=maxLen/\m.ret.da.size<=maxLen/\m.code.size<=maxLen
def RC (M:Nat->Prop) (w:World) (cs:List Value) (c:am):Prop:=
 ∃vf vm,cs= [.string c.name,.string c.bq,vf,vm]/\SL 3 RF M w vf c.fields/\SL 9 RM M w vm c.ar/\c.name.size<=maxLen/\c.bq.size<=maxLen
structure Kp (M:Nat->Prop) (w w':World):Prop where
 size:w.heap.size<=w'.heap.size
 block:∀b,M b->b<w.heap.size->w'.heap[b]? =w.heap[b]?
theorem Kp.below {B:Nat} {w w':World} (h:Below B w w'):Kp (· <B) w w':=⟨h.size,fun b u _=>h.block b u⟩
theorem SL.kept {α:Type} {n:Nat} {R:(Nat->Prop)->World->List Value->α->Prop} {M:Nat->Prop} {w w':World} {v:Value} {l:List α} (h:SL n R M w v l) (F:Kp M w w')
 (L:∀u x,R M w u x->R M w' u x):SL n R M w' v l:=by
 obtain ⟨G,cap,rfl,h1,I,J⟩:=h;refine ⟨G,cap,rfl,h1,I,fun k A=>?_⟩;obtain ⟨b,off,u,e,D,E,O,hc,V⟩:=J k A;exact ⟨b,off,u,e,D,ll3 E F.size,O,fun j N=>(World.cell?_of_block (a:=⟨b,_,none⟩) (F.block b D E)).trans (hc j N),L _ _ V⟩
theorem SL.mono {α:Type} {n:Nat} {R:(Nat->Prop)->World->List Value->α->Prop} {M M':Nat->Prop} {w:World} {v:Value} {l:List α} (h:SL n R M w v l) (I:∀b,M b->M' b)
 (J:∀u x,R M w u x->R M' w u x):SL n R M' w v l:=by
 obtain ⟨E,cap,rfl,h1,F,G⟩:=h;refine ⟨E,cap,rfl,h1,F,fun k D=>?_⟩;obtain ⟨b,off,u,e,A,L,N,hc,O⟩:=G k D;exact ⟨b,off,u,e,I b A,L,N,hc,J _ _ O⟩
theorem SL.keptK {M:Nat->Prop} {w w':World} {v:Value} {l:List ew} (h:SL 2 RK M w v l) (u:Kp M w w'):SL 2 RK M w' v l:=h.kept u fun _ _ h=>h
theorem SL.keptF {M:Nat->Prop} {w w':World} {v:Value} {l:List bo} (h:SL 3 RF M w v l) (u:Kp M w w'):SL 3 RF M w' v l:=h.kept u fun _ _ h=>h
theorem SL.keptH {M:Nat->Prop} {w w':World} {v:Value} {l:List ii} (h:SL 4 RH M w v l) (u:Kp M w w'):SL 4 RH M w' v l:=h.kept u fun _ _ h=>h
theorem RM.kept {M:Nat->Prop} {w w':World} {u:List Value} {m:dx} (h:RM M w u m) (A:Kp M w w'):RM M w' u m:=by obtain ⟨F,G,e,D,E,r⟩:=h;exact ⟨F,G,e,D.keptK A,E.keptH A,r⟩
theorem SL.keptM {M:Nat->Prop} {w w':World} {v:Value} {l:List dx} (h:SL 9 RM M w v l) (u:Kp M w w'):SL 9 RM M w' v l:=h.kept u fun _ _ h=>h.kept u
theorem RC.kept {M:Nat->Prop} {w w':World} {u:List Value} {c:am} (h:RC M w u c) (A:Kp M w w'):RC M w' u c:=by obtain ⟨F,G,e,D,E,r⟩:=h;exact ⟨F,G,e,D.keptF A,E.keptM A,r⟩
theorem SL.keptC {M:Nat->Prop} {w w':World} {v:Value} {l:List am} (h:SL 4 RC M w v l) (u:Kp M w w'):SL 4 RC M w' v l:=h.kept u fun _ _ h=>h.kept u
theorem SL.monoK {M M':Nat->Prop} {w:World} {v:Value} {l:List ew} (h:SL 2 RK M w v l) (u:∀b,M b->M' b):SL 2 RK M' w v l:=h.mono u fun _ _ h=>h
theorem SL.monoF {M M':Nat->Prop} {w:World} {v:Value} {l:List bo} (h:SL 3 RF M w v l) (u:∀b,M b->M' b):SL 3 RF M' w v l:=h.mono u fun _ _ h=>h
theorem SL.monoH {M M':Nat->Prop} {w:World} {v:Value} {l:List ii} (h:SL 4 RH M w v l) (u:∀b,M b->M' b):SL 4 RH M' w v l:=h.mono u fun _ _ h=>h
theorem RM.mono {M M':Nat->Prop} {w:World} {u:List Value} {m:dx} (h:RM M w u m) (A:∀b,M b->M' b):RM M' w u m:=by obtain ⟨F,G,e,D,E,r⟩:=h;exact ⟨F,G,e,D.monoK A,E.monoH A,r⟩
theorem SL.monoM {M M':Nat->Prop} {w:World} {v:Value} {l:List dx} (h:SL 9 RM M w v l) (u:∀b,M b->M' b):SL 9 RM M' w v l:=h.mono u fun _ _ h=>h.mono u
theorem RC.mono {M M':Nat->Prop} {w:World} {u:List Value} {c:am} (h:RC M w u c) (A:∀b,M b->M' b):RC M' w u c:=by obtain ⟨F,G,e,D,E,r⟩:=h;exact ⟨F,G,e,D.monoF A,E.monoM A,r⟩
theorem SL.monoC {M M':Nat->Prop} {w:World} {v:Value} {l:List am} (h:SL 4 RC M w v l) (u:∀b,M b->M' b):SL 4 RC M' w v l:=h.mono u fun _ _ h=>h.mono u
theorem nh {w W:World} {b:Nat} (h:w.grownBy W (some b)) (a:Addr) (u:Value) (D:a.block=b\/w.heap.size<=a.block):w.grownBy (W.setCell a u) (some b):=
 ⟨h.os,h.tape,h.output,by simpa [World.setCell]using h.size,fun k E A=>by
  rw [Below.heap_setCell _ _ _ _ (by intro e;subst e;rcases D with D | D;· exact A (by rw [D])
                                     ·omega)]
  exact h.block k E A⟩
theorem za9 {w W:World} {b:Nat} (h:w.grownBy W (some b)) (o:Obj):w.grownBy (W.alloc o) (some b):=
 ⟨h.os,h.tape,h.output,lt3 h.size (by simp),fun k A u=>by
  rw [Below.heap_alloc _ _ _ (ll3 A h.size)];exact h.block k A u⟩
theorem zbh {w w':World} {B:Nat} {e u n:Nat} {v:Value} {xs:List Value} (h:w.ownsRow B e u v n xs) (A:Below w.heap.size w w'):w'.ownsRow B e u v n xs:=
 h.kept (row:=none) ⟨A.os,A.tape,A.output,A.size,fun k D _=>A.block k D⟩ (by cases v.ownBlock<;>simp)
theorem nt {w W w':World} {b:Nat} (h:Below w.heap.size w W) (A:W.grownBy w' (some b)) (u:w.heap.size<=b):Below w.heap.size w w':=
 h.grown A h.size (fun k e=>by cases e;exact u)
theorem zbi {w:World} {B B' e u n:Nat} {v:Value} {xs:List Value} (h:w.ownsRow B e u v n xs) (F:B'<=B):w.ownsRow B' e u v n xs:=by
 refine ⟨h.1,?_⟩;rcases h.2 with h | ⟨g,cap,A,h1,D,E⟩
 ·exact Or.inl h
 exact Or.inr ⟨g,cap,A,h1,lt3 F D,E⟩
abbrev wrongV (e p:Int):PanicEntry:={ v:=.iface 164 (.agg #[.int .i64 e,.int .i64 p]),recovered:=false }
def DemOut (b:Bool) (e p:Int) (r:Ending):Prop:=(b=false/\r=.panicked [wrongV e p])\/(b=true/\r=.returned (.tuple #[]))
def my (e:Int) (r:Ending):Prop:=(e≠0/\r=.panicked [wrongV e 0])\/(e=0/\r=.returned (.tuple #[]))
theorem zbj (w:World) (b:Bool) (e p:Int):
 Calls Tryz.prog 138 #[.bool b,.int .i64 e,.int .i64 p] w fun r w'=>w'=w/\DemOut b e p r:=by
 cases b
 ·go_enter Tryz.func138,Tryz.ntmps138;go_wp2
  exact ⟨rfl,rfl,Or.inl ⟨rfl,rfl⟩⟩
 go_enter Tryz.func138,Tryz.ntmps138;go_wp2
 go_end0;exact ⟨rfl,Or.inr ⟨rfl,rfl⟩⟩
theorem mh (w:World) (b:Bool) (e:Int):
 Calls Tryz.prog 82 #[.bool b,.int .i64 e] w fun r w'=>w'=w/\DemOut b e 0 r:=by
 go_enter Tryz.func82,Tryz.ntmps82;go_wp2_with fail;refine (zbj _ _ _ _).mono ?_;rintro r u ⟨rfl,⟨rfl,rfl⟩ | ⟨rfl,rfl⟩⟩
 ·exact ⟨rfl,rfl,Or.inl ⟨rfl,rfl⟩⟩
 go_wp2
 go_end0;exact ⟨rfl,Or.inr ⟨rfl,rfl⟩⟩
theorem zbk (w:World) (n:Nat):
 Calls Tryz.prog 311 #[.int .u8 n] w fun r w'=>r=.returned (.bool (ck n))/\w'=w:=by
 have A:Hid (ck n=ck n):=rfl;rcases (by omega:n<48\/(48<=n/\n<=57)\/(57<n/\n<65)\/(65<=n/\n<=90)\/(90<n/\n<97/\n≠95)\/n=95\/(97<=n/\n<=122)\/122<n)with h | h | h | h | h | h | h | h
 ·have u:ck n=false:=by simp [ck];omega
  have D:¬(97:Int)<=n:=by omega
  have E:¬(65:Int)<=n:=by omega
  have F:¬(48:Int)<=n:=by omega
  have G:((n:Int)==95)=false:=by simp;omega
  rw [u];clear u A h;go_enter Tryz.func311,Tryz.ntmps311;go_wp2
  go_ret;exact ⟨rfl,rfl⟩
 ·have u:ck n=true:=by simp [ck];omega
  have D:¬(97:Int)<=n:=by omega
  have E:¬(65:Int)<=n:=by omega
  have F:(48:Int)<=n:=by omega
  have G:(n:Int)<=57:=by omega
  rw [u];clear u A h;go_enter Tryz.func311,Tryz.ntmps311;go_wp2
  go_ret;exact ⟨rfl,rfl⟩
 ·have u:ck n=false:=by simp [ck];omega
  have D:¬(97:Int)<=n:=by omega
  have E:¬(65:Int)<=n:=by omega
  have F:(48:Int)<=n:=by omega
  have G:¬(n:Int)<=57:=by omega
  have I:((n:Int)==95)=false:=by simp;omega
  rw [u];clear u A h;go_enter Tryz.func311,Tryz.ntmps311;go_wp2
  go_ret;exact ⟨rfl,rfl⟩
 ·have u:ck n=true:=by simp [ck];omega
  have D:¬(97:Int)<=n:=by omega
  have E:(65:Int)<=n:=by omega
  have F:(n:Int)<=90:=by omega
  rw [u];clear u A h;go_enter Tryz.func311,Tryz.ntmps311;go_wp2
  go_ret;exact ⟨rfl,rfl⟩
 ·have u:ck n=false:=by simp [ck];omega
  have D:¬(97:Int)<=n:=by omega
  have E:(65:Int)<=n:=by omega
  have F:¬(n:Int)<=90:=by omega
  have G:(48:Int)<=n:=by omega
  have I:¬(n:Int)<=57:=by omega
  have J:((n:Int)==95)=false:=by simp;omega
  rw [u];clear u A h;go_enter Tryz.func311,Tryz.ntmps311;go_wp2
  go_ret;exact ⟨rfl,rfl⟩
 ·subst h;go_enter Tryz.func311,Tryz.ntmps311;go_wp2
  go_ret;exact ⟨rfl,rfl⟩
 ·have u:ck n=true:=by simp [ck];omega
  have D:(97:Int)<=n:=by omega
  have E:(n:Int)<=122:=by omega
  rw [u];clear u A h;go_enter Tryz.func311,Tryz.ntmps311;go_wp2
  go_ret;exact ⟨rfl,rfl⟩
 have u:ck n=false:=by simp [ck];omega
 have D:(97:Int)<=n:=by omega
 have E:¬(n:Int)<=122:=by omega
 have F:(65:Int)<=n:=by omega
 have G:¬(n:Int)<=90:=by omega
 have I:(48:Int)<=n:=by omega
 have J:¬(n:Int)<=57:=by omega
 have L:((n:Int)==95)=false:=by simp;omega
 rw [u];clear u A h;go_enter Tryz.func311,Tryz.ntmps311;go_wp2
 go_ret;exact ⟨rfl,rfl⟩
theorem zbl (w:World) (s:ByteArray) (_hs:s.size<=maxLen):
 Calls Tryz.prog 281 #[.string s] w fun r w'=>r=.returned (.bool (db s))/\w'=w:=by
 by_cases h0:s.size<1
 ·have u:Hid (db s=false):=by show db s=false;simp [db];omega
  have F:(s.size:Int)<1:=by omega
  clear h0;go_enter Tryz.func281,Tryz.ntmps281;go_wp2
  go_ret;exact ⟨by rw [u.o];rfl,rfl⟩
 by_cases h1:20<s.size
 ·have u:Hid (db s=false):=by show db s=false;simp [db];omega
  have F:¬(s.size:Int)<1:=by omega
  have G:(20:Int)<s.size:=by omega
  clear h0 h1;go_enter Tryz.func281,Tryz.ntmps281;go_wp2
  go_ret;exact ⟨by rw [u.o];rfl,rfl⟩
 have F:¬(s.size:Int)<1:=by omega
 have G:¬(20:Int)<s.size:=by omega
 have u:Hid (db s=jf s):=by show db s=jf s;simp [db];omega
 go_enter Tryz.func281,Tryz.ntmps281;go_wp2
 go_loop [14] (fun i=>∃k:Nat,k<=s.size/\i=.int .i64 k/\∀j,j<k->ck (bt s j)=true) (fun i=>s.size - (intOf i).toNat)
 case atStart=>exact ⟨0,n0q _,rfl,fun j I=>by omega⟩
 case round=>
  obtain ⟨k,L,rfl,E⟩:=hrel;by_cases A:k<s.size
  ·have J:(s[k].toNat)=bt s k:=(bt_eq s k A).symm;go_wp2_with fail;refine (zbk _ _).mono ?_;rintro r N ⟨rfl,rfl⟩;cases hb:ck (bt s k)
   ·have D:Hid (jf s=false):=zan A hb;go_wp2
    go_ret;exact ⟨by rw [u.o,D.o];rfl,rfl⟩
   go_wp2
   go_round
   case rel=>exact ⟨k+1,by omega,by go_num,fun j I=>if hjk:j=k then hjk ▸ hb else E j (by omega)⟩
   case measure=>simp [intOf];omega
  have D:Hid (jf s=true):=zao fun i hi=>E i (by omega);go_wp2
  go_ret;exact ⟨by rw [u.o,D.o];rfl,rfl⟩
theorem size0 (s:ByteArray):s.toList.isEmpty=decide (s.size=0):=by rw [ByteArray.toList_eq];obtain ⟨⟨l⟩⟩:=s;cases l<;>rfl
theorem zbm (w:World) (n m:Int):
 Calls Tryz.prog 313 #[.int .i64 n,.int .i64 m] w fun r w'=>r=.returned (.bool (win n m))/\w'=w:=by
 by_cases h0:0<=n
 ·by_cases h1:n<=m
  ·go_enter Tryz.func313,Tryz.ntmps313;go_wp2
   go_ret;simp [win,h0,h1]
  go_enter Tryz.func313,Tryz.ntmps313;go_wp2
  go_ret;simp [win,h1]
 go_enter Tryz.func313,Tryz.ntmps313;go_wp2
 go_ret;simp [win];omega
theorem zbn (w:World) (n:Int):
 Calls Tryz.prog 312 #[.int .i64 n] w fun r w'=>r=.returned (.bool (lh n))/\w'=w:=by
 by_cases h0:n=3
 ·subst h0;go_enter Tryz.func312,Tryz.ntmps312;go_wp2
  go_ret;exact ⟨rfl,rfl⟩
 have u:Hid (lh n=decide (n=4)):=by show lh n=_;simp [lh,h0]
 have A:(n==3)=false:=by simp [h0]
 clear h0;go_enter Tryz.func312,Tryz.ntmps312;go_wp2
 go_ret;exact ⟨by rw [u.o];rfl,rfl⟩
theorem zbo (w:World) (k:ew) (G:k.da.size<=maxLen):
 Calls Tryz.prog 282 #[.agg #[.int .i64 k.kind,.string k.da]] w fun r w'=>r=.returned (.bool (io k))/\Below w.heap.size w w':=by
 obtain ⟨n,s⟩:=k
 dsimp only at*
 have E:=fun o=>(br w.heap.size w).alloc (nlq _) o;have A:Hid (io ⟨n,s⟩=if lh n=true then db s else (decide (n=1)||decide (n=2))&&decide (s.size=0)):=rfl;go_enter Tryz.func282,Tryz.ntmps282;go_wp2_with fail;refine (zbn _ _).mono ?_;rintro r I ⟨rfl,rfl⟩;cases hc:lh n
 ·have u:=ag hc;clear hc;have N:=size0 s;by_cases h1:n=1
  ·subst h1;go_wp2
   go_ret;refine ⟨by rw [A.o,u.o];simp,E _⟩
  have J:(n==1)=false:=by simp [h1]
  by_cases D:n=2
  ·subst D;go_wp2
   go_ret;refine ⟨by rw [A.o,u.o];simp,E _⟩
  have L:(n==2)=false:=by simp [D]
  have F:Hid ((decide (n=1)||decide (n=2))=false):=by show _=_;simp [h1,D]
  clear h1 D;go_wp2
  go_ret;refine ⟨by rw [A.o,u.o,F.o];simp,E _⟩
 have u:=ag hc;clear hc;go_wp2_with fail;refine (zbl _ _ G).mono ?_;rintro r I ⟨rfl,rfl⟩;go_wp2
 go_ret;refine ⟨by rw [A.o,u.o];simp,E _⟩
theorem zbp (w:World) (k:ew) (I:k.da.size<=maxLen):
 Calls Tryz.prog 314 #[.agg #[.int .i64 k.kind,.string k.da]] w fun r w'=>r=.returned (.bool (returnedB k))/\Below w.heap.size w w':=by
 obtain ⟨n,s⟩:=k
 dsimp only at*
 have F:=(br w.heap.size w).alloc (nlq _) (.cells #[.int .i64 n,.string s] 123);have D:Hid (returnedB ⟨n,s⟩=(io ⟨n,s⟩||(decide (n=0)&&decide (s.size=0)))):=rfl;go_enter Tryz.func314,Tryz.ntmps314;go_wp2_with fail;refine (zbo _ ⟨n,s⟩ I).mono ?_;rintro r E ⟨rfl,u⟩;have L:E.cell? ⟨w.heap.size,0,none⟩=some (.int .i64 n):=(u.cell (p:=⟨w.heap.size,0,none⟩) (by simp)).trans (by simp [go_sem]);have N:E.cell? ⟨w.heap.size,1,none⟩=some (.string s):=(u.cell (p:=⟨w.heap.size,1,none⟩) (by simp)).trans (by simp [go_sem]);have A:Below w.heap.size w E:=F.trans (u.mono (by simp));clear F u;generalize io ⟨n,s⟩=rb at*;have O:=size0 s;cases rb
 ·by_cases h1:n=0
  ·subst h1;go_wp2
   go_ret;refine ⟨by rw [D.o];simp,A⟩
  have J:(n==0)=false:=by simp [h1]
  have G:Hid (decide (n=0)=false):=by show _=_;simp [h1]
  clear h1;go_wp2
  go_ret;refine ⟨by rw [D.o,G.o];simp,A⟩
 go_wp2
 go_ret;refine ⟨by rw [D.o];simp,A⟩
theorem zbq {c e:Int} (h:c=e) (u:e≠0):my c (.panicked [wrongV e 0]):=Or.inl ⟨by rw [h];exact u,by rw [h]⟩
theorem zbr {c:Int} (h:c=0):my c (.returned (.tuple #[])):=Or.inr ⟨h,rfl⟩
theorem zbs (w:World) (h:ii) (L:h.da.size<=maxLen):
 Calls Tryz.prog 315 #[.agg #[.int .i64 h.frm,.int .i64 h.upto,.int .i64 h.loc,.string h.da]] w fun r w'=>my (ep h) r/\Below w.heap.size w w':=by
 obtain ⟨a,b,c,s⟩:=h
 dsimp only at*
 have G:=(br w.heap.size w).alloc (nlq _) (.cells #[.int .i64 a,.int .i64 b,.int .i64 c,.string s] 248);have I:Hid (ep ⟨a,b,c,s⟩=mg (db s) 1 (mg (win a 200) 3 (mg (win b 200) 3 (mg (win c 200) 3 0)))):=rfl;go_enter Tryz.func315,Tryz.ntmps315;go_wp2_with fail;refine (zbl _ _ L).mono ?_;rintro r F ⟨rfl,rfl⟩;go_wp2_with fail;refine (mh _ _ _).mono ?_;rintro r F ⟨rfl,⟨u,rfl⟩ | ⟨u,rfl⟩⟩
 ·exact ⟨rfl,zbq (by rw [I.o,u,oq]) (by decide),G⟩
 have A:=ag (I.o.trans (by rw [u,mt]));clear u I;go_wp2_with fail;refine (zbm _ _ _).mono ?_;rintro r F ⟨rfl,rfl⟩;go_wp2_with fail;refine (mh _ _ _).mono ?_;rintro r F ⟨rfl,⟨u,rfl⟩ | ⟨u,rfl⟩⟩
 ·exact ⟨rfl,zbq (by rw [A.o,u,oq]) (by decide),G⟩
 have D:=ag (A.o.trans (by rw [u,mt]));clear u A;go_wp2_with fail;refine (zbm _ _ _).mono ?_;rintro r F ⟨rfl,rfl⟩;go_wp2_with fail;refine (mh _ _ _).mono ?_;rintro r F ⟨rfl,⟨u,rfl⟩ | ⟨u,rfl⟩⟩
 ·exact ⟨rfl,zbq (by rw [D.o,u,oq]) (by decide),G⟩
 have E:=ag (D.o.trans (by rw [u,mt]));clear u D;go_wp2_with fail;refine (zbm _ _ _).mono ?_;rintro r F ⟨rfl,rfl⟩;go_wp2_with fail;refine (mh _ _ _).mono ?_;rintro r F ⟨rfl,⟨u,rfl⟩ | ⟨u,rfl⟩⟩
 ·exact ⟨rfl,zbq (by rw [E.o,u,oq]) (by decide),G⟩
 have J:=ag (E.o.trans (by rw [u,mt]));clear u E;go_wp2
 go_end0;exact ⟨zbr J.o,G⟩
theorem SL.at {α:Type} {n:Nat} {R:(Nat->Prop)->World->List Value->α->Prop} {M:Nat->Prop} {w:World} {u:Option Addr} {len cap:Nat} {l:List α} (h:SL n R M w (.slice u len cap) l) (k:Nat) (F:k<l.length):
 ∃b off cs,u=some ⟨b,off,none⟩/\M b/\b<w.heap.size/\cs.length=n/\(∀j,j<n->w.cell? ⟨b,off+k*n+j,none⟩=cs[j]?)/\R M w cs l[k]:=by
 obtain ⟨D,A,e,_,_,E⟩:=h;cases e;exact E k F
theorem SL.atK {M:Nat->Prop} {w:World} {u:Option Addr} {len cap:Nat} {l:List ew} (h:SL 2 RK M w (.slice u len cap) l) (k:Nat) (D:k<l.length):
 ∃b off,u=some ⟨b,off,none⟩/\b<w.heap.size/\w.cell? ⟨b,off+k*2,none⟩=some (.int .i64 l[k].kind)/\w.cell? ⟨b,off+k*2+1,none⟩=some (.string l[k].da)/\l[k].da.size<=maxLen:=by
 obtain ⟨b,off,F,e,_,A,_,hc,rfl,E⟩:=h.at k D;exact ⟨b,off,e,A,hc 0 (by omega),hc 1 (by omega),E⟩
theorem SL.atF {M:Nat->Prop} {w:World} {u:Option Addr} {len cap:Nat} {l:List bo} (h:SL 3 RF M w (.slice u len cap) l) (k:Nat) (D:k<l.length):
 ∃b off,u=some ⟨b,off,none⟩/\b<w.heap.size/\w.cell? ⟨b,off+k*3,none⟩=some (.string l[k].name)/\w.cell? ⟨b,off+k*3+1,none⟩=some (.int .i64 l[k].kind.kind)/\w.cell? ⟨b,off+k*3+2,none⟩=some (.string l[k].kind.da)/\l[k].name.size<=maxLen/\l[k].kind.da.size<=maxLen:=by
 obtain ⟨b,off,F,e,_,A,_,hc,rfl,E⟩:=h.at k D;exact ⟨b,off,e,A,hc 0 (by omega),hc 1 (by omega),hc 2 (by omega),E⟩
theorem SL.atH {M:Nat->Prop} {w:World} {u:Option Addr} {len cap:Nat} {l:List ii} (h:SL 4 RH M w (.slice u len cap) l) (k:Nat) (D:k<l.length):
 ∃b off,u=some ⟨b,off,none⟩/\b<w.heap.size/\w.cell? ⟨b,off+k*4,none⟩=some (.int .i64 l[k].frm)/\w.cell? ⟨b,off+k*4+1,none⟩=some (.int .i64 l[k].upto)/\w.cell? ⟨b,off+k*4+2,none⟩=some (.int .i64 l[k].loc)/\w.cell? ⟨b,off+k*4+3,none⟩=some (.string l[k].da)/\l[k].da.size<=maxLen:=by
 obtain ⟨b,off,F,e,_,A,_,hc,rfl,E⟩:=h.at k D;exact ⟨b,off,e,A,hc 0 (by omega),hc 1 (by omega),hc 2 (by omega),hc 3 (by omega),E⟩
theorem SL.atM {M:Nat->Prop} {w:World} {D:Option Addr} {len cap:Nat} {l:List dx} (h:SL 9 RM M w (.slice D len cap) l) (k:Nat) (F:k<l.length):
 ∃b off u A,D=some ⟨b,off,none⟩/\b<w.heap.size/\w.cell? ⟨b,off+k*9,none⟩=some (.string l[k].name)/\w.cell? ⟨b,off+k*9+1,none⟩=some (.bool l[k].static)/\w.cell? ⟨b,off+k*9+2,none⟩=some u/\
  w.cell? ⟨b,off+k*9+3,none⟩=some (.int .i64 l[k].ret.kind)/\w.cell? ⟨b,off+k*9+4,none⟩=some (.string l[k].ret.da)/\w.cell? ⟨b,off+k*9+5,none⟩=some (.int .i64 l[k].stack)/\w.cell? ⟨b,off+k*9+6,none⟩=some (.int .i64 l[k].locals)/\
  w.cell? ⟨b,off+k*9+7,none⟩=some (.string l[k].code)/\w.cell? ⟨b,off+k*9+8,none⟩=some A/\SL 2 RK M w u l[k].args/\SL 4 RH M w A l[k].hands/\l[k].name.size<=maxLen/\l[k].ret.da.size<=maxLen/\l[k].code.size<=maxLen:=by
 obtain ⟨b,off,I,e,_,E,_,hc,u,A,rfl,G⟩:=h.at k F;exact ⟨b,off,u,A,e,E,hc 0 (by omega),hc 1 (by omega),hc 2 (by omega),hc 3 (by omega),hc 4 (by omega),hc 5 (by omega),hc 6 (by omega),hc 7 (by omega),hc 8 (by omega),G⟩
theorem SL.atC {M:Nat->Prop} {w:World} {u:Option Addr} {len cap:Nat} {l:List am} (h:SL 4 RC M w (.slice u len cap) l) (k:Nat) (D:k<l.length):
 ∃b off vf vm,u=some ⟨b,off,none⟩/\b<w.heap.size/\w.cell? ⟨b,off+k*4,none⟩=some (.string l[k].name)/\w.cell? ⟨b,off+k*4+1,none⟩=some (.string l[k].bq)/\w.cell? ⟨b,off+k*4+2,none⟩=some vf/\
  w.cell? ⟨b,off+k*4+3,none⟩=some vm/\SL 3 RF M w vf l[k].fields/\SL 9 RM M w vm l[k].ar/\l[k].name.size<=maxLen/\l[k].bq.size<=maxLen:=by
 obtain ⟨b,off,I,e,_,A,_,hc,F,G,rfl,E⟩:=h.at k D;exact ⟨b,off,F,G,e,A,hc 0 (by omega),hc 1 (by omega),hc 2 (by omega),hc 3 (by omega),E⟩
theorem zbt {k:ew} (h:io k=false):jr k=7:=by rw [jr,h,oq]
theorem zbu {k:ew} (h:io k=true):jr k=0:=by rw [jr,h,mt]
theorem zbv {r:Int} :ng 0 r=r:=rfl
theorem zbw {e r:Int} (h:e≠0):ng e r=e:=by rw [ng,if_neg h]
theorem zbx (w:World) (B:Nat) (m:dx) (va vh:Value) (ha:SL 2 RK (· <B) w va m.args) (hh:SL 4 RH (· <B) w vh m.hands) (hB:B<=w.heap.size) (au:m.name.size<=maxLen) (av:m.ret.da.size<=maxLen):
 Calls Tryz.prog 283 #[.agg #[.string m.name,.bool m.static,va,.int .i64 m.ret.kind,.string m.ret.da,.int .i64 m.stack,.int .i64 m.locals,.string m.code,vh]] w fun r w'=>my (dr m) r/\Below w.heap.size w w':=by
 obtain ⟨V,I,args,⟨rk,rc⟩,J,D,E,u⟩:=m
 dsimp only at*
 have HA:=ag ha;have HH:=ag hh;obtain ⟨ao,ca,rfl,aw,aq,_⟩:=ha;obtain ⟨ho,ch,rfl,ax,ar,_⟩:=hh;unfold maxLen at aq ar;have aa:Hid (dr ⟨V,I,args,⟨rk,rc⟩,J,D,E,u⟩=mg (db V) 1 (mg (decide (args.length<=4)) 2 (mg (decide (E.size<=200)) 2 (mg (decide (u.length<=4)) 2 (mg (win J 10) 3 (mg (win D 10) 3 (ng (gr jr args) (mg (returnedB ⟨rk,rc⟩) 7 (gr ep u))))))))):=rfl;generalize dr ⟨V,I,args,⟨rk,rc⟩,J,D,E,u⟩=X at*;go_enter Tryz.func283,Tryz.ntmps283;go_wp2_with fail;generalize hW:w.alloc (.cells #[.string V,.bool I,.slice ao args.length ca,.int .i64 rk,.string rc,.int .i64 J,.int .i64 D,.string E,.slice ho u.length ch] 159)=W0;have hz:W0.heap.size=w.heap.size+1:=by rw [<-hW];simp
 have F:Below w.heap.size w W0:=by rw [<-hW];exact (br w.heap.size w).alloc (nlq _) _
 have c0:W0.cell? ⟨w.heap.size,0,none⟩=some (.string V):=by rw [<-hW];simp [go_sem]
 have c1:W0.cell? ⟨w.heap.size,1,none⟩=some (.bool I):=by rw [<-hW];simp [go_sem]
 have c2:W0.cell? ⟨w.heap.size,2,none⟩=some (.slice ao args.length ca):=by rw [<-hW];simp [go_sem]
 have c3:W0.cell? ⟨w.heap.size,3,none⟩=some (.int .i64 rk):=by rw [<-hW];simp [go_sem]
 have c4:W0.cell? ⟨w.heap.size,4,none⟩=some (.string rc):=by rw [<-hW];simp [go_sem]
 have c5:W0.cell? ⟨w.heap.size,5,none⟩=some (.int .i64 J):=by rw [<-hW];simp [go_sem]
 have c6:W0.cell? ⟨w.heap.size,6,none⟩=some (.int .i64 D):=by rw [<-hW];simp [go_sem]
 have c7:W0.cell? ⟨w.heap.size,7,none⟩=some (.string E):=by rw [<-hW];simp [go_sem]
 have c8:W0.cell? ⟨w.heap.size,8,none⟩=some (.slice ho u.length ch):=by rw [<-hW];simp [go_sem]
 clear hW;refine (zbl _ _ au).mono ?_;rintro r W ⟨rfl,rfl⟩;go_wp2_with fail;refine (mh _ _ _).mono ?_;rintro r W ⟨rfl,⟨A,rfl⟩ | ⟨A,rfl⟩⟩
 ·exact ⟨rfl,zbq (by rw [aa.o,A,oq]) (by decide),F⟩
 have ac:=ag (aa.o.trans (by rw [A,mt]));clear A aa;by_cases Z:args.length<=4
 rotate_left
 ·have an:¬(args.length:Int)<=4:=by omega
  go_wp2_with fail;refine (mh _ _ _).mono ?_;rintro r W ⟨rfl,⟨A,rfl⟩ | ⟨A,rfl⟩⟩
  ·exact ⟨rfl,zbq (by rw [ac.o,decide_eq_false Z,oq]) (by decide),F⟩
  exact absurd A (by first | (simp;done) | (simp;omega))
 have ay:(args.length:Int)<=4:=by omega
 have ad:=ag (ac.o.trans (by rw [decide_eq_true Z,mt]));clear Z ac;go_wp2_with fail;refine (mh _ _ _).mono ?_;rintro r W ⟨rfl,⟨A,rfl⟩ | ⟨A,rfl⟩⟩
 ·exact absurd A (by simp)
 clear A;by_cases Z:E.size<=200
 rotate_left
 ·have an:¬(E.size:Int)<=200:=by omega
  go_wp2_with fail;refine (mh _ _ _).mono ?_;rintro r W ⟨rfl,⟨A,rfl⟩ | ⟨A,rfl⟩⟩
  ·exact ⟨rfl,zbq (by rw [ad.o,decide_eq_false Z,oq]) (by decide),F⟩
  exact absurd A (by first | (simp;done) | (simp;omega))
 have az:(E.size:Int)<=200:=by omega
 have ae:=ag (ad.o.trans (by rw [decide_eq_true Z,mt]));clear Z ad;go_wp2_with fail;refine (mh _ _ _).mono ?_;rintro r W ⟨rfl,⟨A,rfl⟩ | ⟨A,rfl⟩⟩
 ·exact absurd A (by simp)
 clear A;by_cases Z:u.length<=4
 rotate_left
 ·have an:¬(u.length:Int)<=4:=by omega
  go_wp2_with fail;refine (mh _ _ _).mono ?_;rintro r W ⟨rfl,⟨A,rfl⟩ | ⟨A,rfl⟩⟩
  ·exact ⟨rfl,zbq (by rw [ae.o,decide_eq_false Z,oq]) (by decide),F⟩
  exact absurd A (by first | (simp;done) | (simp;omega))
 have a0:(u.length:Int)<=4:=by omega
 have af:=ag (ae.o.trans (by rw [decide_eq_true Z,mt]));clear Z ae;go_wp2_with fail;refine (mh _ _ _).mono ?_;rintro r W ⟨rfl,⟨A,rfl⟩ | ⟨A,rfl⟩⟩
 ·exact absurd A (by simp)
 clear A;go_wp2_with fail;refine (zbm _ _ _).mono ?_;rintro r W ⟨rfl,rfl⟩;go_wp2_with fail;refine (mh _ _ _).mono ?_;rintro r W ⟨rfl,⟨A,rfl⟩ | ⟨A,rfl⟩⟩
 ·exact ⟨rfl,zbq (by rw [af.o,A,oq]) (by decide),F⟩
 have ah:=ag (af.o.trans (by rw [A,mt]));clear A af;go_wp2_with fail;refine (zbm _ _ _).mono ?_;rintro r W ⟨rfl,rfl⟩;go_wp2_with fail;refine (mh _ _ _).mono ?_;rintro r W ⟨rfl,⟨A,rfl⟩ | ⟨A,rfl⟩⟩
 ·exact ⟨rfl,zbq (by rw [ah.o,A,oq]) (by decide),F⟩
 have ai:=ag (ah.o.trans (by rw [A,mt]));clear A ah;go_wp2_with fail;go_loopw [36] (fun i wr=>∃k:Nat,k<=args.length/\i=.int .i64 k/\Hid (gr jr (args.drop k)=gr jr args)/\Below (w.heap.size+1) W wr) (fun i _=>args.length - (intOf i).toNat)
 case atStart=>exact ⟨0,n0q _,rfl,rfl,br _ _⟩
 case round=>
  obtain ⟨k,hk,rfl,HP,G⟩:=hrel;have ak:w.heap.size+1<=wr.heap.size:=by have:=G.size;omega
  by_cases N:k<args.length
  ·obtain ⟨b,off,rfl,ap,e0,e1,es⟩:=(HA.o.keptK (Kp.below ((F.trans (G.mono (by omega))).mono hB))).atK k N;have Y:=G.alloc ak (.cells #[.int .i64 args[k].kind,.string args[k].da] 123);go_wp2_with fail;refine (zbo _ args[k] es).mono ?_;rintro r w2 ⟨rfl,O⟩;have L:=Y.trans (O.mono (by simp;omega));clear O Y e0 e1;go_wp2_with fail;refine (mh _ _ _).mono ?_;rintro r w3 ⟨rfl,⟨A,rfl⟩ | ⟨A,rfl⟩⟩
   ·refine ⟨rfl,zbq (e:=7) ?_ (by decide),F.trans (L.mono (by omega))⟩;rw [ai.o,<-HP.o,zar N (by rw [zbt A];decide),zbt A,zbw (by decide)]
   have HB:=ag (zbu A);clear A;go_wp2_with fail;go_roundw
   case rel=>exact ⟨k+1,by omega,by go_num,(zas N HB.o).symm.trans HP.o,L⟩
   case measure=>simp [intOf];omega
  have aj:=ag (ai.o.trans (by rw [<-HP.o,zat N,zbv]));have d3:=(G.cell (p:=⟨w.heap.size,3,none⟩) (by simp)).trans c3;have d4:=(G.cell (p:=⟨w.heap.size,4,none⟩) (by simp)).trans c4;clear HP ai;go_wp2_with fail;refine (zbp _ ⟨rk,rc⟩ av).mono ?_;rintro r w2 ⟨rfl,O⟩;have L:=G.trans (O.mono (by omega));clear O G d3 d4;go_wp2_with fail;refine (mh _ _ _).mono ?_;rintro r w3 ⟨rfl,⟨A,rfl⟩ | ⟨A,rfl⟩⟩
  ·exact ⟨rfl,zbq (by rw [aj.o,A,oq]) (by decide),F.trans (L.mono (by omega))⟩
  have al:=ag (aj.o.trans (by rw [A,mt]));clear A aj;have d8:=(L.cell (p:=⟨w.heap.size,8,none⟩) (by simp)).trans c8;go_wp2_with fail;go_loopw [51] (fun i wr=>∃k:Nat,k<=u.length/\i=.int .i64 k/\Hid (gr ep (u.drop k)=gr ep u)/\Below (w.heap.size+1) W wr) (fun i _=>u.length - (intOf i).toNat)
  case atStart=>exact ⟨0,n0q _,rfl,rfl,L⟩
  case round=>
   obtain ⟨k,hk,rfl,HP,G⟩:=hrel;have ak:w.heap.size+1<=wr.heap.size:=by have:=G.size;omega
   by_cases N:k<u.length
   ·obtain ⟨b,off,rfl,ap,e0,e1,e2,e3,es⟩:=(HH.o.keptH (Kp.below ((F.trans (G.mono (by omega))).mono hB))).atH k N;have Y:=G.alloc ak (.cells #[.int .i64 u[k].frm,.int .i64 u[k].upto,.int .i64 u[k].loc,.string u[k].da] 248);go_wp2_with fail;refine (zbs _ u[k] es).mono ?_;rintro r w2 ⟨hr,O⟩;have L:=Y.trans (O.mono (by simp;omega));clear O Y e0 e1 e2 e3;rcases hr with ⟨hc,rfl⟩ | ⟨hc,rfl⟩
    ·refine ⟨rfl,zbq ?_ hc,F.trans (L.mono (by omega))⟩;rw [al.o,<-HP.o,zar N hc]
    have HB:=ag hc;clear hc;go_wp2_with fail;go_roundw
    case rel=>exact ⟨k+1,by omega,by go_num,(zas N HB.o).symm.trans HP.o,L⟩
    case measure=>simp [intOf];omega
   go_wp2_with fail;go_end0;exact ⟨zbr (by rw [al.o,<-HP.o,zat N]),F.trans (G.mono (by omega))⟩
end Go.Proofs.YtjdnmblggdobgaaGreat
