import Derived.Test.YtjdnmblggdobgaaGreatJPlainFine
import Derived.Test.YtjdnmblggdobgaaGreatChecked
import Derived.WalkLawsBesides
import Derived.WalkSpells
import Derived.BigQuiet
import Derived.Deep.QuietTactic
import Derived.Defers
import Derived.Recover
import Derived.Deep.LoopGhost
set_option maxHeartbeats 2000000
namespace Go.Proofs.YtjdnmblggdobgaaGreat
open Go.RowKit Tryz
theorem ag {p:Prop} (h:p):Hid p:=h
def SL {α:Type} (n:Nat) (R:(Nat->Prop)->World->List Value->α->Prop) (M:Nat->Prop) (w:World) (v:Value) (l:List α):Prop:=
 ∃ao cap,v=.slice ao l.length cap/\l.length<=cap/\l.length<=maxLen/\∀k (hk:k<l.length),∃b off cs,ao=some ⟨b,off,none⟩/\M b/\b<w.heap.size/\cs.length=n/\(∀j,j<n->w.cell? ⟨b,off+k*n+j,none⟩=cs[j]?)/\R M w cs l[k]
def RK (_:Nat->Prop) (_:World) (cs:List Value) (k:fm):Prop:=cs= [.i k.kind,.string k.de]/\k.de.size<=maxLen
def RF (_:Nat->Prop) (_:World) (cs:List Value) (f:bq):Prop:=cs= [.string f.name,.i f.kind.kind,.string f.kind.de]/\f.name.size<=maxLen/\f.kind.de.size<=maxLen
def RH (_:Nat->Prop) (_:World) (cs:List Value) (h:iz):Prop:=cs= [.i h.yj,.i h.upto,.i h.loc,.string h.de]/\h.de.size<=maxLen
def RM (M:Nat->Prop) (w:World) (cs:List Value) (m:d9):Prop:=
 ∃va vh,cs= [.string m.name,.bool m.static,va,.i m.ret.kind,.string m.ret.de,.i m.stack,.i m.locals,.string m.code,vh]/\SL 2 RK M w va m.args/\SL 4 RH M w vh m.hands/\
  m.name.size<=maxLen/\m.ret.de.size<=maxLen/\m.code.size<=maxLen
def RC (M:Nat->Prop) (w:World) (cs:List Value) (c:aq):Prop:=
 ∃vf vm,cs= [.string c.name,.string c.bv,vf,vm]/\SL 3 RF M w vf c.fields/\SL 9 RM M w vm c.be/\c.name.size<=maxLen/\c.bv.size<=maxLen
structure Kp (M:Nat->Prop) (w w':World):Prop where
 size:w.heap.size<=w'.heap.size
 block:∀b,M b->b<w.heap.size->w'.heap[b]? =w.heap[b]?
theorem Kp.below {B:Nat} {w w':World} (h:Below B w w'):Kp (· <B) w w':=⟨h.size,fun b A _=>h.block b A⟩
theorem SL.kept {α:Type} {n:Nat} {R:(Nat->Prop)->World->List Value->α->Prop} {M:Nat->Prop} {w w':World} {v:Value} {l:List α} (h:SL n R M w v l) (G:Kp M w w')
 (N:∀A x,R M w A x->R M w' A x):SL n R M w' v l:=by
 obtain ⟨I,cap,rfl,h1,J,L⟩:=h;refine ⟨I,cap,rfl,h1,J,fun k D=>?_⟩;obtain ⟨b,off,A,e,E,F,V,hc,W⟩:=L k D;exact ⟨b,off,A,e,E,ll3 F G.size,V,fun j O=>(World.cell?_of_block (a:=⟨b,_,none⟩) (G.block b E F)).trans (hc j O),N _ _ W⟩
theorem SL.mono {α:Type} {n:Nat} {R:(Nat->Prop)->World->List Value->α->Prop} {M M':Nat->Prop} {w:World} {v:Value} {l:List α} (h:SL n R M w v l) (J:∀b,M b->M' b)
 (L:∀A x,R M w A x->R M' w A x):SL n R M' w v l:=by
 obtain ⟨F,cap,rfl,h1,G,I⟩:=h;refine ⟨F,cap,rfl,h1,G,fun k E=>?_⟩;obtain ⟨b,off,A,e,D,N,O,hc,V⟩:=I k E;exact ⟨b,off,A,e,J b D,N,O,hc,L _ _ V⟩
theorem SL.keptK {M:Nat->Prop} {w w':World} {v:Value} {l:List fm} (h:SL 2 RK M w v l) (A:Kp M w w'):SL 2 RK M w' v l:=h.kept A fun _ _ h=>h
theorem SL.keptF {M:Nat->Prop} {w w':World} {v:Value} {l:List bq} (h:SL 3 RF M w v l) (A:Kp M w w'):SL 3 RF M w' v l:=h.kept A fun _ _ h=>h
theorem SL.keptH {M:Nat->Prop} {w w':World} {v:Value} {l:List iz} (h:SL 4 RH M w v l) (A:Kp M w w'):SL 4 RH M w' v l:=h.kept A fun _ _ h=>h
theorem RM.kept {M:Nat->Prop} {w w':World} {A:List Value} {m:d9} (h:RM M w A m) (D:Kp M w w'):RM M w' A m:=by obtain ⟨G,I,e,E,F,r⟩:=h;exact ⟨G,I,e,E.keptK D,F.keptH D,r⟩
theorem SL.keptM {M:Nat->Prop} {w w':World} {v:Value} {l:List d9} (h:SL 9 RM M w v l) (A:Kp M w w'):SL 9 RM M w' v l:=h.kept A fun _ _ h=>h.kept A
theorem RC.kept {M:Nat->Prop} {w w':World} {A:List Value} {c:aq} (h:RC M w A c) (D:Kp M w w'):RC M w' A c:=by obtain ⟨G,I,e,E,F,r⟩:=h;exact ⟨G,I,e,E.keptF D,F.keptM D,r⟩
theorem SL.keptC {M:Nat->Prop} {w w':World} {v:Value} {l:List aq} (h:SL 4 RC M w v l) (A:Kp M w w'):SL 4 RC M w' v l:=h.kept A fun _ _ h=>h.kept A
theorem SL.monoK {M M':Nat->Prop} {w:World} {v:Value} {l:List fm} (h:SL 2 RK M w v l) (A:∀b,M b->M' b):SL 2 RK M' w v l:=h.mono A fun _ _ h=>h
theorem SL.monoF {M M':Nat->Prop} {w:World} {v:Value} {l:List bq} (h:SL 3 RF M w v l) (A:∀b,M b->M' b):SL 3 RF M' w v l:=h.mono A fun _ _ h=>h
theorem SL.monoH {M M':Nat->Prop} {w:World} {v:Value} {l:List iz} (h:SL 4 RH M w v l) (A:∀b,M b->M' b):SL 4 RH M' w v l:=h.mono A fun _ _ h=>h
theorem RM.mono {M M':Nat->Prop} {w:World} {A:List Value} {m:d9} (h:RM M w A m) (D:∀b,M b->M' b):RM M' w A m:=by obtain ⟨G,I,e,E,F,r⟩:=h;exact ⟨G,I,e,E.monoK D,F.monoH D,r⟩
theorem SL.monoM {M M':Nat->Prop} {w:World} {v:Value} {l:List d9} (h:SL 9 RM M w v l) (A:∀b,M b->M' b):SL 9 RM M' w v l:=h.mono A fun _ _ h=>h.mono A
theorem RC.mono {M M':Nat->Prop} {w:World} {A:List Value} {c:aq} (h:RC M w A c) (D:∀b,M b->M' b):RC M' w A c:=by obtain ⟨G,I,e,E,F,r⟩:=h;exact ⟨G,I,e,E.monoF D,F.monoM D,r⟩
theorem SL.monoC {M M':Nat->Prop} {w:World} {v:Value} {l:List aq} (h:SL 4 RC M w v l) (A:∀b,M b->M' b):SL 4 RC M' w v l:=h.mono A fun _ _ h=>h.mono A
theorem ow {w W:World} {b:Nat} (h:w.grownBy W (some b)) (a:Addr) (u:Value) (D:a.block=b\/w.heap.size<=a.block):w.grownBy (W.setCell a u) (some b):=
 ⟨h.os,h.tape,h.output,by simpa [World.setCell]using h.size,fun k E A=>by
  rw [Below.heap_setCell _ _ _ _ (by intro e;subst e;rcases D with D | D;· exact A (by rw [D])
                                     ·omega)]
  exact h.block k E A⟩
theorem za9 {w W:World} {b:Nat} (h:w.grownBy W (some b)) (o:Obj):w.grownBy (W.alloc o) (some b):=
 ⟨h.os,h.tape,h.output,lt3 h.size (by simp),fun k D A=>by
  rw [Below.heap_alloc _ _ _ (ll3 D h.size)];exact h.block k D A⟩
theorem zbh {w w':World} {B:Nat} {e A n:Nat} {v:Value} {xs:List Value} (h:w.ownsRow B e A v n xs) (D:Bl w w'):w'.ownsRow B e A v n xs:=
 h.kept (row:=none) ⟨D.os,D.tape,D.output,D.size,fun k E _=>D.block k E⟩ (by cases v.ownBlock<;>simp)
theorem rn {w W w':World} {b:Nat} (h:Bl w W) (D:W.grownBy w' (some b)) (A:w.heap.size<=b):Bl w w':=
 h.grown D h.size (fun k e=>by cases e;exact A)
theorem Ah {w:World} {B B' e A n:Nat} {v:Value} {xs:List Value} (h:w.ownsRow B e A v n xs) (G:B'<=B):w.ownsRow B' e A v n xs:=by
 refine ⟨h.1,?_⟩;rcases h.2 with h | ⟨g,cap,D,h1,E,F⟩
 ·exact Or.inl h
 exact Or.inr ⟨g,cap,D,h1,lt3 G E,F⟩
abbrev wrongV (e p:Int):PanicEntry:={ v:=.iface 164 (.agg #[.i e,.i p]),recovered:=false }
def Ba (b:Bool) (e p:Int) (r:Ending):Prop:=(b=false/\r=.panicked [wrongV e p])\/(b=true/\r=.returned (.tuple #[]))
def pc (e:Int) (r:Ending):Prop:=(e≠0/\r=.panicked [wrongV e 0])\/(e=0/\r=.returned (.tuple #[]))
theorem zbj (w:World) (b:Bool) (e p:Int):
 Calls prog 138 #[.bool b,.i e,.i p] w fun r w'=>w'=w/\Ba b e p r:=by
 cases b
 ·go_enter func138,ntmps138;go_wp2
  exact ⟨rfl,rfl,Or.inl ⟨rfl,rfl⟩⟩
 go_enter func138,ntmps138;go_wp2
 go_end0;exact ⟨rfl,Or.inr ⟨rfl,rfl⟩⟩
theorem od (w:World) (b:Bool) (e:Int):
 Calls prog 82 #[.bool b,.i e] w fun r w'=>w'=w/\Ba b e 0 r:=by
 go_enter func82,ntmps82;go_wp2_with fail;refine (zbj _ _ _ _).mono ?_;rintro r A ⟨rfl,⟨rfl,rfl⟩ | ⟨rfl,rfl⟩⟩
 ·exact ⟨rfl,rfl,Or.inl ⟨rfl,rfl⟩⟩
 go_wp2
 go_end0;exact ⟨rfl,Or.inr ⟨rfl,rfl⟩⟩
theorem zbk (w:World) (n:Nat):
 Calls prog 311 #[.int .u8 n] w fun r w'=>r=.returned (.bool (da n))/\w'=w:=by
 have D:Hid (da n=da n):=rfl;rcases (by omega:n<48\/(48<=n/\n<=57)\/(57<n/\n<65)\/(65<=n/\n<=90)\/(90<n/\n<97/\n≠95)\/n=95\/(97<=n/\n<=122)\/122<n)with h | h | h | h | h | h | h | h
 ·have A:da n=false:=by simp [da];omega
  have E:¬(97:Int)<=n:=by omega
  have F:¬(65:Int)<=n:=by omega
  have G:¬(48:Int)<=n:=by omega
  have I:((n:Int)==95)=false:=by simp;omega
  rw [A];clear A D h;go_enter func311,ntmps311;go_wp2
  go_ret;exact ⟨rfl,rfl⟩
 ·have A:da n=true:=by simp [da];omega
  have E:¬(97:Int)<=n:=by omega
  have F:¬(65:Int)<=n:=by omega
  have G:(48:Int)<=n:=by omega
  have I:(n:Int)<=57:=by omega
  rw [A];clear A D h;go_enter func311,ntmps311;go_wp2
  go_ret;exact ⟨rfl,rfl⟩
 ·have A:da n=false:=by simp [da];omega
  have E:¬(97:Int)<=n:=by omega
  have F:¬(65:Int)<=n:=by omega
  have G:(48:Int)<=n:=by omega
  have I:¬(n:Int)<=57:=by omega
  have J:((n:Int)==95)=false:=by simp;omega
  rw [A];clear A D h;go_enter func311,ntmps311;go_wp2
  go_ret;exact ⟨rfl,rfl⟩
 ·have A:da n=true:=by simp [da];omega
  have E:¬(97:Int)<=n:=by omega
  have F:(65:Int)<=n:=by omega
  have G:(n:Int)<=90:=by omega
  rw [A];clear A D h;go_enter func311,ntmps311;go_wp2
  go_ret;exact ⟨rfl,rfl⟩
 ·have A:da n=false:=by simp [da];omega
  have E:¬(97:Int)<=n:=by omega
  have F:(65:Int)<=n:=by omega
  have G:¬(n:Int)<=90:=by omega
  have I:(48:Int)<=n:=by omega
  have J:¬(n:Int)<=57:=by omega
  have L:((n:Int)==95)=false:=by simp;omega
  rw [A];clear A D h;go_enter func311,ntmps311;go_wp2
  go_ret;exact ⟨rfl,rfl⟩
 ·subst h;go_enter func311,ntmps311;go_wp2
  go_ret;exact ⟨rfl,rfl⟩
 ·have A:da n=true:=by simp [da];omega
  have E:(97:Int)<=n:=by omega
  have F:(n:Int)<=122:=by omega
  rw [A];clear A D h;go_enter func311,ntmps311;go_wp2
  go_ret;exact ⟨rfl,rfl⟩
 have A:da n=false:=by simp [da];omega
 have E:(97:Int)<=n:=by omega
 have F:¬(n:Int)<=122:=by omega
 have G:(65:Int)<=n:=by omega
 have I:¬(n:Int)<=90:=by omega
 have J:(48:Int)<=n:=by omega
 have L:¬(n:Int)<=57:=by omega
 have N:((n:Int)==95)=false:=by simp;omega
 rw [A];clear A D h;go_enter func311,ntmps311;go_wp2
 go_ret;exact ⟨rfl,rfl⟩
theorem Fh (w:World) (s:ByteArray) (_hs:s.size<=maxLen):
 Calls prog 281 #[.string s] w fun r w'=>r=.returned (.bool (dc s))/\w'=w:=by
 by_cases h0:s.size<1
 ·have A:Hid (dc s=false):=by show dc s=false;simp [dc];omega
  have G:(s.size:Int)<1:=by omega
  clear h0;go_enter func281,ntmps281;go_wp2
  go_ret;exact ⟨by rw [A.o];rfl,rfl⟩
 by_cases h1:20<s.size
 ·have A:Hid (dc s=false):=by show dc s=false;simp [dc];omega
  have G:¬(s.size:Int)<1:=by omega
  have I:(20:Int)<s.size:=by omega
  clear h0 h1;go_enter func281,ntmps281;go_wp2
  go_ret;exact ⟨by rw [A.o];rfl,rfl⟩
 have G:¬(s.size:Int)<1:=by omega
 have I:¬(20:Int)<s.size:=by omega
 have A:Hid (dc s=j5 s):=by show dc s=j5 s;simp [dc];omega
 go_enter func281,ntmps281;go_wp2
 go_loop [14] (fun i=>∃k:Nat,k<=s.size/\i=.i k/\∀j,j<k->da (bt s j)=true) (fun i=>s.size - (intOf i).toNat)
 case atStart=>exact ⟨0,n0q _,rfl,fun j J=>by omega⟩
 case round=>
  obtain ⟨k,N,rfl,F⟩:=hrel;by_cases D:k<s.size
  ·have L:(s[k].toNat)=bt s k:=(D5 s k D).symm;go_wp2_with fail;refine (zbk _ _).mono ?_;rintro r O ⟨rfl,rfl⟩;cases hb:da (bt s k)
   ·have E:Hid (j5 s=false):=zan D hb;go_wp2
    go_ret;exact ⟨by rw [A.o,E.o];rfl,rfl⟩
   go_wp2
   go_round
   case rel=>exact ⟨k+1,by omega,by go_num,fun j J=>if hjk:j=k then hjk ▸ hb else F j (by omega)⟩
   case measure=>simp [intOf];omega
  have E:Hid (j5 s=true):=zao fun i hi=>F i (by omega);go_wp2
  go_ret;exact ⟨by rw [A.o,E.o];rfl,rfl⟩
theorem wo (s:ByteArray):s.toList.isEmpty=decide (s.size=0):=by rw [ByteArray.toList_eq];obtain ⟨⟨l⟩⟩:=s;cases l<;>rfl
theorem zbm (w:World) (n m:Int):
 Calls prog 313 #[.i n,.i m] w fun r w'=>r=.returned (.bool (win n m))/\w'=w:=by
 by_cases h0:0<=n
 ·by_cases h1:n<=m
  ·go_enter func313,ntmps313;go_wp2
   go_ret;simp [win,h0,h1]
  go_enter func313,ntmps313;go_wp2
  go_ret;simp [win,h1]
 go_enter func313,ntmps313;go_wp2
 go_ret;simp [win];omega
theorem zbn (w:World) (n:Int):
 Calls prog 312 #[.i n] w fun r w'=>r=.returned (.bool (mx n))/\w'=w:=by
 by_cases h0:n=3
 ·subst h0;go_enter func312,ntmps312;go_wp2
  go_ret;exact ⟨rfl,rfl⟩
 have A:Hid (mx n=decide (n=4)):=by show mx n=_;simp [mx,h0]
 have D:(n==3)=false:=by simp [h0]
 clear h0;go_enter func312,ntmps312;go_wp2
 go_ret;exact ⟨by rw [A.o];rfl,rfl⟩
theorem zbo (w:World) (k:fm) (I:k.de.size<=maxLen):
 Calls prog 282 #[.agg #[.i k.kind,.string k.de]] w fun r w'=>r=.returned (.bool (je k))/\Bl w w':=by
 obtain ⟨n,s⟩:=k
 dsimp only at*
 have F:=fun o=>(br w.heap.size w).alloc (nlq _) o;have D:Hid (je ⟨n,s⟩=if mx n=true then dc s else (decide (n=1)||decide (n=2))&&decide (s.size=0)):=rfl;go_enter func282,ntmps282;go_wp2_with fail;refine (zbn _ _).mono ?_;rintro r J ⟨rfl,rfl⟩;cases hc:mx n
 ·have A:=ag hc;clear hc;have O:=wo s;by_cases h1:n=1
  ·subst h1;go_wp2
   go_ret;refine ⟨by rw [D.o,A.o];simp,F _⟩
  have L:(n==1)=false:=by simp [h1]
  by_cases E:n=2
  ·subst E;go_wp2
   go_ret;refine ⟨by rw [D.o,A.o];simp,F _⟩
  have N:(n==2)=false:=by simp [E]
  have G:Hid ((decide (n=1)||decide (n=2))=false):=by show _=_;simp [h1,E]
  clear h1 E;go_wp2
  go_ret;refine ⟨by rw [D.o,A.o,G.o];simp,F _⟩
 have A:=ag hc;clear hc;go_wp2_with fail;refine (Fh _ _ I).mono ?_;rintro r J ⟨rfl,rfl⟩;go_wp2
 go_ret;refine ⟨by rw [D.o,A.o];simp,F _⟩
theorem zbp (w:World) (k:fm) (J:k.de.size<=maxLen):
 Calls prog 314 #[.agg #[.i k.kind,.string k.de]] w fun r w'=>r=.returned (.bool (returnedB k))/\Bl w w':=by
 obtain ⟨n,s⟩:=k
 dsimp only at*
 have G:=(br w.heap.size w).alloc (nlq _) (.cells #[.i n,.string s] 123);have E:Hid (returnedB ⟨n,s⟩=(je ⟨n,s⟩||(decide (n=0)&&decide (s.size=0)))):=rfl;go_enter func314,ntmps314;go_wp2_with fail;refine (zbo _ ⟨n,s⟩ J).mono ?_;rintro r F ⟨rfl,A⟩;have N:F.cell? ⟨w.heap.size,0,none⟩=some (.i n):=(A.cell (p:=⟨w.heap.size,0,none⟩) (by simp)).trans (by simp [go_sem]);have O:F.cell? ⟨w.heap.size,1,none⟩=some (.string s):=(A.cell (p:=⟨w.heap.size,1,none⟩) (by simp)).trans (by simp [go_sem]);have D:Bl w F:=G.trans (A.mono (by simp));clear G A;generalize je ⟨n,s⟩=rb at*;have V:=wo s;cases rb
 ·by_cases h1:n=0
  ·subst h1;go_wp2
   go_ret;refine ⟨by rw [E.o];simp,D⟩
  have L:(n==0)=false:=by simp [h1]
  have I:Hid (decide (n=0)=false):=by show _=_;simp [h1]
  clear h1;go_wp2
  go_ret;refine ⟨by rw [E.o,I.o];simp,D⟩
 go_wp2
 go_ret;refine ⟨by rw [E.o];simp,D⟩
theorem t8 {c e:Int} (h:c=e) (A:e≠0):pc c (.panicked [wrongV e 0]):=Or.inl ⟨by rw [h];exact A,by rw [h]⟩
theorem zbr {c:Int} (h:c=0):pc c (.returned (.tuple #[])):=Or.inr ⟨h,rfl⟩
theorem zbs (w:World) (h:iz) (N:h.de.size<=maxLen):
 Calls prog 315 #[.agg #[.i h.yj,.i h.upto,.i h.loc,.string h.de]] w fun r w'=>pc (fd h) r/\Bl w w':=by
 obtain ⟨a,b,c,s⟩:=h
 dsimp only at*
 have I:=(br w.heap.size w).alloc (nlq _) (.cells #[.i a,.i b,.i c,.string s] 248);have J:Hid (fd ⟨a,b,c,s⟩=oa (dc s) 1 (oa (win a 200) 3 (oa (win b 200) 3 (oa (win c 200) 3 0)))):=rfl;go_enter func315,ntmps315;go_wp2_with fail;refine (Fh _ _ N).mono ?_;rintro r G ⟨rfl,rfl⟩;go_wp2_with fail;refine (od _ _ _).mono ?_;rintro r G ⟨rfl,⟨A,rfl⟩ | ⟨A,rfl⟩⟩
 ·exact ⟨rfl,t8 (by rw [J.o,A,qt]) (by decide),I⟩
 have D:=ag (J.o.trans (by rw [A,oz]));clear A J;go_wp2_with fail;refine (zbm _ _ _).mono ?_;rintro r G ⟨rfl,rfl⟩;go_wp2_with fail;refine (od _ _ _).mono ?_;rintro r G ⟨rfl,⟨A,rfl⟩ | ⟨A,rfl⟩⟩
 ·exact ⟨rfl,t8 (by rw [D.o,A,qt]) (by decide),I⟩
 have E:=ag (D.o.trans (by rw [A,oz]));clear A D;go_wp2_with fail;refine (zbm _ _ _).mono ?_;rintro r G ⟨rfl,rfl⟩;go_wp2_with fail;refine (od _ _ _).mono ?_;rintro r G ⟨rfl,⟨A,rfl⟩ | ⟨A,rfl⟩⟩
 ·exact ⟨rfl,t8 (by rw [E.o,A,qt]) (by decide),I⟩
 have F:=ag (E.o.trans (by rw [A,oz]));clear A E;go_wp2_with fail;refine (zbm _ _ _).mono ?_;rintro r G ⟨rfl,rfl⟩;go_wp2_with fail;refine (od _ _ _).mono ?_;rintro r G ⟨rfl,⟨A,rfl⟩ | ⟨A,rfl⟩⟩
 ·exact ⟨rfl,t8 (by rw [F.o,A,qt]) (by decide),I⟩
 have L:=ag (F.o.trans (by rw [A,oz]));clear A F;go_wp2
 go_end0;exact ⟨zbr L.o,I⟩
theorem SL.at {α:Type} {n:Nat} {R:(Nat->Prop)->World->List Value->α->Prop} {M:Nat->Prop} {w:World} {A:Option Addr} {len cap:Nat} {l:List α} (h:SL n R M w (.slice A len cap) l) (k:Nat) (G:k<l.length):
 ∃b off cs,A=some ⟨b,off,none⟩/\M b/\b<w.heap.size/\cs.length=n/\(∀j,j<n->w.cell? ⟨b,off+k*n+j,none⟩=cs[j]?)/\R M w cs l[k]:=by
 obtain ⟨E,D,e,_,_,F⟩:=h;cases e;exact F k G
theorem SL.atK {M:Nat->Prop} {w:World} {A:Option Addr} {len cap:Nat} {l:List fm} (h:SL 2 RK M w (.slice A len cap) l) (k:Nat) (E:k<l.length):
 ∃b off,A=some ⟨b,off,none⟩/\b<w.heap.size/\w.cell? ⟨b,off+k*2,none⟩=some (.i l[k].kind)/\w.cell? ⟨b,off+k*2+1,none⟩=some (.string l[k].de)/\l[k].de.size<=maxLen:=by
 obtain ⟨b,off,G,e,_,D,_,hc,rfl,F⟩:=h.at k E;exact ⟨b,off,e,D,hc 0 (by omega),hc 1 (by omega),F⟩
theorem SL.atF {M:Nat->Prop} {w:World} {A:Option Addr} {len cap:Nat} {l:List bq} (h:SL 3 RF M w (.slice A len cap) l) (k:Nat) (E:k<l.length):
 ∃b off,A=some ⟨b,off,none⟩/\b<w.heap.size/\w.cell? ⟨b,off+k*3,none⟩=some (.string l[k].name)/\w.cell? ⟨b,off+k*3+1,none⟩=some (.i l[k].kind.kind)/\w.cell? ⟨b,off+k*3+2,none⟩=some (.string l[k].kind.de)/\l[k].name.size<=maxLen/\l[k].kind.de.size<=maxLen:=by
 obtain ⟨b,off,G,e,_,D,_,hc,rfl,F⟩:=h.at k E;exact ⟨b,off,e,D,hc 0 (by omega),hc 1 (by omega),hc 2 (by omega),F⟩
theorem SL.atH {M:Nat->Prop} {w:World} {A:Option Addr} {len cap:Nat} {l:List iz} (h:SL 4 RH M w (.slice A len cap) l) (k:Nat) (E:k<l.length):
 ∃b off,A=some ⟨b,off,none⟩/\b<w.heap.size/\w.cell? ⟨b,off+k*4,none⟩=some (.i l[k].yj)/\w.cell? ⟨b,off+k*4+1,none⟩=some (.i l[k].upto)/\w.cell? ⟨b,off+k*4+2,none⟩=some (.i l[k].loc)/\w.cell? ⟨b,off+k*4+3,none⟩=some (.string l[k].de)/\l[k].de.size<=maxLen:=by
 obtain ⟨b,off,G,e,_,D,_,hc,rfl,F⟩:=h.at k E;exact ⟨b,off,e,D,hc 0 (by omega),hc 1 (by omega),hc 2 (by omega),hc 3 (by omega),F⟩
theorem SL.atM {M:Nat->Prop} {w:World} {E:Option Addr} {len cap:Nat} {l:List d9} (h:SL 9 RM M w (.slice E len cap) l) (k:Nat) (G:k<l.length):
 ∃b off A D,E=some ⟨b,off,none⟩/\b<w.heap.size/\w.cell? ⟨b,off+k*9,none⟩=some (.string l[k].name)/\w.cell? ⟨b,off+k*9+1,none⟩=some (.bool l[k].static)/\w.cell? ⟨b,off+k*9+2,none⟩=some A/\
  w.cell? ⟨b,off+k*9+3,none⟩=some (.i l[k].ret.kind)/\w.cell? ⟨b,off+k*9+4,none⟩=some (.string l[k].ret.de)/\w.cell? ⟨b,off+k*9+5,none⟩=some (.i l[k].stack)/\w.cell? ⟨b,off+k*9+6,none⟩=some (.i l[k].locals)/\
  w.cell? ⟨b,off+k*9+7,none⟩=some (.string l[k].code)/\w.cell? ⟨b,off+k*9+8,none⟩=some D/\SL 2 RK M w A l[k].args/\SL 4 RH M w D l[k].hands/\l[k].name.size<=maxLen/\l[k].ret.de.size<=maxLen/\l[k].code.size<=maxLen:=by
 obtain ⟨b,off,J,e,_,F,_,hc,A,D,rfl,I⟩:=h.at k G;exact ⟨b,off,A,D,e,F,hc 0 (by omega),hc 1 (by omega),hc 2 (by omega),hc 3 (by omega),hc 4 (by omega),hc 5 (by omega),hc 6 (by omega),hc 7 (by omega),hc 8 (by omega),I⟩
theorem SL.atC {M:Nat->Prop} {w:World} {A:Option Addr} {len cap:Nat} {l:List aq} (h:SL 4 RC M w (.slice A len cap) l) (k:Nat) (E:k<l.length):
 ∃b off vf vm,A=some ⟨b,off,none⟩/\b<w.heap.size/\w.cell? ⟨b,off+k*4,none⟩=some (.string l[k].name)/\w.cell? ⟨b,off+k*4+1,none⟩=some (.string l[k].bv)/\w.cell? ⟨b,off+k*4+2,none⟩=some vf/\
  w.cell? ⟨b,off+k*4+3,none⟩=some vm/\SL 3 RF M w vf l[k].fields/\SL 9 RM M w vm l[k].be/\l[k].name.size<=maxLen/\l[k].bv.size<=maxLen:=by
 obtain ⟨b,off,J,e,_,D,_,hc,G,I,rfl,F⟩:=h.at k E;exact ⟨b,off,G,I,e,D,hc 0 (by omega),hc 1 (by omega),hc 2 (by omega),hc 3 (by omega),F⟩
theorem zbt {k:fm} (h:je k=false):ki k=7:=by rw [ki,h,qt]
theorem zbu {k:fm} (h:je k=true):ki k=0:=by rw [ki,h,oz]
theorem zbv {r:Int} :pv 0 r=r:=rfl
theorem Cf {e r:Int} (h:e≠0):pv e r=e:=by rw [pv,if_neg h]
theorem zbx (w:World) (B:Nat) (m:d9) (va vh:Value) (ha:SL 2 RK (· <B) w va m.args) (hh:SL 4 RH (· <B) w vh m.hands) (hB:B<=w.heap.size) (ax:m.name.size<=maxLen) (ay:m.ret.de.size<=maxLen):
 Calls prog 283 #[.agg #[.string m.name,.bool m.static,va,.i m.ret.kind,.string m.ret.de,.i m.stack,.i m.locals,.string m.code,vh]] w fun r w'=>pc (dw m) r/\Bl w w':=by
 obtain ⟨W,J,args,⟨rk,rc⟩,L,E,F,A⟩:=m
 dsimp only at*
 have HA:=ag ha;have HH:=ag hh;obtain ⟨ao,ca,rfl,az,av,_⟩:=ha;obtain ⟨ho,ch,rfl,a0,aw,_⟩:=hh;unfold maxLen at av aw;have aa:Hid (dw ⟨W,J,args,⟨rk,rc⟩,L,E,F,A⟩=oa (dc W) 1 (oa (decide (args.length<=4)) 2 (oa (decide (F.size<=200)) 2 (oa (decide (A.length<=4)) 2 (oa (win L 10) 3 (oa (win E 10) 3 (pv (ik ki args) (oa (returnedB ⟨rk,rc⟩) 7 (ik fd A))))))))):=rfl;generalize dw ⟨W,J,args,⟨rk,rc⟩,L,E,F,A⟩=X at*;go_enter func283,ntmps283;go_wp2_with fail;generalize hW:w.alloc (.cells #[.string W,.bool J,.slice ao args.length ca,.i rk,.string rc,.i L,.i E,.string F,.slice ho A.length ch] 159)=W0;have hz:W0.heap.size=w.heap.size+1:=by rw [<-hW];simp
 have G:Bl w W0:=by rw [<-hW];exact (br w.heap.size w).alloc (nlq _) _
 have c0:W0.cell? ⟨w.heap.size,0,none⟩=some (.string W):=by rw [<-hW];simp [go_sem]
 have c1:W0.cell? ⟨w.heap.size,1,none⟩=some (.bool J):=by rw [<-hW];simp [go_sem]
 have c2:W0.cell? ⟨w.heap.size,2,none⟩=some (.slice ao args.length ca):=by rw [<-hW];simp [go_sem]
 have c3:W0.cell? ⟨w.heap.size,3,none⟩=some (.i rk):=by rw [<-hW];simp [go_sem]
 have c4:W0.cell? ⟨w.heap.size,4,none⟩=some (.string rc):=by rw [<-hW];simp [go_sem]
 have c5:W0.cell? ⟨w.heap.size,5,none⟩=some (.i L):=by rw [<-hW];simp [go_sem]
 have c6:W0.cell? ⟨w.heap.size,6,none⟩=some (.i E):=by rw [<-hW];simp [go_sem]
 have c7:W0.cell? ⟨w.heap.size,7,none⟩=some (.string F):=by rw [<-hW];simp [go_sem]
 have c8:W0.cell? ⟨w.heap.size,8,none⟩=some (.slice ho A.length ch):=by rw [<-hW];simp [go_sem]
 clear hW;refine (Fh _ _ ax).mono ?_;rintro r Y ⟨rfl,rfl⟩;go_wp2_with fail;refine (od _ _ _).mono ?_;rintro r Y ⟨rfl,⟨D,rfl⟩ | ⟨D,rfl⟩⟩
 ·exact ⟨rfl,t8 (by rw [aa.o,D,qt]) (by decide),G⟩
 have ac:=ag (aa.o.trans (by rw [D,oz]));clear D aa;by_cases hq:args.length<=4
 rotate_left
 ·have ap:¬(args.length:Int)<=4:=by omega
  go_wp2_with fail;refine (od _ _ _).mono ?_;rintro r Y ⟨rfl,⟨D,rfl⟩ | ⟨D,rfl⟩⟩
  ·exact ⟨rfl,t8 (by rw [ac.o,decide_eq_false hq,qt]) (by decide),G⟩
  exact absurd D (by first | (simp;done) | (simp;omega))
 have a1:(args.length:Int)<=4:=by omega
 have ad:=ag (ac.o.trans (by rw [decide_eq_true hq,oz]));clear hq ac;go_wp2_with fail;refine (od _ _ _).mono ?_;rintro r Y ⟨rfl,⟨D,rfl⟩ | ⟨D,rfl⟩⟩
 ·exact absurd D (by simp)
 clear D;by_cases hq:F.size<=200
 rotate_left
 ·have ap:¬(F.size:Int)<=200:=by omega
  go_wp2_with fail;refine (od _ _ _).mono ?_;rintro r Y ⟨rfl,⟨D,rfl⟩ | ⟨D,rfl⟩⟩
  ·exact ⟨rfl,t8 (by rw [ad.o,decide_eq_false hq,qt]) (by decide),G⟩
  exact absurd D (by first | (simp;done) | (simp;omega))
 have a2:(F.size:Int)<=200:=by omega
 have af:=ag (ad.o.trans (by rw [decide_eq_true hq,oz]));clear hq ad;go_wp2_with fail;refine (od _ _ _).mono ?_;rintro r Y ⟨rfl,⟨D,rfl⟩ | ⟨D,rfl⟩⟩
 ·exact absurd D (by simp)
 clear D;by_cases hq:A.length<=4
 rotate_left
 ·have ap:¬(A.length:Int)<=4:=by omega
  go_wp2_with fail;refine (od _ _ _).mono ?_;rintro r Y ⟨rfl,⟨D,rfl⟩ | ⟨D,rfl⟩⟩
  ·exact ⟨rfl,t8 (by rw [af.o,decide_eq_false hq,qt]) (by decide),G⟩
  exact absurd D (by first | (simp;done) | (simp;omega))
 have a3:(A.length:Int)<=4:=by omega
 have ah:=ag (af.o.trans (by rw [decide_eq_true hq,oz]));clear hq af;go_wp2_with fail;refine (od _ _ _).mono ?_;rintro r Y ⟨rfl,⟨D,rfl⟩ | ⟨D,rfl⟩⟩
 ·exact absurd D (by simp)
 clear D;go_wp2_with fail;refine (zbm _ _ _).mono ?_;rintro r Y ⟨rfl,rfl⟩;go_wp2_with fail;refine (od _ _ _).mono ?_;rintro r Y ⟨rfl,⟨D,rfl⟩ | ⟨D,rfl⟩⟩
 ·exact ⟨rfl,t8 (by rw [ah.o,D,qt]) (by decide),G⟩
 have ai:=ag (ah.o.trans (by rw [D,oz]));clear D ah;go_wp2_with fail;refine (zbm _ _ _).mono ?_;rintro r Y ⟨rfl,rfl⟩;go_wp2_with fail;refine (od _ _ _).mono ?_;rintro r Y ⟨rfl,⟨D,rfl⟩ | ⟨D,rfl⟩⟩
 ·exact ⟨rfl,t8 (by rw [ai.o,D,qt]) (by decide),G⟩
 have aj:=ag (ai.o.trans (by rw [D,oz]));clear D ai;go_wp2_with fail;go_loopw [36] (fun i wr=>∃k:Nat,k<=args.length/\i=.i k/\Hid (ik ki (args.drop k)=ik ki args)/\Below (w.heap.size+1) Y wr) (fun i _=>args.length - (intOf i).toNat)
 case atStart=>exact ⟨0,n0q _,rfl,rfl,br _ _⟩
 case round=>
  obtain ⟨k,hk,rfl,HP,I⟩:=hrel;have al:w.heap.size+1<=wr.heap.size:=by have:=I.size;omega
  by_cases O:k<args.length
  ·obtain ⟨b,off,rfl,au,e0,e1,es⟩:=(HA.o.keptK (Kp.below ((G.trans (I.mono (by omega))).mono hB))).atK k O;have Z:=I.alloc al (.cells #[.i args[k].kind,.string args[k].de] 123);go_wp2_with fail;refine (zbo _ args[k] es).mono ?_;rintro r w2 ⟨rfl,V⟩;have N:=Z.trans (V.mono (by simp;omega));clear V Z e0 e1;go_wp2_with fail;refine (od _ _ _).mono ?_;rintro r w3 ⟨rfl,⟨D,rfl⟩ | ⟨D,rfl⟩⟩
   ·refine ⟨rfl,t8 (e:=7) ?_ (by decide),G.trans (N.mono (by omega))⟩;rw [aj.o,<-HP.o,uh O (by rw [zbt D];decide),zbt D,Cf (by decide)]
   have HB:=ag (zbu D);clear D;go_wp2_with fail;go_roundw
   case rel=>exact ⟨k+1,by omega,by go_num,(zp O HB.o).symm.trans HP.o,N⟩
   case measure=>simp [intOf];omega
  have ak:=ag (aj.o.trans (by rw [<-HP.o,zq O,zbv]));have d3:=(I.cell (p:=⟨w.heap.size,3,none⟩) (by simp)).trans c3;have d4:=(I.cell (p:=⟨w.heap.size,4,none⟩) (by simp)).trans c4;clear HP aj;go_wp2_with fail;refine (zbp _ ⟨rk,rc⟩ ay).mono ?_;rintro r w2 ⟨rfl,V⟩;have N:=I.trans (V.mono (by omega));clear V I d3 d4;go_wp2_with fail;refine (od _ _ _).mono ?_;rintro r w3 ⟨rfl,⟨D,rfl⟩ | ⟨D,rfl⟩⟩
  ·exact ⟨rfl,t8 (by rw [ak.o,D,qt]) (by decide),G.trans (N.mono (by omega))⟩
  have an:=ag (ak.o.trans (by rw [D,oz]));clear D ak;have d8:=(N.cell (p:=⟨w.heap.size,8,none⟩) (by simp)).trans c8;go_wp2_with fail;go_loopw [51] (fun i wr=>∃k:Nat,k<=A.length/\i=.i k/\Hid (ik fd (A.drop k)=ik fd A)/\Below (w.heap.size+1) Y wr) (fun i _=>A.length - (intOf i).toNat)
  case atStart=>exact ⟨0,n0q _,rfl,rfl,N⟩
  case round=>
   obtain ⟨k,hk,rfl,HP,I⟩:=hrel;have al:w.heap.size+1<=wr.heap.size:=by have:=I.size;omega
   by_cases O:k<A.length
   ·obtain ⟨b,off,rfl,au,e0,e1,e2,e3,es⟩:=(HH.o.keptH (Kp.below ((G.trans (I.mono (by omega))).mono hB))).atH k O;have Z:=I.alloc al (.cells #[.i A[k].yj,.i A[k].upto,.i A[k].loc,.string A[k].de] 248);go_wp2_with fail;refine (zbs _ A[k] es).mono ?_;rintro r w2 ⟨hr,V⟩;have N:=Z.trans (V.mono (by simp;omega));clear V Z e0 e1 e2 e3;rcases hr with ⟨hc,rfl⟩ | ⟨hc,rfl⟩
    ·refine ⟨rfl,t8 ?_ hc,G.trans (N.mono (by omega))⟩;rw [an.o,<-HP.o,uh O hc]
    have HB:=ag hc;clear hc;go_wp2_with fail;go_roundw
    case rel=>exact ⟨k+1,by omega,by go_num,(zp O HB.o).symm.trans HP.o,N⟩
    case measure=>simp [intOf];omega
   go_wp2_with fail;go_end0;exact ⟨zbr (by rw [an.o,<-HP.o,zq O]),G.trans (I.mono (by omega))⟩
end Go.Proofs.YtjdnmblggdobgaaGreat
