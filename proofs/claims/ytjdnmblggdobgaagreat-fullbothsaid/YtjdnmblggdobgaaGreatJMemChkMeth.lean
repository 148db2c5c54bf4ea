import Derived.Test.YtjdnmblggdobgaaGreatJPlainFine
import Derived.Test.YtjdnmblggdobgaaGreatChecked
import Derived.WalkLawsBesides
import Derived.WalkSpells
import Derived.BigQuiet
import Derived.Deep.LoopGhost
set_option maxHeartbeats 2000000
namespace Go.Proofs.YtjdnmblggdobgaaGreat
open Go.RowKit Tryz Or World
variable {k:fw} {c e r:Int} {α:Type} {n:Nat} {R:(Nat->Prop)->World->List Value->α->Prop} {M M':Nat->Prop} {w W w':World} {B b:Nat} {A:List Value} {m:ew} {ao:Option Addr} {len cap:Nat} {v:Value} {l:List α}
theorem aj {p:Prop} (h:p):Hid p:=h
def SL {α:Type} (n:Nat) (R:(Nat->Prop)->World->List Value->α->Prop) (M:Nat->Prop) (w:World) (v:Value) (l:List α):Prop:=
 ∃ao cap,v=.slice ao l.length cap/\l.length<=cap/\l.length<=maxLen/\∀k (hk:k<l.length),∃b off cs,ao=some ⟨b,off,none⟩/\M b/\b<w.heap.size/\cs.length=n/\(∀j,j<n->w.cell? ⟨b,off+k*n+j,none⟩=cs[j]?)/\R M w cs l[k]
def RK (_:Nat->Prop) (_:World) (cs:List Value) (k:fw):Prop:=cs= [.i k.kind,.string k.dj]/\k.dj.size<=maxLen
def RF (_:Nat->Prop) (_:World) (cs:List Value) (f:bv):Prop:=cs= [.string f.name,.i f.kind.kind,.string f.kind.dj]/\f.name.size<=maxLen/\f.kind.dj.size<=maxLen
def RH (_:Nat->Prop) (_:World) (cs:List Value) (h:jg):Prop:=cs= [.i h.zp,.i h.upto,.i h.loc,.string h.dj]/\h.dj.size<=maxLen
def RM (M:Nat->Prop) (w:World) (cs:List Value) (m:ew):Prop:=
 ∃va vh,cs= [.string m.name,.bool m.static,va,.i m.ret.kind,.string m.ret.dj,.i m.stack,.i m.locals,.string m.code,vh]/\SL 2 RK M w va m.args/\SL 4 RH M w vh m.hands/\
  m.name.size<=maxLen/\m.ret.dj.size<=maxLen/\m.code.size<=maxLen
def RC (M:Nat->Prop) (w:World) (cs:List Value) (c:aq):Prop:=
 ∃vf vm,cs= [.string c.name,.string c.b9,vf,vm]/\SL 3 RF M w vf c.fields/\SL 9 RM M w vm c.bd/\c.name.size<=maxLen/\c.b9.size<=maxLen
structure Kp (M:Nat->Prop) (w w':World):Prop where
 size:w.heap.size<=w'.heap.size
 block:∀b,M b->b<w.heap.size->w'.heap[b]? =w.heap[b]?
theorem Kp.below {w w':World} (h:Below B w w'):Kp (· <B) w w':=⟨h.size,fun b A _=>h.block b A⟩
theorem SL.kept (h:SL n R M w v l) (G:Kp M w w') (L:∀A x,R M w A x->R M w' A x):SL n R M w' v l:=by
 obtain ⟨ao,cap,rfl,h1,I,J⟩:=h;refine ⟨ao,cap,rfl,h1,I,fun k D=>?_⟩;obtain ⟨b,off,A,e,E,F,O,hc,V⟩:=J k D;exact ⟨b,off,A,e,E,ll3 F G.size,O,fun j N=>(cell?_of_block (a:=⟨b,_,none⟩) (G.block b E F)).trans (hc j N),L _ _ V⟩
theorem SL.mono (h:SL n R M w v l) (I:∀b,M b->M' b) (J:∀A x,R M w A x->R M' w A x):SL n R M' w v l:=by
 obtain ⟨ao,cap,rfl,h1,F,G⟩:=h;refine ⟨ao,cap,rfl,h1,F,fun k E=>?_⟩;obtain ⟨b,off,A,e,D,L,N,hc,O⟩:=G k E;exact ⟨b,off,A,e,I b D,L,N,hc,J _ _ O⟩
theorem SL.keptK {l:List fw} (h:SL 2 RK M w v l) (A:Kp M w w'):SL 2 RK M w' v l:=h.kept A fun _ _ h=>h
theorem SL.keptF {l:List bv} (h:SL 3 RF M w v l) (A:Kp M w w'):SL 3 RF M w' v l:=h.kept A fun _ _ h=>h
theorem SL.keptH {l:List jg} (h:SL 4 RH M w v l) (A:Kp M w w'):SL 4 RH M w' v l:=h.kept A fun _ _ h=>h
theorem RM.kept (h:RM M w A m) (D:Kp M w w'):RM M w' A m:=by obtain ⟨G,I,e,E,F,r⟩:=h;exact ⟨G,I,e,E.keptK D,F.keptH D,r⟩
theorem SL.keptM {l:List ew} (h:SL 9 RM M w v l) (A:Kp M w w'):SL 9 RM M w' v l:=h.kept A fun _ _ h=>h.kept A
theorem RC.kept {c:aq} (h:RC M w A c) (D:Kp M w w'):RC M w' A c:=by obtain ⟨G,I,e,E,F,r⟩:=h;exact ⟨G,I,e,E.keptF D,F.keptM D,r⟩
theorem SL.keptC {l:List aq} (h:SL 4 RC M w v l) (A:Kp M w w'):SL 4 RC M w' v l:=h.kept A fun _ _ h=>h.kept A
theorem SL.monoK {l:List fw} (h:SL 2 RK M w v l) (A:∀b,M b->M' b):SL 2 RK M' w v l:=h.mono A fun _ _ h=>h
theorem SL.monoF {l:List bv} (h:SL 3 RF M w v l) (A:∀b,M b->M' b):SL 3 RF M' w v l:=h.mono A fun _ _ h=>h
theorem SL.monoH {l:List jg} (h:SL 4 RH M w v l) (A:∀b,M b->M' b):SL 4 RH M' w v l:=h.mono A fun _ _ h=>h
theorem RM.mono (h:RM M w A m) (D:∀b,M b->M' b):RM M' w A m:=by obtain ⟨G,I,e,E,F,r⟩:=h;exact ⟨G,I,e,E.monoK D,F.monoH D,r⟩
theorem SL.monoM {l:List ew} (h:SL 9 RM M w v l) (A:∀b,M b->M' b):SL 9 RM M' w v l:=h.mono A fun _ _ h=>h.mono A
theorem RC.mono {c:aq} (h:RC M w A c) (D:∀b,M b->M' b):RC M' w A c:=by obtain ⟨G,I,e,E,F,r⟩:=h;exact ⟨G,I,e,E.monoF D,F.monoM D,r⟩
theorem SL.monoC {l:List aq} (h:SL 4 RC M w v l) (A:∀b,M b->M' b):SL 4 RC M' w v l:=h.mono A fun _ _ h=>h.mono A
theorem pi (h:w.grownBy W (some b)) (a:Addr) (u:Value) (D:a.block=b\/w.heap.size<=a.block):w.grownBy (W.setCell a u) (some b):=
 ⟨h.os,h.tape,h.output,by simpa [setCell]using h.size,fun k E A=>by
  rw [Below.heap_setCell _ _ _ _ (by intro e;subst e;rcases D with D | D;· exact A (by rw [D])
                                     ·omega)]
  exact h.block k E A⟩
theorem za9 (h:w.grownBy W (some b)) (o:Obj):w.grownBy (W.alloc o) (some b):=
 ⟨h.os,h.tape,h.output,lt3 h.size (by simp),fun k D A=>by
  rw [Below.heap_alloc _ _ _ (ll3 D h.size)];exact h.block k D A⟩
theorem zbh {e A n:Nat} {v:Value} {xs:List Value} (h:w.ownsRow B e A v n xs) (D:Bl w w'):w'.ownsRow B e A v n xs:=
 h.kept (row:=none) ⟨D.os,D.tape,D.output,D.size,fun k E _=>D.block k E⟩ (by cases v.ownBlock<;>simp)
theorem pf (h:Bl w W) (D:W.grownBy w' (some b)) (A:w.heap.size<=b):Bl w w':=
 h.grown D h.size (fun k e=>by cases e;exact A)
theorem Cv {B' e A n:Nat} {v:Value} {xs:List Value} (h:w.ownsRow B e A v n xs) (G:B'<=B):w.ownsRow B' e A v n xs:=by
 refine ⟨h.1,?_⟩;rcases h.2 with h | ⟨g,cap,D,h1,E,F⟩
 ·exact inl h
 exact inr ⟨g,cap,D,h1,lt3 G E,F⟩
abbrev wrongV (e p:Int):PanicEntry:={ v:=.iface 164 (.agg #[.i e,.i p]),recovered:=false }
def B7 (b:Bool) (e p:Int) (r:Ending):Prop:=(b=false/\r=.panicked [wrongV e p])\/(b=true/\r=.returned (.tuple #[]))
def pr (e:Int) (r:Ending):Prop:=(e≠0/\r=.panicked [wrongV e 0])\/(e=0/\r=.returned (.tuple #[]))
theorem zbj (w:World) (b:Bool) (e p:Int):
 Calls prog 138 #[.bool b,.i e,.i p] w fun r w'=>w'=w/\B7 b e p r:=by
 cases b
 ·go_enter func138,ntmps138;go_wp2
  exact ⟨rfl,rfl,inl ⟨rfl,rfl⟩⟩
 go_enter func138,ntmps138;go_wp2
 go_end0;exact ⟨rfl,inr ⟨rfl,rfl⟩⟩
theorem oz (w:World) (b:Bool) (e:Int):
 Calls prog 82 #[.bool b,.i e] w fun r w'=>w'=w/\B7 b e 0 r:=by
 go_enter func82,ntmps82
 go_wp21
 refine (zbj _ _ _ _).mono ?_;rintro r A ⟨rfl,⟨rfl,rfl⟩ | ⟨rfl,rfl⟩⟩
 ·exact ⟨rfl,rfl,inl ⟨rfl,rfl⟩⟩
 go_wp2
 go_end0;exact ⟨rfl,inr ⟨rfl,rfl⟩⟩
theorem zbk (w:World) (n:Nat):
 Calls prog 311 #[.int .u8 n] w fun r w'=>r=.returned (.bool (dh n))/\w'=w:=by
 have D:Hid (dh n=dh n):=rfl;rcases (by omega:n<48\/(48<=n/\n<=57)\/(57<n/\n<65)\/(65<=n/\n<=90)\/(90<n/\n<97/\n≠95)\/n=95\/(97<=n/\n<=122)\/122<n)with h | h | h | h | h | h | h | h
 ·have A:dh n=false:=by simp [dh];omega
  have E:¬(97:Int)<=n:=by omega
  have F:¬(65:Int)<=n:=by omega
  have G:¬(48:Int)<=n:=by omega
  have I:((n:Int)==95)=false:=by simp;omega
  rw [A];clear A D h;go_enter func311,ntmps311;go_wp2
  go_ret;exact ⟨rfl,rfl⟩
 ·have A:dh n=true:=by simp [dh];omega
  have E:¬(97:Int)<=n:=by omega
  have F:¬(65:Int)<=n:=by omega
  have G:(48:Int)<=n:=by omega
  have I:(n:Int)<=57:=by omega
  rw [A];clear A D h;go_enter func311,ntmps311;go_wp2
  go_ret;exact ⟨rfl,rfl⟩
 ·have A:dh n=false:=by simp [dh];omega
  have E:¬(97:Int)<=n:=by omega
  have F:¬(65:Int)<=n:=by omega
  have G:(48:Int)<=n:=by omega
  have I:¬(n:Int)<=57:=by omega
  have J:((n:Int)==95)=false:=by simp;omega
  rw [A];clear A D h;go_enter func311,ntmps311;go_wp2
  go_ret;exact ⟨rfl,rfl⟩
 ·have A:dh n=true:=by simp [dh];omega
  have E:¬(97:Int)<=n:=by omega
  have F:(65:Int)<=n:=by omega
  have G:(n:Int)<=90:=by omega
  rw [A];clear A D h;go_enter func311,ntmps311;go_wp2
  go_ret;exact ⟨rfl,rfl⟩
 ·have A:dh n=false:=by simp [dh];omega
  have E:¬(97:Int)<=n:=by omega
  have F:(65:Int)<=n:=by omega
  have G:¬(n:Int)<=90:=by omega
  have I:(48:Int)<=n:=by omega
  have J:¬(n:Int)<=57:=by omega
  have L:((n:Int)==95)=false:=by simp;omega
  rw [A];clear A D h;go_enter func311,ntmps311;go_wp2
  go_ret;exact ⟨rfl,rfl⟩
 ·subst h;go_enter func311,ntmps311;go_wp2
  go_ret;exact ⟨rfl,rfl⟩
 ·have A:dh n=true:=by simp [dh];omega
  have E:(97:Int)<=n:=by omega
  have F:(n:Int)<=122:=by omega
  rw [A];clear A D h;go_enter func311,ntmps311;go_wp2
  go_ret;exact ⟨rfl,rfl⟩
 have A:dh n=false:=by simp [dh];omega
 have E:(97:Int)<=n:=by omega
 have F:¬(n:Int)<=122:=by omega
 have G:(65:Int)<=n:=by omega
 have I:¬(n:Int)<=90:=by omega
 have J:(48:Int)<=n:=by omega
 have L:¬(n:Int)<=57:=by omega
 have N:((n:Int)==95)=false:=by simp;omega
 rw [A];clear A D h;go_enter func311,ntmps311;go_wp2
 go_ret;exact ⟨rfl,rfl⟩
theorem Fm (w:World) (s:ByteArray) (_hs:s.size<=maxLen):
 Calls prog 281 #[.string s] w fun r w'=>r=.returned (.bool (dm s))/\w'=w:=by
 by_cases h0:s.size<1
 ·have A:Hid (dm s=false):=by show dm s=false;simp [dm];omega
  have G:(s.size:Int)<1:=by omega
  clear h0;go_enter func281,ntmps281;go_wp2
  go_ret;exact ⟨by rw [A.o];rfl,rfl⟩
 by_cases h1:20<s.size
 ·have A:Hid (dm s=false):=by show dm s=false;simp [dm];omega
  have G:¬(s.size:Int)<1:=by omega
  have I:(20:Int)<s.size:=by omega
  clear h0 h1;go_enter func281,ntmps281;go_wp2
  go_ret;exact ⟨by rw [A.o];rfl,rfl⟩
 have G:¬(s.size:Int)<1:=by omega
 have I:¬(20:Int)<s.size:=by omega
 have A:Hid (dm s=ki s):=by show dm s=ki s;simp [dm];omega
 go_enter func281,ntmps281;go_wp2
 go_loop [14] (fun i=>∃k:Nat,k<=s.size/\i=.i k/\∀j,j<k->dh (bt s j)=true) (fun i=>s.size - (intOf i).toNat)
 case atStart=>exact ⟨0,n0q _,rfl,fun j J=>by omega⟩
 case round=>
  obtain ⟨k,N,rfl,F⟩:=hrel;by_cases D:k<s.size
  ·have L:(s[k].toNat)=bt s k:=(D9 s k D).symm
   go_wp21
   refine (zbk _ _).mono ?_;rintro r O ⟨rfl,rfl⟩;cases hb:dh (bt s k)
   ·have E:Hid (ki s=false):=zan D hb;go_wp2
    go_ret;exact ⟨by rw [A.o,E.o];rfl,rfl⟩
   go_wp2
   go_round
   case rel=>exact ⟨k+1,by omega,by go_num,fun j J=>if hjk:j=k then hjk ▸ hb else F j (by omega)⟩
   case measure=>simp [intOf];omega
  have E:Hid (ki s=true):=zao fun i hi=>F i (by omega);go_wp2
  go_ret;exact ⟨by rw [A.o,E.o];rfl,rfl⟩
theorem xy (s:ByteArray):s.toList.isEmpty=decide (s.size=0):=by rw [ByteArray.toList_eq];obtain ⟨⟨l⟩⟩:=s;cases l<;>rfl
theorem zbm (w:World) (n m:Int):
 Calls prog 313 #[.i n,.i m] w fun r w'=>r=.returned (.bool (win n m))/\w'=w:=by
 by_cases h0:0<=n
 ·by_cases h1:n<=m
  ·go_enter func313,ntmps313;go_wp2
   go_ret;simp [win,h0,h1]
  go_enter func313,ntmps313;go_wp2
  go_ret;simp [win,h1]
 go_enter func313,ntmps313;go_wp2
 go_ret;simp [win];omega
theorem zbn (w:World) (n:Int):
 Calls prog 312 #[.i n] w fun r w'=>r=.returned (.bool (nr n))/\w'=w:=by
 by_cases h0:n=3
 ·subst h0;go_enter func312,ntmps312;go_wp2
  go_ret;exact ⟨rfl,rfl⟩
 have A:Hid (nr n=decide (n=4)):=by show nr n=_;simp [nr,h0]
 have D:(n==3)=false:=by simp [h0]
 clear h0;go_enter func312,ntmps312;go_wp2
 go_ret;exact ⟨by rw [A.o];rfl,rfl⟩
theorem zbo (w:World) (k:fw) (I:k.dj.size<=maxLen):
 Calls prog 282 #[.agg #[.i k.kind,.string k.dj]] w fun r w'=>r=.returned (.bool (ji k))/\Bl w w':=by
 obtain ⟨n,s⟩:=k
 dsimp only at*
 have F:=fun o=>(br w.heap.size w).alloc (nlq _) o;have D:Hid (ji ⟨n,s⟩=if nr n=true then dm s else (decide (n=1)||decide (n=2))&&decide (s.size=0)):=rfl;go_enter func282,ntmps282
 go_wp21
 refine (zbn _ _).mono ?_;rintro r J ⟨rfl,rfl⟩;cases hc:nr n
 ·have A:=aj hc;clear hc;have O:=xy s;by_cases h1:n=1
  ·subst h1;go_wp2
   go_ret;refine ⟨by rw [D.o,A.o];simp,F _⟩
  have L:(n==1)=false:=by simp [h1]
  by_cases E:n=2
  ·subst E;go_wp2
   go_ret;refine ⟨by rw [D.o,A.o];simp,F _⟩
  have N:(n==2)=false:=by simp [E]
  have G:Hid ((decide (n=1)||decide (n=2))=false):=by show _=_;simp [h1,E]
  clear h1 E;go_wp2
  go_ret;refine ⟨by rw [D.o,A.o,G.o];simp,F _⟩
 have A:=aj hc;clear hc
 go_wp21
 refine (Fm _ _ I).mono ?_;rintro r J ⟨rfl,rfl⟩;go_wp2
 go_ret;refine ⟨by rw [D.o,A.o];simp,F _⟩
theorem zbp (w:World) (k:fw) (J:k.dj.size<=maxLen):
 Calls prog 314 #[.agg #[.i k.kind,.string k.dj]] w fun r w'=>r=.returned (.bool (returnedB k))/\Bl w w':=by
 obtain ⟨n,s⟩:=k
 dsimp only at*
 have G:=(br w.heap.size w).alloc (nlq _) (.cells #[.i n,.string s] 123);have E:Hid (returnedB ⟨n,s⟩=(ji ⟨n,s⟩||(decide (n=0)&&decide (s.size=0)))):=rfl;go_enter func314,ntmps314
 go_wp21
 refine (zbo _ ⟨n,s⟩ J).mono ?_;rintro r F ⟨rfl,A⟩;have N:F.cell? ⟨w.heap.size,0,none⟩=some (.i n):=(A.cell (p:=⟨w.heap.size,0,none⟩) (by simp)).trans (by simp [go_sem]);have O:F.cell? ⟨w.heap.size,1,none⟩=some (.string s):=(A.cell (p:=⟨w.heap.size,1,none⟩) (by simp)).trans (by simp [go_sem]);have D:Bl w F:=G.trans (A.mono (by simp));clear G A;generalize ji ⟨n,s⟩=rb at*;have V:=xy s;cases rb
 ·by_cases h1:n=0
  ·subst h1;go_wp2
   go_ret;refine ⟨by rw [E.o];simp,D⟩
  have L:(n==0)=false:=by simp [h1]
  have I:Hid (decide (n=0)=false):=by show _=_;simp [h1]
  clear h1;go_wp2
  go_ret;refine ⟨by rw [E.o,I.o];simp,D⟩
 go_wp2
 go_ret;refine ⟨by rw [E.o];simp,D⟩
theorem ur (h:c=e) (A:e≠0):pr c (.panicked [wrongV e 0]):=inl ⟨by rw [h];exact A,by rw [h]⟩
theorem zbr (h:c=0):pr c (.returned (.tuple #[])):=inr ⟨h,rfl⟩
theorem zbs (w:World) (h:jg) (N:h.dj.size<=maxLen):
 Calls prog 315 #[.agg #[.i h.zp,.i h.upto,.i h.loc,.string h.dj]] w fun r w'=>pr (fm h) r/\Bl w w':=by
 obtain ⟨a,b,c,s⟩:=h
 dsimp only at*
 have I:=(br w.heap.size w).alloc (nlq _) (.cells #[.i a,.i b,.i c,.string s] 248);have J:Hid (fm ⟨a,b,c,s⟩=pd (dm s) 1 (pd (win a 200) 3 (pd (win b 200) 3 (pd (win c 200) 3 0)))):=rfl;go_enter func315,ntmps315
 go_wp21
 refine (Fm _ _ N).mono ?_;rintro r G ⟨rfl,rfl⟩
 go_wp21
 refine (oz _ _ _).mono ?_;rintro r G ⟨rfl,⟨A,rfl⟩ | ⟨A,rfl⟩⟩
 ·exact ⟨rfl,ur (by rw [J.o,A,rj]) (by decide),I⟩
 have D:=aj (J.o.trans (by rw [A,pj]));clear A J
 go_wp21
 refine (zbm _ _ _).mono ?_;rintro r G ⟨rfl,rfl⟩
 go_wp21
 refine (oz _ _ _).mono ?_;rintro r G ⟨rfl,⟨A,rfl⟩ | ⟨A,rfl⟩⟩
 ·exact ⟨rfl,ur (by rw [D.o,A,rj]) (by decide),I⟩
 have E:=aj (D.o.trans (by rw [A,pj]));clear A D
 go_wp21
 refine (zbm _ _ _).mono ?_;rintro r G ⟨rfl,rfl⟩
 go_wp21
 refine (oz _ _ _).mono ?_;rintro r G ⟨rfl,⟨A,rfl⟩ | ⟨A,rfl⟩⟩
 ·exact ⟨rfl,ur (by rw [E.o,A,rj]) (by decide),I⟩
 have F:=aj (E.o.trans (by rw [A,pj]));clear A E
 go_wp21
 refine (zbm _ _ _).mono ?_;rintro r G ⟨rfl,rfl⟩
 go_wp21
 refine (oz _ _ _).mono ?_;rintro r G ⟨rfl,⟨A,rfl⟩ | ⟨A,rfl⟩⟩
 ·exact ⟨rfl,ur (by rw [F.o,A,rj]) (by decide),I⟩
 have L:=aj (F.o.trans (by rw [A,pj]));clear A F;go_wp2
 go_end0;exact ⟨zbr L.o,I⟩
theorem SL.at (h:SL n R M w (.slice ao len cap) l) (k:Nat) (F:k<l.length):
 ∃b off cs,ao=some ⟨b,off,none⟩/\M b/\b<w.heap.size/\cs.length=n/\(∀j,j<n->w.cell? ⟨b,off+k*n+j,none⟩=cs[j]?)/\R M w cs l[k]:=by
 obtain ⟨D,A,e,_,_,E⟩:=h;cases e;exact E k F
theorem SL.atK {l:List fw} (h:SL 2 RK M w (.slice ao len cap) l) (k:Nat) (D:k<l.length):
 ∃b off,ao=some ⟨b,off,none⟩/\b<w.heap.size/\w.cell? ⟨b,off+k*2,none⟩=some (.i l[k].kind)/\w.cell? ⟨b,off+k*2+1,none⟩=some (.string l[k].dj)/\l[k].dj.size<=maxLen:=by
 obtain ⟨b,off,F,e,_,A,_,hc,rfl,E⟩:=h.at k D;exact ⟨b,off,e,A,hc 0 (by omega),hc 1 (by omega),E⟩
theorem SL.atF {l:List bv} (h:SL 3 RF M w (.slice ao len cap) l) (k:Nat) (D:k<l.length):
 ∃b off,ao=some ⟨b,off,none⟩/\b<w.heap.size/\w.cell? ⟨b,off+k*3,none⟩=some (.string l[k].name)/\w.cell? ⟨b,off+k*3+1,none⟩=some (.i l[k].kind.kind)/\w.cell? ⟨b,off+k*3+2,none⟩=some (.string l[k].kind.dj)/\l[k].name.size<=maxLen/\l[k].kind.dj.size<=maxLen:=by
 obtain ⟨b,off,F,e,_,A,_,hc,rfl,E⟩:=h.at k D;exact ⟨b,off,e,A,hc 0 (by omega),hc 1 (by omega),hc 2 (by omega),E⟩
theorem SL.atH {l:List jg} (h:SL 4 RH M w (.slice ao len cap) l) (k:Nat) (D:k<l.length):
 ∃b off,ao=some ⟨b,off,none⟩/\b<w.heap.size/\w.cell? ⟨b,off+k*4,none⟩=some (.i l[k].zp)/\w.cell? ⟨b,off+k*4+1,none⟩=some (.i l[k].upto)/\w.cell? ⟨b,off+k*4+2,none⟩=some (.i l[k].loc)/\w.cell? ⟨b,off+k*4+3,none⟩=some (.string l[k].dj)/\l[k].dj.size<=maxLen:=by
 obtain ⟨b,off,F,e,_,A,_,hc,rfl,E⟩:=h.at k D;exact ⟨b,off,e,A,hc 0 (by omega),hc 1 (by omega),hc 2 (by omega),hc 3 (by omega),E⟩
theorem SL.atM {l:List ew} (h:SL 9 RM M w (.slice ao len cap) l) (k:Nat) (F:k<l.length):
 ∃b off A D,ao=some ⟨b,off,none⟩/\b<w.heap.size/\w.cell? ⟨b,off+k*9,none⟩=some (.string l[k].name)/\w.cell? ⟨b,off+k*9+1,none⟩=some (.bool l[k].static)/\w.cell? ⟨b,off+k*9+2,none⟩=some A/\
  w.cell? ⟨b,off+k*9+3,none⟩=some (.i l[k].ret.kind)/\w.cell? ⟨b,off+k*9+4,none⟩=some (.string l[k].ret.dj)/\w.cell? ⟨b,off+k*9+5,none⟩=some (.i l[k].stack)/\w.cell? ⟨b,off+k*9+6,none⟩=some (.i l[k].locals)/\
  w.cell? ⟨b,off+k*9+7,none⟩=some (.string l[k].code)/\w.cell? ⟨b,off+k*9+8,none⟩=some D/\SL 2 RK M w A l[k].args/\SL 4 RH M w D l[k].hands/\l[k].name.size<=maxLen/\l[k].ret.dj.size<=maxLen/\l[k].code.size<=maxLen:=by
 obtain ⟨b,off,I,e,_,E,_,hc,A,D,rfl,G⟩:=h.at k F;exact ⟨b,off,A,D,e,E,hc 0 (by omega),hc 1 (by omega),hc 2 (by omega),hc 3 (by omega),hc 4 (by omega),hc 5 (by omega),hc 6 (by omega),hc 7 (by omega),hc 8 (by omega),G⟩
theorem SL.atC {l:List aq} (h:SL 4 RC M w (.slice ao len cap) l) (k:Nat) (D:k<l.length):
 ∃b off vf vm,ao=some ⟨b,off,none⟩/\b<w.heap.size/\w.cell? ⟨b,off+k*4,none⟩=some (.string l[k].name)/\w.cell? ⟨b,off+k*4+1,none⟩=some (.string l[k].b9)/\w.cell? ⟨b,off+k*4+2,none⟩=some vf/\
  w.cell? ⟨b,off+k*4+3,none⟩=some vm/\SL 3 RF M w vf l[k].fields/\SL 9 RM M w vm l[k].bd/\l[k].name.size<=maxLen/\l[k].b9.size<=maxLen:=by
 obtain ⟨b,off,I,e,_,A,_,hc,F,G,rfl,E⟩:=h.at k D;exact ⟨b,off,F,G,e,A,hc 0 (by omega),hc 1 (by omega),hc 2 (by omega),hc 3 (by omega),E⟩
theorem zbt (h:ji k=false):lh k=7:=by rw [lh,h,rj]
theorem zbu (h:ji k=true):lh k=0:=by rw [lh,h,pj]
theorem zbv:ql 0 r=r:=rfl
theorem Cw (h:e≠0):ql e r=e:=by rw [ql,if_neg h]
theorem zbx (w:World) (B:Nat) (m:ew) (va vh:Value) (ha:SL 2 RK (· <B) w va m.args) (hh:SL 4 RH (· <B) w vh m.hands) (hB:B<=w.heap.size) (ay:m.name.size<=maxLen) (az:m.ret.dj.size<=maxLen):
 Calls prog 283 #[.agg #[.string m.name,.bool m.static,va,.i m.ret.kind,.string m.ret.dj,.i m.stack,.i m.locals,.string m.code,vh]] w fun r w'=>pr (d7 m) r/\Bl w w':=by
 obtain ⟨W,J,args,⟨rk,rc⟩,L,E,F,A⟩:=m
 dsimp only at*
 have HA:=aj ha;have HH:=aj hh;obtain ⟨ao,ca,rfl,a0,av,_⟩:=ha;obtain ⟨ho,ch,rfl,a1,aw,_⟩:=hh;unfold maxLen at av aw;have aa:Hid (d7 ⟨W,J,args,⟨rk,rc⟩,L,E,F,A⟩=pd (dm W) 1 (pd (decide (args.length<=4)) 2 (pd (decide (F.size<=200)) 2 (pd (decide (A.length<=4)) 2 (pd (win L 10) 3 (pd (win E 10) 3 (ql (ip lh args) (pd (returnedB ⟨rk,rc⟩) 7 (ip fm A))))))))):=rfl;generalize d7 ⟨W,J,args,⟨rk,rc⟩,L,E,F,A⟩=X at*;go_enter func283,ntmps283
 go_wp21
 generalize hW:w.alloc (.cells #[.string W,.bool J,.slice ao args.length ca,.i rk,.string rc,.i L,.i E,.string F,.slice ho A.length ch] 159)=W0;have hz:W0.heap.size=w.heap.size+1:=by rw [<-hW];simp
 have G:Bl w W0:=by rw [<-hW];exact (br w.heap.size w).alloc (nlq _) _
 have c0:W0.cell? ⟨w.heap.size,0,none⟩=some (.string W):=by rw [<-hW];simp [go_sem]
 have c1:W0.cell? ⟨w.heap.size,1,none⟩=some (.bool J):=by rw [<-hW];simp [go_sem]
 have c2:W0.cell? ⟨w.heap.size,2,none⟩=some (.slice ao args.length ca):=by rw [<-hW];simp [go_sem]
 have c3:W0.cell? ⟨w.heap.size,3,none⟩=some (.i rk):=by rw [<-hW];simp [go_sem]
 have c4:W0.cell? ⟨w.heap.size,4,none⟩=some (.string rc):=by rw [<-hW];simp [go_sem]
 have c5:W0.cell? ⟨w.heap.size,5,none⟩=some (.i L):=by rw [<-hW];simp [go_sem]
 have c6:W0.cell? ⟨w.heap.size,6,none⟩=some (.i E):=by rw [<-hW];simp [go_sem]
 have c7:W0.cell? ⟨w.heap.size,7,none⟩=some (.string F):=by rw [<-hW];simp [go_sem]
 have c8:W0.cell? ⟨w.heap.size,8,none⟩=some (.slice ho A.length ch):=by rw [<-hW];simp [go_sem]
 clear hW;refine (Fm _ _ ay).mono ?_;rintro r Y ⟨rfl,rfl⟩
 go_wp21
 refine (oz _ _ _).mono ?_;rintro r Y ⟨rfl,⟨D,rfl⟩ | ⟨D,rfl⟩⟩
 ·exact ⟨rfl,ur (by rw [aa.o,D,rj]) (by decide),G⟩
 have ac:=aj (aa.o.trans (by rw [D,pj]));clear D aa;by_cases hq:args.length<=4
 rotate_left
 ·have an:¬(args.length:Int)<=4:=by omega
  go_wp21
  refine (oz _ _ _).mono ?_;rintro r Y ⟨rfl,⟨D,rfl⟩ | ⟨D,rfl⟩⟩
  ·exact ⟨rfl,ur (by rw [ac.o,decide_eq_false hq,rj]) (by decide),G⟩
  exact absurd D (by first | (simp;done) | (simp;omega))
 have a2:(args.length:Int)<=4:=by omega
 have ad:=aj (ac.o.trans (by rw [decide_eq_true hq,pj]));clear hq ac
 go_wp21
 refine (oz _ _ _).mono ?_;rintro r Y ⟨rfl,⟨D,rfl⟩ | ⟨D,rfl⟩⟩
 ·exact absurd D (by simp)
 clear D;by_cases hq:F.size<=200
 rotate_left
 ·have an:¬(F.size:Int)<=200:=by omega
  go_wp21
  refine (oz _ _ _).mono ?_;rintro r Y ⟨rfl,⟨D,rfl⟩ | ⟨D,rfl⟩⟩
  ·exact ⟨rfl,ur (by rw [ad.o,decide_eq_false hq,rj]) (by decide),G⟩
  exact absurd D (by first | (simp;done) | (simp;omega))
 have a3:(F.size:Int)<=200:=by omega
 have ae:=aj (ad.o.trans (by rw [decide_eq_true hq,pj]));clear hq ad
 go_wp21
 refine (oz _ _ _).mono ?_;rintro r Y ⟨rfl,⟨D,rfl⟩ | ⟨D,rfl⟩⟩
 ·exact absurd D (by simp)
 clear D;by_cases hq:A.length<=4
 rotate_left
 ·have an:¬(A.length:Int)<=4:=by omega
  go_wp21
  refine (oz _ _ _).mono ?_;rintro r Y ⟨rfl,⟨D,rfl⟩ | ⟨D,rfl⟩⟩
  ·exact ⟨rfl,ur (by rw [ae.o,decide_eq_false hq,rj]) (by decide),G⟩
  exact absurd D (by first | (simp;done) | (simp;omega))
 have a4:(A.length:Int)<=4:=by omega
 have af:=aj (ae.o.trans (by rw [decide_eq_true hq,pj]));clear hq ae
 go_wp21
 refine (oz _ _ _).mono ?_;rintro r Y ⟨rfl,⟨D,rfl⟩ | ⟨D,rfl⟩⟩
 ·exact absurd D (by simp)
 clear D
 go_wp21
 refine (zbm _ _ _).mono ?_;rintro r Y ⟨rfl,rfl⟩
 go_wp21
 refine (oz _ _ _).mono ?_;rintro r Y ⟨rfl,⟨D,rfl⟩ | ⟨D,rfl⟩⟩
 ·exact ⟨rfl,ur (by rw [af.o,D,rj]) (by decide),G⟩
 have ah:=aj (af.o.trans (by rw [D,pj]));clear D af
 go_wp21
 refine (zbm _ _ _).mono ?_;rintro r Y ⟨rfl,rfl⟩
 go_wp21
 refine (oz _ _ _).mono ?_;rintro r Y ⟨rfl,⟨D,rfl⟩ | ⟨D,rfl⟩⟩
 ·exact ⟨rfl,ur (by rw [ah.o,D,rj]) (by decide),G⟩
 have ai:=aj (ah.o.trans (by rw [D,pj]));clear D ah
 go_wp21
 go_loopw [36] (fun i wr=>∃k:Nat,k<=args.length/\i=.i k/\Hid (ip lh (args.drop k)=ip lh args)/\Below (w.heap.size+1) Y wr) (fun i _=>args.length - (intOf i).toNat)
 case atStart=>exact ⟨0,n0q _,rfl,rfl,br _ _⟩
 case round=>
  obtain ⟨k,hk,rfl,HP,I⟩:=hrel;have al:w.heap.size+1<=wr.heap.size:=by have:=I.size;omega
  by_cases O:k<args.length
  ·obtain ⟨b,off,rfl,au,e0,e1,es⟩:=(HA.o.keptK (Kp.below ((G.trans (I.mono (by omega))).mono hB))).atK k O;have Z:=I.alloc al (.cells #[.i args[k].kind,.string args[k].dj] 123)
   go_wp21
   refine (zbo _ args[k] es).mono ?_;rintro r w2 ⟨rfl,V⟩;have N:=Z.trans (V.mono (by simp;omega));clear V Z e0 e1
   go_wp21
   refine (oz _ _ _).mono ?_;rintro r w3 ⟨rfl,⟨D,rfl⟩ | ⟨D,rfl⟩⟩
   ·refine ⟨rfl,ur (e:=7) ?_ (by decide),G.trans (N.mono (by omega))⟩;rw [ai.o,<-HP.o,vg O (by rw [zbt D];decide),zbt D,Cw (by decide)]
   have HB:=aj (zbu D);clear D
   go_wp21
   go_roundw
   case rel=>exact ⟨k+1,by omega,by go_num,(At O HB.o).symm.trans HP.o,N⟩
   case measure=>simp [intOf];omega
  have ak:=aj (ai.o.trans (by rw [<-HP.o,Au O,zbv]));have d3:=(I.cell (p:=⟨w.heap.size,3,none⟩) (by simp)).trans c3;have d4:=(I.cell (p:=⟨w.heap.size,4,none⟩) (by simp)).trans c4;clear HP ai
  go_wp21
  refine (zbp _ ⟨rk,rc⟩ az).mono ?_;rintro r w2 ⟨rfl,V⟩;have N:=I.trans (V.mono (by omega));clear V I d3 d4
  go_wp21
  refine (oz _ _ _).mono ?_;rintro r w3 ⟨rfl,⟨D,rfl⟩ | ⟨D,rfl⟩⟩
  ·exact ⟨rfl,ur (by rw [ak.o,D,rj]) (by decide),G.trans (N.mono (by omega))⟩
  have am:=aj (ak.o.trans (by rw [D,pj]));clear D ak;have d8:=(N.cell (p:=⟨w.heap.size,8,none⟩) (by simp)).trans c8
  go_wp21
  go_loopw [51] (fun i wr=>∃k:Nat,k<=A.length/\i=.i k/\Hid (ip fm (A.drop k)=ip fm A)/\Below (w.heap.size+1) Y wr) (fun i _=>A.length - (intOf i).toNat)
  case atStart=>exact ⟨0,n0q _,rfl,rfl,N⟩
  case round=>
   obtain ⟨k,hk,rfl,HP,I⟩:=hrel;have al:w.heap.size+1<=wr.heap.size:=by have:=I.size;omega
   by_cases O:k<A.length
   ·obtain ⟨b,off,rfl,au,e0,e1,e2,e3,es⟩:=(HH.o.keptH (Kp.below ((G.trans (I.mono (by omega))).mono hB))).atH k O;have Z:=I.alloc al (.cells #[.i A[k].zp,.i A[k].upto,.i A[k].loc,.string A[k].dj] 248)
    go_wp21
    refine (zbs _ A[k] es).mono ?_;rintro r w2 ⟨hr,V⟩;have N:=Z.trans (V.mono (by simp;omega));clear V Z e0 e1 e2 e3;rcases hr with ⟨hc,rfl⟩ | ⟨hc,rfl⟩
    ·refine ⟨rfl,ur ?_ hc,G.trans (N.mono (by omega))⟩;rw [am.o,<-HP.o,vg O hc]
    have HB:=aj hc;clear hc
    go_wp21
    go_roundw
    case rel=>exact ⟨k+1,by omega,by go_num,(At O HB.o).symm.trans HP.o,N⟩
    case measure=>simp [intOf];omega
   go_wp21
   go_end0;exact ⟨zbr (by rw [am.o,<-HP.o,Au O]),G.trans (I.mono (by omega))⟩
end Go.Proofs.YtjdnmblggdobgaaGreat
