import Derived.Test.YtjdnmblggdobgaaGreatJPlainFine
import Derived.Test.YtjdnmblggdobgaaGreatJChkClassCatch
import Derived.Maps.Own
import Derived.Maps.OwnOps
import Derived.Maps.OwnSet
import Derived.Maps.Views
import Derived.StringKeys
set_option maxHeartbeats 1000000
namespace Go.Proofs.YtjdnmblggdobgaaGreat
open Go.RowKit Go.Maps
def RI (_:Nat->Prop) (_:World) (cs:List Value) (n:Int):Prop:=cs= [.int .i64 n]
def RO (_:Nat->Prop) (_:World) (cs:List Value) (n:Nat):Prop:=cs= [.int .i64 n]
def RS (_:Nat->Prop) (_:World) (cs:List Value) (s:ByteArray):Prop:=cs= [.string s]/\s.size<=maxLen
def RT (_:Nat->Prop) (_:World) (cs:List Value) (t:cg):Prop:=cs= [.int .i64 t.da,.int .i64 t.meth]
def jm {α:Type} (n:Nat) (R:(Nat->Prop)->World->List Value->α->Prop) (M:Nat->Prop) (w:World) (cs:List Value) (x:List α):Prop:=∃v,cs= [v]/\SL n R M w v x
theorem SL.keptI {M:Nat->Prop} {w w':World} {v:Value} {l:List Int} (h:SL 1 RI M w v l) (A:Kp M w w'):SL 1 RI M w' v l:=h.kept A fun _ _ h=>h
theorem SL.keptO {M:Nat->Prop} {w w':World} {v:Value} {l:List Nat} (h:SL 1 RO M w v l) (A:Kp M w w'):SL 1 RO M w' v l:=h.kept A fun _ _ h=>h
theorem SL.keptS {M:Nat->Prop} {w w':World} {v:Value} {l:List ByteArray} (h:SL 1 RS M w v l) (A:Kp M w w'):SL 1 RS M w' v l:=h.kept A fun _ _ h=>h
theorem SL.keptT {M:Nat->Prop} {w w':World} {v:Value} {l:List cg} (h:SL 2 RT M w v l) (A:Kp M w w'):SL 2 RT M w' v l:=h.kept A fun _ _ h=>h
theorem SL.keptSl {α:Type} {n:Nat} {R:(Nat->Prop)->World->List Value->α->Prop} {M:Nat->Prop} {w w':World} {v:Value} {l:List (List α)} (h:SL 1 (jm n R) M w v l) (A:Kp M w w') (D:∀cs x,R M w cs x->R M w' cs x):SL 1 (jm n R) M w' v l:=
 h.kept A fun _ _ ⟨v,e,E⟩=>⟨v,e,E.kept A D⟩
theorem SL.monoI {M M':Nat->Prop} {w:World} {v:Value} {l:List Int} (h:SL 1 RI M w v l) (A:∀b,M b->M' b):SL 1 RI M' w v l:=h.mono A fun _ _ h=>h
theorem SL.monoO {M M':Nat->Prop} {w:World} {v:Value} {l:List Nat} (h:SL 1 RO M w v l) (A:∀b,M b->M' b):SL 1 RO M' w v l:=h.mono A fun _ _ h=>h
theorem SL.monoS {M M':Nat->Prop} {w:World} {v:Value} {l:List ByteArray} (h:SL 1 RS M w v l) (A:∀b,M b->M' b):SL 1 RS M' w v l:=h.mono A fun _ _ h=>h
theorem SL.monoT {M M':Nat->Prop} {w:World} {v:Value} {l:List cg} (h:SL 2 RT M w v l) (A:∀b,M b->M' b):SL 2 RT M' w v l:=h.mono A fun _ _ h=>h
theorem SL.monoSl {α:Type} {n:Nat} {R:(Nat->Prop)->World->List Value->α->Prop} {M M':Nat->Prop} {w:World} {v:Value} {l:List (List α)} (h:SL 1 (jm n R) M w v l) (A:∀b,M b->M' b) (D:∀cs x,R M w cs x->R M' w cs x):SL 1 (jm n R) M' w v l:=
 h.mono A fun _ _ ⟨v,e,E⟩=>⟨v,e,E.mono A D⟩
theorem SL.atI {M:Nat->Prop} {w:World} {A:Option Addr} {len cap:Nat} {l:List Int} (h:SL 1 RI M w (.slice A len cap) l) (k:Nat) (E:k<l.length):
 ∃b off,A=some ⟨b,off,none⟩/\b<w.heap.size/\w.cell? ⟨b,off+k,none⟩=some (.int .i64 l[k]):=by
 obtain ⟨b,off,F,e,_,D,_,hc,rfl⟩:=h.at k E;exact ⟨b,off,e,D,by have:=hc 0 (by decide);simpa using this⟩
theorem SL.atO {M:Nat->Prop} {w:World} {A:Option Addr} {len cap:Nat} {l:List Nat} (h:SL 1 RO M w (.slice A len cap) l) (k:Nat) (E:k<l.length):
 ∃b off,A=some ⟨b,off,none⟩/\b<w.heap.size/\w.cell? ⟨b,off+k,none⟩=some (.int .i64 l[k]):=by
 obtain ⟨b,off,F,e,_,D,_,hc,rfl⟩:=h.at k E;exact ⟨b,off,e,D,by have:=hc 0 (by decide);simpa using this⟩
theorem SL.atS {M:Nat->Prop} {w:World} {A:Option Addr} {len cap:Nat} {l:List ByteArray} (h:SL 1 RS M w (.slice A len cap) l) (k:Nat) (E:k<l.length):
 ∃b off,A=some ⟨b,off,none⟩/\b<w.heap.size/\w.cell? ⟨b,off+k,none⟩=some (.string l[k])/\l[k].size<=maxLen:=by
 obtain ⟨b,off,G,e,_,D,_,hc,rfl,F⟩:=h.at k E;exact ⟨b,off,e,D,(by have:=hc 0 (by decide);simpa using this),F⟩
theorem SL.atT {M:Nat->Prop} {w:World} {A:Option Addr} {len cap:Nat} {l:List cg} (h:SL 2 RT M w (.slice A len cap) l) (k:Nat) (E:k<l.length):
 ∃b off,A=some ⟨b,off,none⟩/\b<w.heap.size/\w.cell? ⟨b,off+k*2,none⟩=some (.int .i64 l[k].da)/\w.cell? ⟨b,off+k*2+1,none⟩=some (.int .i64 l[k].meth):=by
 obtain ⟨b,off,F,e,_,D,_,hc,rfl⟩:=h.at k E;exact ⟨b,off,e,D,hc 0 (by decide),hc 1 (by decide)⟩
theorem SL.atSl {α:Type} {n:Nat} {R:(Nat->Prop)->World->List Value->α->Prop} {M:Nat->Prop} {w:World} {A:Option Addr} {len cap:Nat} {l:List (List α)} (h:SL 1 (jm n R) M w (.slice A len cap) l) (k:Nat) (F:k<l.length):
 ∃b off a c,A=some ⟨b,off,none⟩/\b<w.heap.size/\w.cell? ⟨b,off+k,none⟩=some (.slice a l[k].length c)/\SL n R M w (.slice a l[k].length c) l[k]:=by
 obtain ⟨b,off,I,e,_,E,_,hc,v,rfl,D⟩:=h.at k F;have G:=D;obtain ⟨a,c,rfl,-⟩:=G;exact ⟨b,off,a,c,e,E,(by have:=hc 0 (by decide);simpa using this),D⟩
theorem zb9 {s t:ByteArray} (h:s.toList=t.toList):s=t:=za5 (by rwa [ByteArray.toList_eq,ByteArray.toList_eq]at h)
theorem zca {s:ByteArray} (h:s.toList= []):s=⟨#[]⟩:=zb9 (h.trans (by rw [ByteArray.toList_eq]))
theorem zcb {s:ByteArray} (h:s=⟨#[]⟩):s.toList= []:=by rw [h,ByteArray.toList_eq]
theorem law9:Keyed Tryz.prog 9:=string_keyed Tryz.underlying9
theorem zero3 (w:World):(zeroValue 3).run Tryz.prog w=.ok (.int .i64 0) w:=by kernel_rfl
def key (s:ByteArray):Lit:=.string s.data.toList
theorem isKey (s:ByteArray):WideAt.IsKeyLit (key s):=trivial
theorem zcc {s t:ByteArray} (h:s≠t):key s≠key t:=fun e=>h (za5 (by injection e))
structure NumD (l:List ap) (D:DataW Unit):Prop where
 has:∀s,Maps.has D (key s)=decide (0<=num l s)
 at_:∀s z,0<=num l s->D.atKey (key s) z=.lit (.int .i64 (num l s))
 le:Maps.size D<=l.length
 eq:Maps.size D=l.length↔dm l=true
theorem zcd:NumD [] (.map []):=⟨fun s=>by rw [zaz];rfl,fun s z h=>by rw [zaz]at h;omega,nlq _,by simp [dm,dc,Maps.size]⟩
theorem zce {l:List ap} {D:DataW Unit} (h:NumD l D) (E:Tidy D) (c:ap):NumD (l++ [c]) (D.put (key c.name) (.lit (.int .i64 l.length))):=by
 have F:=E.isMap;refine ⟨fun s=>?_,fun s z A=>?_,?_,?_⟩
 ·rw [za0];by_cases e:c.name=s
  ·subst e;rw [has_put_same F (isKey _),if_pos rfl];simp
  rw [has_put_other (zcc (Ne.symm e)),if_neg e,h.has]
 ·rw [za0]at A ⊢;by_cases e:c.name=s
  ·subst e;rw [atKey_put_same F (isKey _),if_pos rfl]
  rw [if_neg e]at A ⊢;rw [atKey_put_other (zcc (Ne.symm e)),h.at_ s z A]
 ·have:=h.le;rw [size_put E,List.length_append];split<;>simp<;>omega
 have h1:=h.le;have G:=h.eq;have I:=h.has c.name;rw [size_put E,List.length_append,dm,za7,I];show _↔(dm l&&_)=true;by_cases e:0<=num l c.name
 ·simp [e];omega
 simp [e];exact G
def gu (w:World) (b:Nat) (l:List ap):Prop:=∃D:DataW Unit,w.ownsMap Tryz.prog 9 (plainElem Tryz.prog 3) b l.length D/\NumD l D
theorem gu.lt {w:World} {b:Nat} {l:List ap} (h:gu w b l):b<w.heap.size:=by obtain ⟨D,h,_⟩:=h;exact h.lt
theorem gu.kept {w w':World} {b:Nat} {l:List ap} (h:gu w b l) {row:Option Nat} (F:w.grownBy w' row) (A:some b≠row):gu w' b l:=by obtain ⟨D,h,E⟩:=h;exact ⟨D,h.kept F A,E⟩
theorem gu.below {B:Nat} {w w':World} {b:Nat} {l:List ap} (h:gu w b l) (G:Below B w w') (F:b<B):gu w' b l:=by obtain ⟨D,⟨E,A,e,h⟩,I⟩:=h;exact ⟨D,⟨E,A,(G.block b F).trans e,h⟩,I⟩
structure Web (B:Nat) (w:World) (b:Nat) (l:List ap) (vC vS vF vN vT vL:Value) (Bm:Nat):Prop where
 bB:b<B
 mB:Bm<B
 le:B<=w.heap.size
 blk:w.heap[b]? =some (.cells #[vC,vS,vF,vN,vT,.map (some Bm),vL] 155 (0,0))
 sC:SL 4 RC (· <B) w vC l
 sS:SL 1 RI (· <B) w vS ((List.range l.length).map (df l))
 sF:SL 1 (jm 3 RF) (· <B) w vF ((List.range l.length).map (fieldsOf l))
 sN:SL 1 (jm 1 RS) (· <B) w vN ((List.range l.length).map (d9 l))
 sT:SL 1 (jm 2 RT) (· <B) w vT ((List.range l.length).map (d7 l))
 sL:SL 1 (jm 1 RO) (· <B) w vL ((List.range l.length).map (de l))
 nm:gu w Bm l
theorem Web.below {B:Nat} {w w':World} {b:Nat} {l:List ap} {E J F I L G:Value} {D:Nat} (h:Web B w b l E J F I L G D) (A:Below B w w'):Web B w' b l E J F I L G D:=
 ⟨h.bB,h.mB,lt3 h.le A.size,(A.block b h.bB).trans h.blk,h.sC.keptC (Kp.below A),h.sS.keptI (Kp.below A),h.sF.keptSl (Kp.below A) fun _ _ h=>h,h.sN.keptSl (Kp.below A) fun _ _ h=>h,h.sT.keptSl (Kp.below A) fun _ _ h=>h,h.sL.keptSl (Kp.below A) fun _ _ h=>h,h.nm.below A h.mB⟩
theorem aw {W:World} {X t:Nat} {c:Array Value} (h:W.heap[X]? =some (.cells c t (0,0))) (j:Nat) {x:Value} (A:c[j]? =some x):W.cell? ⟨X,j,none⟩=some x:=by simp [World.cell?,h,A]
theorem lj {W:World} {X t:Nat} {c:Array Value} (h:W.heap[X]? =some (.cells c t (0,0))) (j:Nat):W.frozen? ⟨X,j,none⟩=false:=by simp [World.frozen?,h]
theorem bk {W:World} {X:Nat} {o:Obj} (h:W.heap[X]? =some o):X<W.heap.size:=(Array.getElem?_eq_some_iff.1 h).1
theorem zcg (w:World) (b I:Nat) (l:List ap) (s:ByteArray) (Y:w.cell? ⟨b,5,none⟩=some (.map (some I))) (X:gu w I l) (V:s.size<=maxLen):
 Calls Tryz.prog 199 #[.pointer (some ⟨b,0,none⟩),.string s] w fun r w'=>r=.returned (.int .i64 (num l s))/\w'=w:=by
 obtain ⟨D,E,O⟩:=X;have A:keyOf Tryz.prog 9 (.string s)=some (key s):=Go.WideMaps.keyOf_string_mk Tryz.underlying9 V;have N:=ae O;have W:=ae A;clear O A;go_enter Tryz.func199,Tryz.ntmps199;go_wp2_with (at_lookup;refine wpList_lookup_own_ok_int _ rfl _ _ 152 rfl 9 3 .i64 law9 Tryz.underlying152 Tryz.underlying3 (zero3 _) I l.length D rfl E _ _ rfl W.o ?_);intro c F Z;clear Z;have J:=ae F;clear F E Y V;rw [N.o.has s];by_cases h:0<=num l s
 ·have G:decide (0<=num l s)=true:=by simp [h]
  have L:Hid (c=num l s):=by have e:=J.o;rw [N.o.at_ s _ h]at e;exact ((Lit.int.inj (DataW.lit.inj e)).2).symm
  rw [G];clear h G;go_wp2
  go_ret;exact ⟨by rw [L.o];rfl,rfl⟩
 have G:decide (0<=num l s)=false:=by simp [h]
 have L:Hid (num l s= -1):=by have:=(za2 l s).1;show num l s= -1;omega
 rw [G];clear h G;go_wp2
 go_ret;exact ⟨by rw [L.o];rfl,rfl⟩
end Go.Proofs.YtjdnmblggdobgaaGreat
