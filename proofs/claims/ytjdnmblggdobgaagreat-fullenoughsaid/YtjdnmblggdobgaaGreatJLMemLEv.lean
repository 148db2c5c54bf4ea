import Derived.Test.YtjdnmblggdobgaaGreatJChkClassCatch
import Derived.Maps.Own
import Derived.Maps.OwnOps
import Derived.Maps.OwnSet
import Derived.Maps.Views
import Derived.StringKeys
set_option maxHeartbeats 1000000
namespace Go.Proofs.YtjdnmblggdobgaaGreat
open Go.RowKit Go.Maps Tryz
def RI (_:Nat->Prop) (_:World) (cs:List Value) (n:Int):Prop:=cs= [.i n]
def RO (_:Nat->Prop) (_:World) (cs:List Value) (n:Nat):Prop:=cs= [.i n]
def RS (_:Nat->Prop) (_:World) (cs:List Value) (s:ByteArray):Prop:=cs= [.string s]/\s.size<=maxLen
def RT (_:Nat->Prop) (_:World) (cs:List Value) (t:cw):Prop:=cs= [.i t.de,.i t.s9]
def kr {α:Type} (n:Nat) (R:(Nat->Prop)->World->List Value->α->Prop) (M:Nat->Prop) (w:World) (cs:List Value) (x:List α):Prop:=∃v,cs= [v]/\SL n R M w v x
theorem SL.keptI {M:Nat->Prop} {w w':World} {v:Value} {l:List Int} (h:SL 1 RI M w v l) (A:Kp M w w'):SL 1 RI M w' v l:=h.kept A fun _ _ h=>h
theorem SL.keptO {M:Nat->Prop} {w w':World} {v:Value} {l:List Nat} (h:SL 1 RO M w v l) (A:Kp M w w'):SL 1 RO M w' v l:=h.kept A fun _ _ h=>h
theorem SL.keptS {M:Nat->Prop} {w w':World} {v:Value} {l:List ByteArray} (h:SL 1 RS M w v l) (A:Kp M w w'):SL 1 RS M w' v l:=h.kept A fun _ _ h=>h
theorem SL.keptT {M:Nat->Prop} {w w':World} {v:Value} {l:List cw} (h:SL 2 RT M w v l) (A:Kp M w w'):SL 2 RT M w' v l:=h.kept A fun _ _ h=>h
theorem SL.keptSl {α:Type} {n:Nat} {R:(Nat->Prop)->World->List Value->α->Prop} {M:Nat->Prop} {w w':World} {v:Value} {l:List (List α)} (h:SL 1 (kr n R) M w v l) (A:Kp M w w') (D:∀cs x,R M w cs x->R M w' cs x):SL 1 (kr n R) M w' v l:=
 h.kept A fun _ _ ⟨v,e,E⟩=>⟨v,e,E.kept A D⟩
theorem SL.monoI {M M':Nat->Prop} {w:World} {v:Value} {l:List Int} (h:SL 1 RI M w v l) (A:∀b,M b->M' b):SL 1 RI M' w v l:=h.mono A fun _ _ h=>h
theorem SL.monoO {M M':Nat->Prop} {w:World} {v:Value} {l:List Nat} (h:SL 1 RO M w v l) (A:∀b,M b->M' b):SL 1 RO M' w v l:=h.mono A fun _ _ h=>h
theorem SL.monoS {M M':Nat->Prop} {w:World} {v:Value} {l:List ByteArray} (h:SL 1 RS M w v l) (A:∀b,M b->M' b):SL 1 RS M' w v l:=h.mono A fun _ _ h=>h
theorem SL.monoT {M M':Nat->Prop} {w:World} {v:Value} {l:List cw} (h:SL 2 RT M w v l) (A:∀b,M b->M' b):SL 2 RT M' w v l:=h.mono A fun _ _ h=>h
theorem SL.monoSl {α:Type} {n:Nat} {R:(Nat->Prop)->World->List Value->α->Prop} {M M':Nat->Prop} {w:World} {v:Value} {l:List (List α)} (h:SL 1 (kr n R) M w v l) (A:∀b,M b->M' b) (D:∀cs x,R M w cs x->R M' w cs x):SL 1 (kr n R) M' w v l:=
 h.mono A fun _ _ ⟨v,e,E⟩=>⟨v,e,E.mono A D⟩
theorem SL.atI {M:Nat->Prop} {w:World} {A:Option Addr} {len cap:Nat} {l:List Int} (h:SL 1 RI M w (.slice A len cap) l) (k:Nat) (E:k<l.length):
 ∃b off,A=some ⟨b,off,none⟩/\b<w.heap.size/\w.cell? ⟨b,off+k,none⟩=some (.i l[k]):=by
 obtain ⟨b,off,F,e,_,D,_,hc,rfl⟩:=h.at k E;exact ⟨b,off,e,D,by have:=hc 0 (by decide);simpa using this⟩
theorem SL.atO {M:Nat->Prop} {w:World} {A:Option Addr} {len cap:Nat} {l:List Nat} (h:SL 1 RO M w (.slice A len cap) l) (k:Nat) (E:k<l.length):
 ∃b off,A=some ⟨b,off,none⟩/\b<w.heap.size/\w.cell? ⟨b,off+k,none⟩=some (.i l[k]):=by
 obtain ⟨b,off,F,e,_,D,_,hc,rfl⟩:=h.at k E;exact ⟨b,off,e,D,by have:=hc 0 (by decide);simpa using this⟩
theorem SL.atS {M:Nat->Prop} {w:World} {A:Option Addr} {len cap:Nat} {l:List ByteArray} (h:SL 1 RS M w (.slice A len cap) l) (k:Nat) (E:k<l.length):
 ∃b off,A=some ⟨b,off,none⟩/\b<w.heap.size/\w.cell? ⟨b,off+k,none⟩=some (.string l[k])/\l[k].size<=maxLen:=by
 obtain ⟨b,off,G,e,_,D,_,hc,rfl,F⟩:=h.at k E;exact ⟨b,off,e,D,(by have:=hc 0 (by decide);simpa using this),F⟩
theorem SL.atT {M:Nat->Prop} {w:World} {A:Option Addr} {len cap:Nat} {l:List cw} (h:SL 2 RT M w (.slice A len cap) l) (k:Nat) (E:k<l.length):
 ∃b off,A=some ⟨b,off,none⟩/\b<w.heap.size/\w.cell? ⟨b,off+k*2,none⟩=some (.i l[k].de)/\w.cell? ⟨b,off+k*2+1,none⟩=some (.i l[k].s9):=by
 obtain ⟨b,off,F,e,_,D,_,hc,rfl⟩:=h.at k E;exact ⟨b,off,e,D,hc 0 (by decide),hc 1 (by decide)⟩
theorem SL.atSl {α:Type} {n:Nat} {R:(Nat->Prop)->World->List Value->α->Prop} {M:Nat->Prop} {w:World} {A:Option Addr} {len cap:Nat} {l:List (List α)} (h:SL 1 (kr n R) M w (.slice A len cap) l) (k:Nat) (F:k<l.length):
 ∃b off a c,A=some ⟨b,off,none⟩/\b<w.heap.size/\w.cell? ⟨b,off+k,none⟩=some (.slice a l[k].length c)/\SL n R M w (.slice a l[k].length c) l[k]:=by
 obtain ⟨b,off,I,e,_,E,_,hc,v,rfl,D⟩:=h.at k F;have G:=D;obtain ⟨a,c,rfl,-⟩:=G;exact ⟨b,off,a,c,e,E,(by have:=hc 0 (by decide);simpa using this),D⟩
theorem Av {s t:ByteArray} (h:s.toList=t.toList):s=t:=za5 (by rwa [ByteArray.toList_eq,ByteArray.toList_eq]at h)
theorem Eh {s:ByteArray} (h:s.toList= []):s=⟨#[]⟩:=Av (h.trans (by rw [ByteArray.toList_eq]))
theorem Cg {s:ByteArray} (h:s=⟨#[]⟩):s.toList= []:=by rw [h,ByteArray.toList_eq]
theorem Fa:Keyed prog 9:=string_keyed underlying9
theorem ve (w:World):(zeroValue 3).run prog w=.ok (.i 0) w:=by kernel_rfl
def key (s:ByteArray):Lit:=.string s.data.toList
theorem isKey (s:ByteArray):WideAt.IsKeyLit (key s):=trivial
theorem zcc {s t:ByteArray} (h:s≠t):key s≠key t:=fun e=>h (za5 (by injection e))
structure Cw (l:List aq) (D:DataW Unit):Prop where
 has:∀s,Maps.has D (key s)=decide (0<=num l s)
 at_:∀s z,0<=num l s->D.atKey (key s) z=.lit (.i (num l s))
 le:Maps.size D<=l.length
 eq:Maps.size D=l.length↔dr l=true
theorem zcd:Cw [] (.map []):=⟨fun s=>by rw [zaz];rfl,fun s z h=>by rw [zaz]at h;omega,nlq _,by simp [dr,dh,Maps.size]⟩
theorem zce {l:List aq} {D:DataW Unit} (h:Cw l D) (E:Tidy D) (c:aq):Cw (l++ [c]) (D.put (key c.name) (.lit (.i l.length))):=by
 have F:=E.isMap;refine ⟨fun s=>?_,fun s z A=>?_,?_,?_⟩
 ·rw [za0];by_cases e:c.name=s
  ·subst e;rw [has_put_same F (isKey _),if_pos rfl];simp
  rw [has_put_other (zcc (Ne.symm e)),if_neg e,h.has]
 ·rw [za0]at A ⊢;by_cases e:c.name=s
  ·subst e;rw [atKey_put_same F (isKey _),if_pos rfl]
  rw [if_neg e]at A ⊢;rw [atKey_put_other (zcc (Ne.symm e)),h.at_ s z A]
 ·have:=h.le;rw [size_put E,List.length_append];split<;>simp<;>omega
 have h1:=h.le;have G:=h.eq;have I:=h.has c.name;rw [size_put E,List.length_append,dr,za7,I];show _↔(dr l&&_)=true;by_cases e:0<=num l c.name
 ·simp [e];omega
 simp [e];exact G
def iu (w:World) (b:Nat) (l:List aq):Prop:=∃D:DataW Unit,w.ownsMap prog 9 (plainElem prog 3) b l.length D/\Cw l D
theorem iu.lt {w:World} {b:Nat} {l:List aq} (h:iu w b l):b<w.heap.size:=by obtain ⟨D,h,_⟩:=h;exact h.lt
theorem iu.kept {w w':World} {b:Nat} {l:List aq} (h:iu w b l) {row:Option Nat} (F:w.grownBy w' row) (A:some b≠row):iu w' b l:=by obtain ⟨D,h,E⟩:=h;exact ⟨D,h.kept F A,E⟩
theorem iu.below {B:Nat} {w w':World} {b:Nat} {l:List aq} (h:iu w b l) (G:Below B w w') (F:b<B):iu w' b l:=by obtain ⟨D,⟨E,A,e,h⟩,I⟩:=h;exact ⟨D,⟨E,A,(G.block b F).trans e,h⟩,I⟩
structure ti (B:Nat) (w:World) (b:Nat) (l:List aq) (vC vS vF vN vT vL:Value) (Bm:Nat):Prop where
 bB:b<B
 mB:Bm<B
 le:B<=w.heap.size
 blk:w.heap[b]? =some (.cells #[vC,vS,vF,vN,vT,.map (some Bm),vL] 155 (0,0))
 sC:SL 4 RC (· <B) w vC l
 sS:SL 1 RI (· <B) w vS ((List.range l.length).map (dj l))
 sF:SL 1 (kr 3 RF) (· <B) w vF ((List.range l.length).map (fieldsOf l))
 sN:SL 1 (kr 1 RS) (· <B) w vN ((List.range l.length).map (fb l))
 sT:SL 1 (kr 2 RT) (· <B) w vT ((List.range l.length).map (ew l))
 sL:SL 1 (kr 1 RO) (· <B) w vL ((List.range l.length).map (di l))
 nm:iu w Bm l
theorem ti.below {B:Nat} {w w':World} {b:Nat} {l:List aq} {E J F I L G:Value} {D:Nat} (h:ti B w b l E J F I L G D) (A:Below B w w'):ti B w' b l E J F I L G D:=
 ⟨h.bB,h.mB,lt3 h.le A.size,(A.block b h.bB).trans h.blk,h.sC.keptC (Kp.below A),h.sS.keptI (Kp.below A),h.sF.keptSl (Kp.below A) fun _ _ h=>h,h.sN.keptSl (Kp.below A) fun _ _ h=>h,h.sT.keptSl (Kp.below A) fun _ _ h=>h,h.sL.keptSl (Kp.below A) fun _ _ h=>h,h.nm.below A h.mB⟩
theorem bp {W:World} {X t:Nat} {c:Array Value} (h:W.heap[X]? =some (.cells c t (0,0))) (j:Nat) {x:Value} (A:c[j]? =some x):W.cell? ⟨X,j,none⟩=some x:=by simp [World.cell?,h,A]
theorem pj {W:World} {X t:Nat} {c:Array Value} (h:W.heap[X]? =some (.cells c t (0,0))) (j:Nat):W.frozen? ⟨X,j,none⟩=false:=by simp [World.frozen?,h]
theorem bz {W:World} {X:Nat} {o:Obj} (h:W.heap[X]? =some o):X<W.heap.size:=(Array.getElem?_eq_some_iff.1 h).1
theorem zcg (w:World) (b I:Nat) (l:List aq) (s:ByteArray) (Y:w.cell? ⟨b,5,none⟩=some (.map (some I))) (X:iu w I l) (V:s.size<=maxLen):
 Calls prog 199 #[.p b,.string s] w fun r w'=>r=.returned (.i (num l s))/\w'=w:=by
 obtain ⟨D,E,O⟩:=X;have A:keyOf prog 9 (.string s)=some (key s):=Go.WideMaps.keyOf_string_mk underlying9 V;have N:=ag O;have W:=ag A;clear O A;go_enter func199,ntmps199;go_wp2_with (at_lookup;refine wpList_lookup_own_ok_int _ rfl _ _ 152 rfl 9 3 .i64 Fa underlying152 underlying3 (ve _) I l.length D rfl E _ _ rfl W.o ?_);intro c F Z;clear Z;have J:=ag F;clear F E Y V;rw [N.o.has s];by_cases h:0<=num l s
 ·have G:decide (0<=num l s)=true:=by simp [h]
  have L:Hid (c=num l s):=by have e:=J.o;rw [N.o.at_ s _ h]at e;exact ((Lit.int.inj (DataW.lit.inj e)).2).symm
  rw [G];clear h G;go_wp2
  go_ret;exact ⟨by rw [L.o];rfl,rfl⟩
 have G:decide (0<=num l s)=false:=by simp [h]
 have L:Hid (num l s= -1):=by have:=(Ee l s).1;show num l s= -1;omega
 rw [G];clear h G;go_wp2
 go_ret;exact ⟨by rw [L.o];rfl,rfl⟩
theorem cells5 {W:World} {X t:Nat} {a b c d e:Value} (h:W.heap[X]? =some (.cells #[a,b,c,d,e] t (0,0))):W.cell? ⟨X,0,none⟩=some a/\W.cell? ⟨X,1,none⟩=some b/\W.cell? ⟨X,2,none⟩=some c/\W.cell? ⟨X,3,none⟩=some d/\W.cell? ⟨X,4,none⟩=some e/\X<W.heap.size:=
 ⟨bp h 0 rfl,bp h 1 rfl,bp h 2 rfl,bp h 3 rfl,bp h 4 rfl,bz h⟩
theorem ip {W:World} {X t:Nat} {a b c d e f g:Value} (h:W.heap[X]? =some (.cells #[a,b,c,d,e,f,g] t (0,0))):W.cell? ⟨X,0,none⟩=some a/\W.cell? ⟨X,1,none⟩=some b/\W.cell? ⟨X,2,none⟩=some c/\W.cell? ⟨X,3,none⟩=some d/\W.cell? ⟨X,4,none⟩=some e/\W.cell? ⟨X,5,none⟩=some f/\W.cell? ⟨X,6,none⟩=some g/\(∀q,W.frozen? ⟨X,q,none⟩=false)/\X<W.heap.size:=
 ⟨bp h 0 rfl,bp h 1 rfl,bp h 2 rfl,bp h 3 rfl,bp h 4 rfl,bp h 5 rfl,bp h 6 rfl,pj h,bz h⟩
theorem C0 {W:World} {X t:Nat} {a b c d e f g i j k l m n:Value} (h:W.heap[X]? =some (.cells #[a,b,c,d,e,f,g,i,j,k,l,m,n] t (0,0))):W.cell? ⟨X,0,none⟩=some a/\W.cell? ⟨X,1,none⟩=some b/\W.cell? ⟨X,2,none⟩=some c/\W.cell? ⟨X,3,none⟩=some d/\W.cell? ⟨X,4,none⟩=some e/\W.cell? ⟨X,5,none⟩=some f/\W.cell? ⟨X,6,none⟩=some g/\W.cell? ⟨X,7,none⟩=some i/\W.cell? ⟨X,8,none⟩=some j/\W.cell? ⟨X,9,none⟩=some k/\W.cell? ⟨X,10,none⟩=some l/\W.cell? ⟨X,11,none⟩=some m/\W.cell? ⟨X,12,none⟩=some n/\(∀q,W.frozen? ⟨X,q,none⟩=false)/\X<W.heap.size:=
 ⟨bp h 0 rfl,bp h 1 rfl,bp h 2 rfl,bp h 3 rfl,bp h 4 rfl,bp h 5 rfl,bp h 6 rfl,bp h 7 rfl,bp h 8 rfl,bp h 9 rfl,bp h 10 rfl,bp h 11 rfl,bp h 12 rfl,pj h,bz h⟩
theorem C1 {W:World} {X t:Nat} {a b c d e f g i j k l m n o p:Value} (h:W.heap[X]? =some (.cells #[a,b,c,d,e,f,g,i,j,k,l,m,n,o,p] t (0,0))):W.cell? ⟨X,0,none⟩=some a/\W.cell? ⟨X,1,none⟩=some b/\W.cell? ⟨X,2,none⟩=some c/\W.cell? ⟨X,3,none⟩=some d/\W.cell? ⟨X,4,none⟩=some e/\W.cell? ⟨X,5,none⟩=some f/\W.cell? ⟨X,6,none⟩=some g/\W.cell? ⟨X,7,none⟩=some i/\W.cell? ⟨X,8,none⟩=some j/\W.cell? ⟨X,9,none⟩=some k/\W.cell? ⟨X,10,none⟩=some l/\W.cell? ⟨X,11,none⟩=some m/\W.cell? ⟨X,12,none⟩=some n/\W.cell? ⟨X,13,none⟩=some o/\W.cell? ⟨X,14,none⟩=some p/\(∀q,W.frozen? ⟨X,q,none⟩=false)/\X<W.heap.size:=
 ⟨bp h 0 rfl,bp h 1 rfl,bp h 2 rfl,bp h 3 rfl,bp h 4 rfl,bp h 5 rfl,bp h 6 rfl,bp h 7 rfl,bp h 8 rfl,bp h 9 rfl,bp h 10 rfl,bp h 11 rfl,bp h 12 rfl,bp h 13 rfl,bp h 14 rfl,pj h,bz h⟩
theorem Cy {p:Nat->Value->Prop} {a b c d e f g:Value} (h:∀x v,[a,b,c,d,e,f,g][x]? =some v->p x v):p 0 a/\p 1 b/\p 2 c/\p 3 d/\p 4 e/\p 5 f/\p 6 g:=
 ⟨h 0 _ rfl,h 1 _ rfl,h 2 _ rfl,h 3 _ rfl,h 4 _ rfl,h 5 _ rfl,h 6 _ rfl⟩
theorem D1 {p:Nat->Value->Prop} {a b c d e f g i j k l m n:Value} (h:∀x v,[a,b,c,d,e,f,g,i,j,k,l,m,n][x]? =some v->p x v):p 0 a/\p 1 b/\p 2 c/\p 3 d/\p 4 e/\p 5 f/\p 6 g/\p 7 i/\p 8 j/\p 9 k/\p 10 l/\p 11 m/\p 12 n:=
 ⟨h 0 _ rfl,h 1 _ rfl,h 2 _ rfl,h 3 _ rfl,h 4 _ rfl,h 5 _ rfl,h 6 _ rfl,h 7 _ rfl,h 8 _ rfl,h 9 _ rfl,h 10 _ rfl,h 11 _ rfl,h 12 _ rfl⟩
theorem D3 {p:Nat->Value->Prop} {a b c d e f g i j k l m n o q:Value} (h:∀x v,[a,b,c,d,e,f,g,i,j,k,l,m,n,o,q][x]? =some v->p x v):p 0 a/\p 1 b/\p 2 c/\p 3 d/\p 4 e/\p 5 f/\p 6 g/\p 7 i/\p 8 j/\p 9 k/\p 10 l/\p 11 m/\p 12 n/\p 13 o/\p 14 q:=
 ⟨h 0 _ rfl,h 1 _ rfl,h 2 _ rfl,h 3 _ rfl,h 4 _ rfl,h 5 _ rfl,h 6 _ rfl,h 7 _ rfl,h 8 _ rfl,h 9 _ rfl,h 10 _ rfl,h 11 _ rfl,h 12 _ rfl,h 13 _ rfl,h 14 _ rfl⟩
end Go.Proofs.YtjdnmblggdobgaaGreat
namespace Go.Proofs.YtjdnmblggdobgaaGreat
open Go.RowKit Tryz
def idx {α:Type} (p:α->Bool) (l:List α):Int:=match l.findIdx? p with | some i=>(i:Int) | none=>-1
theorem Ai {α:Type} {p:α->Bool} {l:List α} {k:Nat} (A:k<l.length) (h:∀x∈l.take k,p x=false) (D:p l[k]=true):idx p l=k:=by
 have:l.findIdx? p=some k:=by rw [List.findIdx?_eq_some_iff_getElem];refine ⟨A,D,fun j E=>?_⟩;have:=h l[j] (by rw [List.mem_take_iff_getElem];exact ⟨j,by omega,rfl⟩);simp [this]
 simp [idx,this]
theorem Aw {α:Type} {p:α->Bool} {l:List α} (h:∀x∈l,p x=false):idx p l= -1:=by
 have:l.findIdx? p=none:=by rw [List.findIdx?_eq_none_iff];exact h
 simp [idx,this]
theorem B9 {α:Type} (p:α->Bool) (l:List α):decide (0<=idx p l)=l.any p:=by
 unfold idx;cases h:l.findIdx? p with
 | none=>
   rw [List.findIdx?_eq_none_iff]at h;have:l.any p=false:=by rw [List.any_eq_false];intro x E;simp [h x E]
   rw [this];rfl
 | some i=>
   have D:=List.findIdx?_eq_some_iff_getElem.1 h;obtain ⟨hi,A,_⟩:=D;have:l.any p=true:=List.any_eq_true.2 ⟨_,gm hi,A⟩;rw [this];simp
theorem Ax {α:Type} {p:α->Bool} {l:List α} {k:Nat} (D:k<l.length) (h:∀x∈l.take k,p x=false) (E:p l[k]=false):∀x∈l.take (k+1),p x=false:=by
 intro x A;rw [List.take_succ_eq_append_getElem D]at A;rcases List.mem_append.1 A with A | A
 ·exact h x A
 rw [List.mem_singleton]at A;rw [A,E]
theorem Do {α:Type} (p:α->Bool) (l:List α):(!l.any fun x=>!p x)=l.all p:=by
 induction l with
 | nil=>rfl
 | cons x l ih=>rw [List.any_cons,List.all_cons,<-ih];cases p x<;>simp
def Bb (B:Nat) (w:World) (u:Value) (x:aq):Prop:=∃fo cf mo cm,u=.agg #[.string x.name,.string x.bv,.slice fo x.fields.length cf,.slice mo x.be.length cm]/\SL 3 RF (· <B) w (.slice fo x.fields.length cf) x.fields/\SL 9 RM (· <B) w (.slice mo x.be.length cm) x.be/\x.name.size<=maxLen/\x.bv.size<=maxLen
theorem Bb.below {B:Nat} {w w':World} {u:Value} {x:aq} (h:Bb B w u x) (E:Below B w w'):Bb B w' u x:=by obtain ⟨L,F,mo,G,rfl,I,J,A,D⟩:=h;exact ⟨L,F,mo,G,rfl,I.keptF (Kp.below E),J.keptM (Kp.below E),A,D⟩
theorem zcm (w:World) (B:Nat) (v:Value) (l:List (aq)) (Z:SL 4 RC (· <B) w v l) (hB:B<=w.heap.size) (g:Nat) (cap:Array Value) (p:aq->Bool) (ac:∀args w,(callFunc g args).run prog w=.ok (.enter g args) w)
 (hc:∀x∈l,∀u W,Bl w W->Bb B W u x->Calls prog g (#[u]++cap) W fun r W'=>r=.returned (.bool (p x))/\Bl W W'):
 Calls prog 318 #[v,.func (.func g) #[] cap] w fun r w'=>r=.returned (.i (idx p l))/\Bl w w':=by
 have HV:=ag Z;obtain ⟨aa,cl,rfl,-,V,-⟩:=Z;unfold maxLen at V;have HC:=ag hc;clear hc;go_enter func318,ntmps318;go_wp2_with fail;go_loopw [8] (fun i wr=>∃k:Nat,k<=l.length/\i=.i k/\Hid (∀x∈l.take k,p x=false)/\Bl w wr) (fun i _=>l.length - (intOf i).toNat)
 case atStart=>exact ⟨0,n0q _,rfl,(fun x hx=>by cases hx),br _ _⟩
 case round=>
  obtain ⟨k,hk,rfl,L,D⟩:=hrel;by_cases F:k<l.length
  ·obtain ⟨b,off,vf,vm,rfl,hb,e0,e1,e2,e3,X,Y,N,O⟩:=(HV.o.keptC (Kp.below (D.mono hB))).atC k F;have EF:=ag X;have EM:=ag Y;obtain ⟨fo,cf,rfl,-⟩:=X;obtain ⟨mo,cm,rfl,-⟩:=Y;have E:=HC.o l[k] (gm F) _ _ D ⟨fo,cf,mo,cm,rfl,EF.o,EM.o,N,O⟩;have A:=ag E;clear E;go_wp2_with fail;refine A.o.mono ?_;rintro r w2 ⟨rfl,J⟩;have I:=D.trans (J.mono D.size);clear J A;cases hp:p l[k]
   ·have G:=ag (Ax F L.o hp);clear hp;go_wp2_with fail;go_roundw
    case rel=>exact ⟨k+1,by omega,by go_num,G.o,I⟩
    case measure=>simp [intOf];omega
   have G:=ag (Ai F L.o hp);clear hp;go_wp2_with fail;go_ret;exact ⟨by rw [G.o];rfl,I⟩
  have G:Hid (idx p l= -1):=Aw (by have:=L.o;rwa [List.take_of_length_le (by omega)]at this);go_wp2_with fail;go_ret;exact ⟨by rw [G.o];rfl,D⟩
theorem zcn (w:World) (B:Nat) (v:Value) (l:List (aq)) (E:SL 4 RC (· <B) w v l) (L:B<=w.heap.size) (g:Nat) (cap:Array Value) (p:aq->Bool) (D:∀args w,(callFunc g args).run prog w=.ok (.enter g args) w)
 (hc:∀x∈l,∀u W,Bl w W->Bb B W u x->Calls prog g (#[u]++cap) W fun r I=>r=.returned (.bool (p x))/\Bl W I):
 Calls prog 286 #[v,.func (.func g) #[] cap] w fun r w'=>r=.returned (.bool (l.any p))/\Bl w w':=by
 have A:=zcm w B v l E L g cap p D hc;have F:=ag A;clear A hc;have G:=ag (B9 p l);obtain ⟨J,O,rfl,-⟩:=E;go_enter func286,ntmps286;go_wp2_with fail;refine F.o.mono ?_;rintro r V ⟨rfl,N⟩;go_wp2_with fail;go_ret;exact ⟨by rw [<-G.o];rfl,N⟩
theorem zco (W:World) (B:Nat) (P:Nat) (g:Nat) (first cap:Array Value) (x:aq) (u:Value) (b:Bool) (X:Bb B W u x) (N:W.cell? ⟨P,0,none⟩=some (.func (.func g) first cap)) (V:∀args w,(callFunc g args).run prog w=.ok (.enter g args) w)
 (hc:∀D,Bl W D->Calls prog g (first++#[u]++cap) D fun r E=>r=.returned (.bool b)/\Bl D E):
 Calls prog 287 #[u,.p P] W fun r D=>r=.returned (.bool (!b))/\Bl W D:=by
 have O:=World.block_lt_of_cell? W _ N;have I:=ag hc;clear hc;obtain ⟨fo,Y,mo,Z,rfl,ef,em,J,L⟩:=X;go_enter func287,ntmps287;go_wp2_with fail;have A:∀o,Bl W (W.alloc o):=fun o=>(br _ _).alloc (nlq _) o;refine (I.o _ (by first | exact A _ | exact br _ _)).mono ?_;rintro r E ⟨rfl,F⟩;have G:Bl W E:=by first | exact (A _).trans (F.mono (by simp)) | exact F
 clear F A;go_wp2_with fail;go_ret;exact ⟨rfl,G⟩
theorem zcp (w:World) (B:Nat) (v:Value) (l:List (aq)) (Y:SL 4 RC (· <B) w v l) (N:B<=w.heap.size) (g:Nat) (first cap:Array Value) (p:aq->Bool) (G:∀args w,(callFunc g args).run prog w=.ok (.enter g args) w)
 (hc:∀x∈l,∀u W,Bl w W->Bb B W u x->Calls prog g (first++#[u]++cap) W fun r J=>r=.returned (.bool (p x))/\Bl W J):
 Calls prog 236 #[v,.func (.func g) first cap] w fun r w'=>r=.returned (.bool (l.all p))/\Bl w w':=by
 have ac:=qj prog;have HV:=ag Y;obtain ⟨aa,cl,rfl,-⟩:=Y;have HC:=ag hc;have I:=ag G;clear hc G;have E:∀o,Bl w (w.alloc o):=fun o=>(br _ _).alloc (nlq _) o;have A:=ag E;clear E;go_enter func236,ntmps236;go_wp2_with fail;refine (zcn _ B _ l (HV.o.keptC (Kp.below ((A.o _).mono N))) (by simp;omega) 287 _ (fun x=>!p x) (fun args w=>by kernel_rfl) ?_).mono ?_
 ·intro x hx u W O X;have D:Bl w W:=(A.o _).trans (O.mono (by simp));refine zco W B w.heap.size g first cap x u (p x) X ((O.cell (p:=⟨w.heap.size,0,none⟩) (by simp)).trans (by simp [go_sem])) I.o ?_
  intro J F;exact HC.o x hx u J (D.trans (F.mono D.size)) (X.below (F.mono (lt3 N D.size)))
 rintro r w1 ⟨rfl,V⟩;have L:Bl w w1:=(A.o _).trans (V.mono (by simp));have Z:=ag (Do p l);clear V;go_wp2_with fail;go_ret;exact ⟨by rw [<-Z.o];rfl,L⟩
def A1 (_:Nat) (_:World) (u:Value) (x:bq):Prop:=u=.agg #[.string x.name,.i x.kind.kind,.string x.kind.de]/\x.name.size<=maxLen/\x.kind.de.size<=maxLen
theorem A1.below {B:Nat} {w w':World} {u:Value} {x:bq} (h:A1 B w u x) (_:Below B w w'):A1 B w' u x:=by obtain ⟨rfl,A,D⟩:=h;exact ⟨rfl,A,D⟩
theorem zcq (w:World) (B:Nat) (v:Value) (l:List (bq)) (X:SL 3 RF (· <B) w v l) (hB:B<=w.heap.size) (g:Nat) (cap:Array Value) (p:bq->Bool) (ac:∀args w,(callFunc g args).run prog w=.ok (.enter g args) w)
 (hc:∀x∈l,∀u W,Bl w W->A1 B W u x->Calls prog g (#[u]++cap) W fun r W'=>r=.returned (.bool (p x))/\Bl W W'):
 Calls prog 320 #[v,.func (.func g) #[] cap] w fun r w'=>r=.returned (.i (idx p l))/\Bl w w':=by
 have Z:=ag X;obtain ⟨aa,cl,rfl,-,V,-⟩:=X;unfold maxLen at V;have Y:=ag hc;clear hc;go_enter func320,ntmps320;go_wp2_with fail;go_loopw [8] (fun i wr=>∃k:Nat,k<=l.length/\i=.i k/\Hid (∀x∈l.take k,p x=false)/\Bl w wr) (fun i _=>l.length - (intOf i).toNat)
 case atStart=>exact ⟨0,n0q _,rfl,(fun x hx=>by cases hx),br _ _⟩
 case round=>
  obtain ⟨k,hk,rfl,L,D⟩:=hrel;by_cases F:k<l.length
  ·obtain ⟨b,off,rfl,hb,e0,e1,e2,N,O⟩:=(Z.o.keptF (Kp.below (D.mono hB))).atF k F;have E:=Y.o l[k] (gm F) _ _ D ⟨rfl,N,O⟩;have A:=ag E;clear E;go_wp2_with fail;refine A.o.mono ?_;rintro r w2 ⟨rfl,J⟩;have I:=D.trans (J.mono D.size);clear J A;cases hp:p l[k]
   ·have G:=ag (Ax F L.o hp);clear hp;go_wp2_with fail;go_roundw
    case rel=>exact ⟨k+1,by omega,by go_num,G.o,I⟩
    case measure=>simp [intOf];omega
   have G:=ag (Ai F L.o hp);clear hp;go_wp2_with fail;go_ret;exact ⟨by rw [G.o];rfl,I⟩
  have G:Hid (idx p l= -1):=Aw (by have:=L.o;rwa [List.take_of_length_le (by omega)]at this);go_wp2_with fail;go_ret;exact ⟨by rw [G.o];rfl,D⟩
theorem zcr (w:World) (B:Nat) (v:Value) (l:List (bq)) (E:SL 3 RF (· <B) w v l) (L:B<=w.heap.size) (g:Nat) (cap:Array Value) (p:bq->Bool) (D:∀args w,(callFunc g args).run prog w=.ok (.enter g args) w)
 (hc:∀x∈l,∀u W,Bl w W->A1 B W u x->Calls prog g (#[u]++cap) W fun r I=>r=.returned (.bool (p x))/\Bl W I):
 Calls prog 290 #[v,.func (.func g) #[] cap] w fun r w'=>r=.returned (.bool (l.any p))/\Bl w w':=by
 have A:=zcq w B v l E L g cap p D hc;have F:=ag A;clear A hc;have G:=ag (B9 p l);obtain ⟨J,O,rfl,-⟩:=E;go_enter func290,ntmps290;go_wp2_with fail;refine F.o.mono ?_;rintro r V ⟨rfl,N⟩;go_wp2_with fail;go_ret;exact ⟨by rw [<-G.o];rfl,N⟩
theorem zcs (W:World) (B:Nat) (P:Nat) (g:Nat) (first cap:Array Value) (x:bq) (u:Value) (b:Bool) (X:A1 B W u x) (N:W.cell? ⟨P,0,none⟩=some (.func (.func g) first cap)) (V:∀args w,(callFunc g args).run prog w=.ok (.enter g args) w)
 (hc:∀D,Bl W D->Calls prog g (first++#[u]++cap) D fun r E=>r=.returned (.bool b)/\Bl D E):
 Calls prog 291 #[u,.p P] W fun r D=>r=.returned (.bool (!b))/\Bl W D:=by
 have O:=World.block_lt_of_cell? W _ N;have I:=ag hc;clear hc;obtain ⟨rfl,J,L⟩:=X;go_enter func291,ntmps291;go_wp2_with fail;have A:∀o,Bl W (W.alloc o):=fun o=>(br _ _).alloc (nlq _) o;refine (I.o _ (by first | exact A _ | exact br _ _)).mono ?_;rintro r E ⟨rfl,F⟩;have G:Bl W E:=by first | exact (A _).trans (F.mono (by simp)) | exact F
 clear F A;go_wp2_with fail;go_ret;exact ⟨rfl,G⟩
theorem zct (w:World) (B:Nat) (v:Value) (l:List (bq)) (Y:SL 3 RF (· <B) w v l) (N:B<=w.heap.size) (g:Nat) (first cap:Array Value) (p:bq->Bool) (G:∀args w,(callFunc g args).run prog w=.ok (.enter g args) w)
 (hc:∀x∈l,∀u W,Bl w W->A1 B W u x->Calls prog g (first++#[u]++cap) W fun r J=>r=.returned (.bool (p x))/\Bl W J):
 Calls prog 242 #[v,.func (.func g) first cap] w fun r w'=>r=.returned (.bool (l.all p))/\Bl w w':=by
 have ac:=qj prog;have HV:=ag Y;obtain ⟨aa,cl,rfl,-⟩:=Y;have HC:=ag hc;have I:=ag G;clear hc G;have E:∀o,Bl w (w.alloc o):=fun o=>(br _ _).alloc (nlq _) o;have A:=ag E;clear E;go_enter func242,ntmps242;go_wp2_with fail;refine (zcr _ B _ l (HV.o.keptF (Kp.below ((A.o _).mono N))) (by simp;omega) 291 _ (fun x=>!p x) (fun args w=>by kernel_rfl) ?_).mono ?_
 ·intro x hx u W O X;have D:Bl w W:=(A.o _).trans (O.mono (by simp));refine zcs W B w.heap.size g first cap x u (p x) X ((O.cell (p:=⟨w.heap.size,0,none⟩) (by simp)).trans (by simp [go_sem])) I.o ?_
  intro J F;exact HC.o x hx u J (D.trans (F.mono D.size)) (X.below (F.mono (lt3 N D.size)))
 rintro r w1 ⟨rfl,V⟩;have L:Bl w w1:=(A.o _).trans (V.mono (by simp));have Z:=ag (Do p l);clear V;go_wp2_with fail;go_ret;exact ⟨by rw [<-Z.o];rfl,L⟩
def Eu (_:Nat) (_:World) (u:Value) (x:fm):Prop:=u=.agg #[.i x.kind,.string x.de]/\x.de.size<=maxLen
theorem Eu.below {B:Nat} {w w':World} {u:Value} {x:fm} (h:Eu B w u x) (_:Below B w w'):Eu B w' u x:=by obtain ⟨rfl,A⟩:=h;exact ⟨rfl,A⟩
theorem zcu (w:World) (B:Nat) (v:Value) (l:List (fm)) (V:SL 2 RK (· <B) w v l) (hB:B<=w.heap.size) (g:Nat) (cap:Array Value) (p:fm->Bool) (ac:∀args w,(callFunc g args).run prog w=.ok (.enter g args) w)
 (hc:∀x∈l,∀u W,Bl w W->Eu B W u x->Calls prog g (#[u]++cap) W fun r Z=>r=.returned (.bool (p x))/\Bl W Z):
 Calls prog 330 #[v,.func (.func g) #[] cap] w fun r w'=>r=.returned (.i (idx p l))/\Bl w w':=by
 have Y:=ag V;obtain ⟨aa,cl,rfl,-,O,-⟩:=V;unfold maxLen at O;have X:=ag hc;clear hc;go_enter func330,ntmps330;go_wp2_with fail;go_loopw [8] (fun i wr=>∃k:Nat,k<=l.length/\i=.i k/\Hid (∀x∈l.take k,p x=false)/\Bl w wr) (fun i _=>l.length - (intOf i).toNat)
 case atStart=>exact ⟨0,n0q _,rfl,(fun x hx=>by cases hx),br _ _⟩
 case round=>
  obtain ⟨k,hk,rfl,L,D⟩:=hrel;by_cases F:k<l.length
  ·obtain ⟨b,off,rfl,hb,e0,e1,N⟩:=(Y.o.keptK (Kp.below (D.mono hB))).atK k F;have E:=X.o l[k] (gm F) _ _ D ⟨rfl,N⟩;have A:=ag E;clear E;go_wp2_with fail;refine A.o.mono ?_;rintro r w2 ⟨rfl,J⟩;have I:=D.trans (J.mono D.size);clear J A;cases hp:p l[k]
   ·have G:=ag (Ax F L.o hp);clear hp;go_wp2_with fail;go_roundw
    case rel=>exact ⟨k+1,by omega,by go_num,G.o,I⟩
    case measure=>simp [intOf];omega
   have G:=ag (Ai F L.o hp);clear hp;go_wp2_with fail;go_ret;exact ⟨by rw [G.o];rfl,I⟩
  have G:Hid (idx p l= -1):=Aw (by have:=L.o;rwa [List.take_of_length_le (by omega)]at this);go_wp2_with fail;go_ret;exact ⟨by rw [G.o];rfl,D⟩
theorem zcv (w:World) (B:Nat) (v:Value) (l:List (fm)) (E:SL 2 RK (· <B) w v l) (L:B<=w.heap.size) (g:Nat) (cap:Array Value) (p:fm->Bool) (D:∀args w,(callFunc g args).run prog w=.ok (.enter g args) w)
 (hc:∀x∈l,∀u W,Bl w W->Eu B W u x->Calls prog g (#[u]++cap) W fun r I=>r=.returned (.bool (p x))/\Bl W I):
 Calls prog 321 #[v,.func (.func g) #[] cap] w fun r w'=>r=.returned (.bool (l.any p))/\Bl w w':=by
 have A:=zcu w B v l E L g cap p D hc;have F:=ag A;clear A hc;have G:=ag (B9 p l);obtain ⟨J,O,rfl,-⟩:=E;go_enter func321,ntmps321;go_wp2_with fail;refine F.o.mono ?_;rintro r V ⟨rfl,N⟩;go_wp2_with fail;go_ret;exact ⟨by rw [<-G.o];rfl,N⟩
theorem zcw (W:World) (B:Nat) (P:Nat) (g:Nat) (first cap:Array Value) (x:fm) (u:Value) (b:Bool) (V:Eu B W u x) (L:W.cell? ⟨P,0,none⟩=some (.func (.func g) first cap)) (O:∀args w,(callFunc g args).run prog w=.ok (.enter g args) w)
 (hc:∀D,Bl W D->Calls prog g (first++#[u]++cap) D fun r E=>r=.returned (.bool b)/\Bl D E):
 Calls prog 322 #[u,.p P] W fun r D=>r=.returned (.bool (!b))/\Bl W D:=by
 have N:=World.block_lt_of_cell? W _ L;have I:=ag hc;clear hc;obtain ⟨rfl,J⟩:=V;go_enter func322,ntmps322;go_wp2_with fail;have A:∀o,Bl W (W.alloc o):=fun o=>(br _ _).alloc (nlq _) o;refine (I.o _ (by first | exact A _ | exact br _ _)).mono ?_;rintro r E ⟨rfl,F⟩;have G:Bl W E:=by first | exact (A _).trans (F.mono (by simp)) | exact F
 clear F A;go_wp2_with fail;go_ret;exact ⟨rfl,G⟩
theorem zcx (w:World) (B:Nat) (v:Value) (l:List (fm)) (Y:SL 2 RK (· <B) w v l) (N:B<=w.heap.size) (g:Nat) (first cap:Array Value) (p:fm->Bool) (G:∀args w,(callFunc g args).run prog w=.ok (.enter g args) w)
 (hc:∀x∈l,∀u W,Bl w W->Eu B W u x->Calls prog g (first++#[u]++cap) W fun r J=>r=.returned (.bool (p x))/\Bl W J):
 Calls prog 292 #[v,.func (.func g) first cap] w fun r w'=>r=.returned (.bool (l.all p))/\Bl w w':=by
 have ac:=qj prog;have HV:=ag Y;obtain ⟨aa,cl,rfl,-⟩:=Y;have HC:=ag hc;have I:=ag G;clear hc G;have E:∀o,Bl w (w.alloc o):=fun o=>(br _ _).alloc (nlq _) o;have A:=ag E;clear E;go_enter func292,ntmps292;go_wp2_with fail;refine (zcv _ B _ l (HV.o.keptK (Kp.below ((A.o _).mono N))) (by simp;omega) 322 _ (fun x=>!p x) (fun args w=>by kernel_rfl) ?_).mono ?_
 ·intro x hx u W O X;have D:Bl w W:=(A.o _).trans (O.mono (by simp));refine zcw W B w.heap.size g first cap x u (p x) X ((O.cell (p:=⟨w.heap.size,0,none⟩) (by simp)).trans (by simp [go_sem])) I.o ?_
  intro J F;exact HC.o x hx u J (D.trans (F.mono D.size)) (X.below (F.mono (lt3 N D.size)))
 rintro r w1 ⟨rfl,V⟩;have L:Bl w w1:=(A.o _).trans (V.mono (by simp));have Z:=ag (Do p l);clear V;go_wp2_with fail;go_ret;exact ⟨by rw [<-Z.o];rfl,L⟩
def Dx (_:Nat) (_:World) (u:Value) (x:iz):Prop:=u=.agg #[.i x.yj,.i x.upto,.i x.loc,.string x.de]/\x.de.size<=maxLen
theorem Dx.below {B:Nat} {w w':World} {u:Value} {x:iz} (h:Dx B w u x) (_:Below B w w'):Dx B w' u x:=by obtain ⟨rfl,A⟩:=h;exact ⟨rfl,A⟩
theorem zcy (w:World) (B:Nat) (v:Value) (l:List (iz)) (V:SL 4 RH (· <B) w v l) (hB:B<=w.heap.size) (g:Nat) (cap:Array Value) (p:iz->Bool) (ac:∀args w,(callFunc g args).run prog w=.ok (.enter g args) w)
 (hc:∀x∈l,∀u W,Bl w W->Dx B W u x->Calls prog g (#[u]++cap) W fun r Z=>r=.returned (.bool (p x))/\Bl W Z):
 Calls prog 331 #[v,.func (.func g) #[] cap] w fun r w'=>r=.returned (.i (idx p l))/\Bl w w':=by
 have Y:=ag V;obtain ⟨aa,cl,rfl,-,O,-⟩:=V;unfold maxLen at O;have X:=ag hc;clear hc;go_enter func331,ntmps331;go_wp2_with fail;go_loopw [8] (fun i wr=>∃k:Nat,k<=l.length/\i=.i k/\Hid (∀x∈l.take k,p x=false)/\Bl w wr) (fun i _=>l.length - (intOf i).toNat)
 case atStart=>exact ⟨0,n0q _,rfl,(fun x hx=>by cases hx),br _ _⟩
 case round=>
  obtain ⟨k,hk,rfl,L,D⟩:=hrel;by_cases F:k<l.length
  ·obtain ⟨b,off,rfl,hb,e0,e1,e2,e3,N⟩:=(Y.o.keptH (Kp.below (D.mono hB))).atH k F;have E:=X.o l[k] (gm F) _ _ D ⟨rfl,N⟩;have A:=ag E;clear E;go_wp2_with fail;refine A.o.mono ?_;rintro r w2 ⟨rfl,J⟩;have I:=D.trans (J.mono D.size);clear J A;cases hp:p l[k]
   ·have G:=ag (Ax F L.o hp);clear hp;go_wp2_with fail;go_roundw
    case rel=>exact ⟨k+1,by omega,by go_num,G.o,I⟩
    case measure=>simp [intOf];omega
   have G:=ag (Ai F L.o hp);clear hp;go_wp2_with fail;go_ret;exact ⟨by rw [G.o];rfl,I⟩
  have G:Hid (idx p l= -1):=Aw (by have:=L.o;rwa [List.take_of_length_le (by omega)]at this);go_wp2_with fail;go_ret;exact ⟨by rw [G.o];rfl,D⟩
theorem zcz (w:World) (B:Nat) (v:Value) (l:List (iz)) (E:SL 4 RH (· <B) w v l) (L:B<=w.heap.size) (g:Nat) (cap:Array Value) (p:iz->Bool) (D:∀args w,(callFunc g args).run prog w=.ok (.enter g args) w)
 (hc:∀x∈l,∀u W,Bl w W->Dx B W u x->Calls prog g (#[u]++cap) W fun r I=>r=.returned (.bool (p x))/\Bl W I):
 Calls prog 324 #[v,.func (.func g) #[] cap] w fun r w'=>r=.returned (.bool (l.any p))/\Bl w w':=by
 have A:=zcy w B v l E L g cap p D hc;have F:=ag A;clear A hc;have G:=ag (B9 p l);obtain ⟨J,O,rfl,-⟩:=E;go_enter func324,ntmps324;go_wp2_with fail;refine F.o.mono ?_;rintro r V ⟨rfl,N⟩;go_wp2_with fail;go_ret;exact ⟨by rw [<-G.o];rfl,N⟩
theorem zc0 (W:World) (B:Nat) (P:Nat) (g:Nat) (first cap:Array Value) (x:iz) (u:Value) (b:Bool) (V:Dx B W u x) (L:W.cell? ⟨P,0,none⟩=some (.func (.func g) first cap)) (O:∀args w,(callFunc g args).run prog w=.ok (.enter g args) w)
 (hc:∀D,Bl W D->Calls prog g (first++#[u]++cap) D fun r E=>r=.returned (.bool b)/\Bl D E):
 Calls prog 325 #[u,.p P] W fun r D=>r=.returned (.bool (!b))/\Bl W D:=by
 have N:=World.block_lt_of_cell? W _ L;have I:=ag hc;clear hc;obtain ⟨rfl,J⟩:=V;go_enter func325,ntmps325;go_wp2_with fail;have A:∀o,Bl W (W.alloc o):=fun o=>(br _ _).alloc (nlq _) o;refine (I.o _ (by first | exact A _ | exact br _ _)).mono ?_;rintro r E ⟨rfl,F⟩;have G:Bl W E:=by first | exact (A _).trans (F.mono (by simp)) | exact F
 clear F A;go_wp2_with fail;go_ret;exact ⟨rfl,G⟩
theorem zc1 (w:World) (B:Nat) (v:Value) (l:List (iz)) (Y:SL 4 RH (· <B) w v l) (N:B<=w.heap.size) (g:Nat) (first cap:Array Value) (p:iz->Bool) (G:∀args w,(callFunc g args).run prog w=.ok (.enter g args) w)
 (hc:∀x∈l,∀u W,Bl w W->Dx B W u x->Calls prog g (first++#[u]++cap) W fun r J=>r=.returned (.bool (p x))/\Bl W J):
 Calls prog 296 #[v,.func (.func g) first cap] w fun r w'=>r=.returned (.bool (l.all p))/\Bl w w':=by
 have ac:=qj prog;have HV:=ag Y;obtain ⟨aa,cl,rfl,-⟩:=Y;have HC:=ag hc;have I:=ag G;clear hc G;have E:∀o,Bl w (w.alloc o):=fun o=>(br _ _).alloc (nlq _) o;have A:=ag E;clear E;go_enter func296,ntmps296;go_wp2_with fail;refine (zcz _ B _ l (HV.o.keptH (Kp.below ((A.o _).mono N))) (by simp;omega) 325 _ (fun x=>!p x) (fun args w=>by kernel_rfl) ?_).mono ?_
 ·intro x hx u W O X;have D:Bl w W:=(A.o _).trans (O.mono (by simp));refine zc0 W B w.heap.size g first cap x u (p x) X ((O.cell (p:=⟨w.heap.size,0,none⟩) (by simp)).trans (by simp [go_sem])) I.o ?_
  intro J F;exact HC.o x hx u J (D.trans (F.mono D.size)) (X.below (F.mono (lt3 N D.size)))
 rintro r w1 ⟨rfl,V⟩;have L:Bl w w1:=(A.o _).trans (V.mono (by simp));have Z:=ag (Do p l);clear V;go_wp2_with fail;go_ret;exact ⟨by rw [<-Z.o];rfl,L⟩
def zr (B:Nat) (w:World) (u:Value) (x:d9):Prop:=∃ao ca ho ch,u=.agg #[.string x.name,.bool x.static,.slice ao x.args.length ca,.i x.ret.kind,.string x.ret.de,.i x.stack,.i x.locals,.string x.code,.slice ho x.hands.length ch]/\SL 2 RK (· <B) w (.slice ao x.args.length ca) x.args/\SL 4 RH (· <B) w (.slice ho x.hands.length ch) x.hands/\x.name.size<=maxLen/\x.ret.de.size<=maxLen/\x.code.size<=maxLen
theorem zr.below {B:Nat} {w w':World} {u:Value} {x:d9} (h:zr B w u x) (F:Below B w w'):zr B w' u x:=by obtain ⟨G,I,O,J,rfl,L,N,A,D,E⟩:=h;exact ⟨G,I,O,J,rfl,L.keptK (Kp.below F),N.keptH (Kp.below F),A,D,E⟩
theorem zc2 (w:World) (B:Nat) (v:Value) (l:List (d9)) (hv:SL 9 RM (· <B) w v l) (hB:B<=w.heap.size) (g:Nat) (cap:Array Value) (p:d9->Bool) (ac:∀args w,(callFunc g args).run prog w=.ok (.enter g args) w)
 (hc:∀x∈l,∀u W,Bl w W->zr B W u x->Calls prog g (#[u]++cap) W fun r W'=>r=.returned (.bool (p x))/\Bl W W'):
 Calls prog 323 #[v,.func (.func g) #[] cap] w fun r w'=>r=.returned (.i (idx p l))/\Bl w w':=by
 have HV:=ag hv;obtain ⟨aa,cl,rfl,-,X,-⟩:=hv;unfold maxLen at X;have HC:=ag hc;clear hc;go_enter func323,ntmps323;go_wp2_with fail;go_loopw [8] (fun i wr=>∃k:Nat,k<=l.length/\i=.i k/\Hid (∀x∈l.take k,p x=false)/\Bl w wr) (fun i _=>l.length - (intOf i).toNat)
 case atStart=>exact ⟨0,n0q _,rfl,(fun x hx=>by cases hx),br _ _⟩
 case round=>
  obtain ⟨k,hk,rfl,L,D⟩:=hrel;by_cases F:k<l.length
  ·obtain ⟨b,off,va,vh,rfl,hb,e0,e1,e2,e3,e4,e5,e6,e7,e8,Y,Z,N,O,V⟩:=(HV.o.keptM (Kp.below (D.mono hB))).atM k F;have EA:=ag Y;have EH:=ag Z;obtain ⟨ao,ca,rfl,-⟩:=Y;obtain ⟨ho,ch,rfl,-⟩:=Z;have E:=HC.o l[k] (gm F) _ _ D ⟨ao,ca,ho,ch,rfl,EA.o,EH.o,N,O,V⟩;have A:=ag E;clear E;go_wp2_with fail;refine A.o.mono ?_;rintro r w2 ⟨rfl,J⟩;have I:=D.trans (J.mono D.size);clear J A;cases hp:p l[k]
   ·have G:=ag (Ax F L.o hp);clear hp;go_wp2_with fail;go_roundw
    case rel=>exact ⟨k+1,by omega,by go_num,G.o,I⟩
    case measure=>simp [intOf];omega
   have G:=ag (Ai F L.o hp);clear hp;go_wp2_with fail;go_ret;exact ⟨by rw [G.o];rfl,I⟩
  have G:Hid (idx p l= -1):=Aw (by have:=L.o;rwa [List.take_of_length_le (by omega)]at this);go_wp2_with fail;go_ret;exact ⟨by rw [G.o];rfl,D⟩
theorem zc3 (w:World) (B:Nat) (v:Value) (l:List (d9)) (E:SL 9 RM (· <B) w v l) (L:B<=w.heap.size) (g:Nat) (cap:Array Value) (p:d9->Bool) (D:∀args w,(callFunc g args).run prog w=.ok (.enter g args) w)
 (hc:∀x∈l,∀u W,Bl w W->zr B W u x->Calls prog g (#[u]++cap) W fun r I=>r=.returned (.bool (p x))/\Bl W I):
 Calls prog 294 #[v,.func (.func g) #[] cap] w fun r w'=>r=.returned (.bool (l.any p))/\Bl w w':=by
 have A:=zc2 w B v l E L g cap p D hc;have F:=ag A;clear A hc;have G:=ag (B9 p l);obtain ⟨J,O,rfl,-⟩:=E;go_enter func294,ntmps294;go_wp2_with fail;refine F.o.mono ?_;rintro r V ⟨rfl,N⟩;go_wp2_with fail;go_ret;exact ⟨by rw [<-G.o];rfl,N⟩
theorem zc4 (W:World) (B:Nat) (P:Nat) (g:Nat) (first cap:Array Value) (x:d9) (u:Value) (b:Bool) (Y:zr B W u x) (O:W.cell? ⟨P,0,none⟩=some (.func (.func g) first cap)) (X:∀args w,(callFunc g args).run prog w=.ok (.enter g args) w)
 (hc:∀D,Bl W D->Calls prog g (first++#[u]++cap) D fun r E=>r=.returned (.bool b)/\Bl D E):
 Calls prog 295 #[u,.p P] W fun r D=>r=.returned (.bool (!b))/\Bl W D:=by
 have V:=World.block_lt_of_cell? W _ O;have I:=ag hc;clear hc;obtain ⟨Z,ca,ho,ch,rfl,ea,eh,J,L,N⟩:=Y;go_enter func295,ntmps295;go_wp2_with fail;have A:∀o,Bl W (W.alloc o):=fun o=>(br _ _).alloc (nlq _) o;refine (I.o _ (by first | exact A _ | exact br _ _)).mono ?_;rintro r E ⟨rfl,F⟩;have G:Bl W E:=by first | exact (A _).trans (F.mono (by simp)) | exact F
 clear F A;go_wp2_with fail;go_ret;exact ⟨rfl,G⟩
theorem zc5 (w:World) (B:Nat) (v:Value) (l:List (d9)) (Y:SL 9 RM (· <B) w v l) (N:B<=w.heap.size) (g:Nat) (first cap:Array Value) (p:d9->Bool) (G:∀args w,(callFunc g args).run prog w=.ok (.enter g args) w)
 (hc:∀x∈l,∀u W,Bl w W->zr B W u x->Calls prog g (first++#[u]++cap) W fun r J=>r=.returned (.bool (p x))/\Bl W J):
 Calls prog 245 #[v,.func (.func g) first cap] w fun r w'=>r=.returned (.bool (l.all p))/\Bl w w':=by
 have ac:=qj prog;have HV:=ag Y;obtain ⟨aa,cl,rfl,-⟩:=Y;have HC:=ag hc;have I:=ag G;clear hc G;have E:∀o,Bl w (w.alloc o):=fun o=>(br _ _).alloc (nlq _) o;have A:=ag E;clear E;go_enter func245,ntmps245;go_wp2_with fail;refine (zc3 _ B _ l (HV.o.keptM (Kp.below ((A.o _).mono N))) (by simp;omega) 295 _ (fun x=>!p x) (fun args w=>by kernel_rfl) ?_).mono ?_
 ·intro x hx u W O X;have D:Bl w W:=(A.o _).trans (O.mono (by simp));refine zc4 W B w.heap.size g first cap x u (p x) X ((O.cell (p:=⟨w.heap.size,0,none⟩) (by simp)).trans (by simp [go_sem])) I.o ?_
  intro J F;exact HC.o x hx u J (D.trans (F.mono D.size)) (X.below (F.mono (lt3 N D.size)))
 rintro r w1 ⟨rfl,V⟩;have L:Bl w w1:=(A.o _).trans (V.mono (by simp));have Z:=ag (Do p l);clear V;go_wp2_with fail;go_ret;exact ⟨by rw [<-Z.o];rfl,L⟩
def Ev (_:Nat) (_:World) (u:Value) (x:ByteArray):Prop:=u=.string x/\x.size<=maxLen
theorem Ev.below {B:Nat} {w w':World} {u:Value} {x:ByteArray} (h:Ev B w u x) (_:Below B w w'):Ev B w' u x:=by obtain ⟨rfl,A⟩:=h;exact ⟨rfl,A⟩
theorem zc6 (w:World) (B:Nat) (v:Value) (l:List (ByteArray)) (V:SL 1 RS (· <B) w v l) (hB:B<=w.heap.size) (g:Nat) (cap:Array Value) (p:ByteArray->Bool) (ac:∀args w,(callFunc g args).run prog w=.ok (.enter g args) w)
 (hc:∀x∈l,∀u W,Bl w W->Ev B W u x->Calls prog g (#[u]++cap) W fun r Z=>r=.returned (.bool (p x))/\Bl W Z):
 Calls prog 329 #[v,.func (.func g) #[] cap] w fun r w'=>r=.returned (.i (idx p l))/\Bl w w':=by
 have Y:=ag V;obtain ⟨aa,cl,rfl,-,O,-⟩:=V;unfold maxLen at O;have X:=ag hc;clear hc;go_enter func329,ntmps329;go_wp2_with fail;go_loopw [8] (fun i wr=>∃k:Nat,k<=l.length/\i=.i k/\Hid (∀x∈l.take k,p x=false)/\Bl w wr) (fun i _=>l.length - (intOf i).toNat)
 case atStart=>exact ⟨0,n0q _,rfl,(fun x hx=>by cases hx),br _ _⟩
 case round=>
  obtain ⟨k,hk,rfl,L,D⟩:=hrel;by_cases F:k<l.length
  ·obtain ⟨b,off,rfl,hb,e0,N⟩:=(Y.o.keptS (Kp.below (D.mono hB))).atS k F;have E:=X.o l[k] (gm F) _ _ D ⟨rfl,N⟩;have A:=ag E;clear E;go_wp2_with fail;refine A.o.mono ?_;rintro r w2 ⟨rfl,J⟩;have I:=D.trans (J.mono D.size);clear J A;cases hp:p l[k]
   ·have G:=ag (Ax F L.o hp);clear hp;go_wp2_with fail;go_roundw
    case rel=>exact ⟨k+1,by omega,by go_num,G.o,I⟩
    case measure=>simp [intOf];omega
   have G:=ag (Ai F L.o hp);clear hp;go_wp2_with fail;go_ret;exact ⟨by rw [G.o];rfl,I⟩
  have G:Hid (idx p l= -1):=Aw (by have:=L.o;rwa [List.take_of_length_le (by omega)]at this);go_wp2_with fail;go_ret;exact ⟨by rw [G.o];rfl,D⟩
theorem zc7 (w:World) (B:Nat) (v:Value) (l:List (ByteArray)) (E:SL 1 RS (· <B) w v l) (L:B<=w.heap.size) (g:Nat) (cap:Array Value) (p:ByteArray->Bool) (D:∀args w,(callFunc g args).run prog w=.ok (.enter g args) w)
 (hc:∀x∈l,∀u W,Bl w W->Ev B W u x->Calls prog g (#[u]++cap) W fun r I=>r=.returned (.bool (p x))/\Bl W I):
 Calls prog 316 #[v,.func (.func g) #[] cap] w fun r w'=>r=.returned (.bool (l.any p))/\Bl w w':=by
 have A:=zc6 w B v l E L g cap p D hc;have F:=ag A;clear A hc;have G:=ag (B9 p l);obtain ⟨J,O,rfl,-⟩:=E;go_enter func316,ntmps316;go_wp2_with fail;refine F.o.mono ?_;rintro r V ⟨rfl,N⟩;go_wp2_with fail;go_ret;exact ⟨by rw [<-G.o];rfl,N⟩
theorem zc8 (W:World) (B:Nat) (P:Nat) (g:Nat) (first cap:Array Value) (x:ByteArray) (u:Value) (b:Bool) (V:Ev B W u x) (L:W.cell? ⟨P,0,none⟩=some (.func (.func g) first cap)) (O:∀args w,(callFunc g args).run prog w=.ok (.enter g args) w)
 (hc:∀D,Bl W D->Calls prog g (first++#[u]++cap) D fun r E=>r=.returned (.bool b)/\Bl D E):
 Calls prog 317 #[u,.p P] W fun r D=>r=.returned (.bool (!b))/\Bl W D:=by
 have N:=World.block_lt_of_cell? W _ L;have I:=ag hc;clear hc;obtain ⟨rfl,J⟩:=V;go_enter func317,ntmps317;go_wp2_with fail;have A:∀o,Bl W (W.alloc o):=fun o=>(br _ _).alloc (nlq _) o;refine (I.o _ (by first | exact A _ | exact br _ _)).mono ?_;rintro r E ⟨rfl,F⟩;have G:Bl W E:=by first | exact (A _).trans (F.mono (by simp)) | exact F
 clear F A;go_wp2_with fail;go_ret;exact ⟨rfl,G⟩
theorem zc9 (w:World) (B:Nat) (v:Value) (l:List (ByteArray)) (Y:SL 1 RS (· <B) w v l) (N:B<=w.heap.size) (g:Nat) (first cap:Array Value) (p:ByteArray->Bool) (G:∀args w,(callFunc g args).run prog w=.ok (.enter g args) w)
 (hc:∀x∈l,∀u W,Bl w W->Ev B W u x->Calls prog g (first++#[u]++cap) W fun r J=>r=.returned (.bool (p x))/\Bl W J):
 Calls prog 284 #[v,.func (.func g) first cap] w fun r w'=>r=.returned (.bool (l.all p))/\Bl w w':=by
 have ac:=qj prog;have HV:=ag Y;obtain ⟨aa,cl,rfl,-⟩:=Y;have HC:=ag hc;have I:=ag G;clear hc G;have E:∀o,Bl w (w.alloc o):=fun o=>(br _ _).alloc (nlq _) o;have A:=ag E;clear E;go_enter func284,ntmps284;go_wp2_with fail;refine (zc7 _ B _ l (HV.o.keptS (Kp.below ((A.o _).mono N))) (by simp;omega) 317 _ (fun x=>!p x) (fun args w=>by kernel_rfl) ?_).mono ?_
 ·intro x hx u W O X;have D:Bl w W:=(A.o _).trans (O.mono (by simp));refine zc8 W B w.heap.size g first cap x u (p x) X ((O.cell (p:=⟨w.heap.size,0,none⟩) (by simp)).trans (by simp [go_sem])) I.o ?_
  intro J F;exact HC.o x hx u J (D.trans (F.mono D.size)) (X.below (F.mono (lt3 N D.size)))
 rintro r w1 ⟨rfl,V⟩;have L:Bl w w1:=(A.o _).trans (V.mono (by simp));have Z:=ag (Do p l);clear V;go_wp2_with fail;go_ret;exact ⟨by rw [<-Z.o];rfl,L⟩
def ya (B:Nat) (w:World) (u:Value) (x:List Nat):Prop:=∃ao ca,u=.slice ao x.length ca/\SL 1 RO (· <B) w (.slice ao x.length ca) x
theorem ya.below {B:Nat} {w w':World} {u:Value} {x:List Nat} (h:ya B w u x) (F:Below B w w'):ya B w' u x:=by obtain ⟨A,D,rfl,E⟩:=h;exact ⟨A,D,rfl,E.keptO (Kp.below F)⟩
theorem zda (w:World) (B:Nat) (v:Value) (l:List (List Nat)) (O:SL 1 (kr 1 RO) (· <B) w v l) (hB:B<=w.heap.size) (g:Nat) (cap:Array Value) (p:List Nat->Bool) (ac:∀args w,(callFunc g args).run prog w=.ok (.enter g args) w)
 (hc:∀x∈l,∀u W,Bl w W->ya B W u x->Calls prog g (#[u]++cap) W fun r Z=>r=.returned (.bool (p x))/\Bl W Z):
 Calls prog 319 #[v,.func (.func g) #[] cap] w fun r w'=>r=.returned (.i (idx p l))/\Bl w w':=by
 have Y:=ag O;obtain ⟨aa,cl,rfl,-,N,-⟩:=O;unfold maxLen at N;have X:=ag hc;clear hc;go_enter func319,ntmps319;go_wp2_with fail;go_loopw [8] (fun i wr=>∃k:Nat,k<=l.length/\i=.i k/\Hid (∀x∈l.take k,p x=false)/\Bl w wr) (fun i _=>l.length - (intOf i).toNat)
 case atStart=>exact ⟨0,n0q _,rfl,(fun x hx=>by cases hx),br _ _⟩
 case round=>
  obtain ⟨k,hk,rfl,L,D⟩:=hrel;by_cases F:k<l.length
  ·obtain ⟨b,off,ai,ci,rfl,hb,e0,ei⟩:=(Y.o.keptSl (Kp.below (D.mono hB)) fun _ _ h=>h).atSl k F;have V:=ag ei;have E:=X.o l[k] (gm F) _ _ D ⟨ai,ci,rfl,V.o⟩;have A:=ag E;clear E;go_wp2_with fail;refine A.o.mono ?_;rintro r w2 ⟨rfl,J⟩;have I:=D.trans (J.mono D.size);clear J A;cases hp:p l[k]
   ·have G:=ag (Ax F L.o hp);clear hp;go_wp2_with fail;go_roundw
    case rel=>exact ⟨k+1,by omega,by go_num,G.o,I⟩
    case measure=>simp [intOf];omega
   have G:=ag (Ai F L.o hp);clear hp;go_wp2_with fail;go_ret;exact ⟨by rw [G.o];rfl,I⟩
  have G:Hid (idx p l= -1):=Aw (by have:=L.o;rwa [List.take_of_length_le (by omega)]at this);go_wp2_with fail;go_ret;exact ⟨by rw [G.o];rfl,D⟩
theorem zdb (w:World) (B:Nat) (v:Value) (l:List (List Nat)) (E:SL 1 (kr 1 RO) (· <B) w v l) (L:B<=w.heap.size) (g:Nat) (cap:Array Value) (p:List Nat->Bool) (D:∀args w,(callFunc g args).run prog w=.ok (.enter g args) w)
 (hc:∀x∈l,∀u W,Bl w W->ya B W u x->Calls prog g (#[u]++cap) W fun r I=>r=.returned (.bool (p x))/\Bl W I):
 Calls prog 288 #[v,.func (.func g) #[] cap] w fun r w'=>r=.returned (.bool (l.any p))/\Bl w w':=by
 have A:=zda w B v l E L g cap p D hc;have F:=ag A;clear A hc;have G:=ag (B9 p l);obtain ⟨J,O,rfl,-⟩:=E;go_enter func288,ntmps288;go_wp2_with fail;refine F.o.mono ?_;rintro r V ⟨rfl,N⟩;go_wp2_with fail;go_ret;exact ⟨by rw [<-G.o];rfl,N⟩
theorem zdc (W:World) (B:Nat) (P:Nat) (g:Nat) (first cap:Array Value) (x:List Nat) (u:Value) (b:Bool) (O:ya B W u x) (J:W.cell? ⟨P,0,none⟩=some (.func (.func g) first cap)) (N:∀args w,(callFunc g args).run prog w=.ok (.enter g args) w)
 (hc:∀D,Bl W D->Calls prog g (first++#[u]++cap) D fun r E=>r=.returned (.bool b)/\Bl D E):
 Calls prog 289 #[u,.p P] W fun r D=>r=.returned (.bool (!b))/\Bl W D:=by
 have L:=World.block_lt_of_cell? W _ J;have I:=ag hc;clear hc;obtain ⟨V,X,rfl,Y⟩:=O;go_enter func289,ntmps289;go_wp2_with fail;have A:∀o,Bl W (W.alloc o):=fun o=>(br _ _).alloc (nlq _) o;refine (I.o _ (by first | exact A _ | exact br _ _)).mono ?_;rintro r E ⟨rfl,F⟩;have G:Bl W E:=by first | exact (A _).trans (F.mono (by simp)) | exact F
 clear F A;go_wp2_with fail;go_ret;exact ⟨rfl,G⟩
theorem zdd (w:World) (B:Nat) (v:Value) (l:List (List Nat)) (Y:SL 1 (kr 1 RO) (· <B) w v l) (N:B<=w.heap.size) (g:Nat) (first cap:Array Value) (p:List Nat->Bool) (G:∀args w,(callFunc g args).run prog w=.ok (.enter g args) w)
 (hc:∀x∈l,∀u W,Bl w W->ya B W u x->Calls prog g (first++#[u]++cap) W fun r J=>r=.returned (.bool (p x))/\Bl W J):
 Calls prog 239 #[v,.func (.func g) first cap] w fun r w'=>r=.returned (.bool (l.all p))/\Bl w w':=by
 have ac:=qj prog;have HV:=ag Y;obtain ⟨aa,cl,rfl,-⟩:=Y;have HC:=ag hc;have I:=ag G;clear hc G;have E:∀o,Bl w (w.alloc o):=fun o=>(br _ _).alloc (nlq _) o;have A:=ag E;clear E;go_enter func239,ntmps239;go_wp2_with fail;refine (zdb _ B _ l (HV.o.keptSl (Kp.below ((A.o _).mono N)) fun _ _ h=>h) (by simp;omega) 289 _ (fun x=>!p x) (fun args w=>by kernel_rfl) ?_).mono ?_
 ·intro x hx u W O X;have D:Bl w W:=(A.o _).trans (O.mono (by simp));refine zdc W B w.heap.size g first cap x u (p x) X ((O.cell (p:=⟨w.heap.size,0,none⟩) (by simp)).trans (by simp [go_sem])) I.o ?_
  intro J F;exact HC.o x hx u J (D.trans (F.mono D.size)) (X.below (F.mono (lt3 N D.size)))
 rintro r w1 ⟨rfl,V⟩;have L:Bl w w1:=(A.o _).trans (V.mono (by simp));have Z:=ag (Do p l);clear V;go_wp2_with fail;go_ret;exact ⟨by rw [<-Z.o];rfl,L⟩
def xb (B:Nat) (w:World) (u:Value) (x:List bq):Prop:=∃ao ca,u=.slice ao x.length ca/\SL 3 RF (· <B) w (.slice ao x.length ca) x
theorem xb.below {B:Nat} {w w':World} {u:Value} {x:List bq} (h:xb B w u x) (F:Below B w w'):xb B w' u x:=by obtain ⟨A,D,rfl,E⟩:=h;exact ⟨A,D,rfl,E.keptF (Kp.below F)⟩
theorem zde (w:World) (B:Nat) (v:Value) (l:List (List bq)) (O:SL 1 (kr 3 RF) (· <B) w v l) (hB:B<=w.heap.size) (g:Nat) (cap:Array Value) (p:List bq->Bool) (ac:∀args w,(callFunc g args).run prog w=.ok (.enter g args) w)
 (hc:∀x∈l,∀u W,Bl w W->xb B W u x->Calls prog g (#[u]++cap) W fun r Z=>r=.returned (.bool (p x))/\Bl W Z):
 Calls prog 326 #[v,.func (.func g) #[] cap] w fun r w'=>r=.returned (.i (idx p l))/\Bl w w':=by
 have Y:=ag O;obtain ⟨aa,cl,rfl,-,N,-⟩:=O;unfold maxLen at N;have X:=ag hc;clear hc;go_enter func326,ntmps326;go_wp2_with fail;go_loopw [8] (fun i wr=>∃k:Nat,k<=l.length/\i=.i k/\Hid (∀x∈l.take k,p x=false)/\Bl w wr) (fun i _=>l.length - (intOf i).toNat)
 case atStart=>exact ⟨0,n0q _,rfl,(fun x hx=>by cases hx),br _ _⟩
 case round=>
  obtain ⟨k,hk,rfl,L,D⟩:=hrel;by_cases F:k<l.length
  ·obtain ⟨b,off,ai,ci,rfl,hb,e0,ei⟩:=(Y.o.keptSl (Kp.below (D.mono hB)) fun _ _ h=>h).atSl k F;have V:=ag ei;have E:=X.o l[k] (gm F) _ _ D ⟨ai,ci,rfl,V.o⟩;have A:=ag E;clear E;go_wp2_with fail;refine A.o.mono ?_;rintro r w2 ⟨rfl,J⟩;have I:=D.trans (J.mono D.size);clear J A;cases hp:p l[k]
   ·have G:=ag (Ax F L.o hp);clear hp;go_wp2_with fail;go_roundw
    case rel=>exact ⟨k+1,by omega,by go_num,G.o,I⟩
    case measure=>simp [intOf];omega
   have G:=ag (Ai F L.o hp);clear hp;go_wp2_with fail;go_ret;exact ⟨by rw [G.o];rfl,I⟩
  have G:Hid (idx p l= -1):=Aw (by have:=L.o;rwa [List.take_of_length_le (by omega)]at this);go_wp2_with fail;go_ret;exact ⟨by rw [G.o];rfl,D⟩
theorem zdf (w:World) (B:Nat) (v:Value) (l:List (List bq)) (E:SL 1 (kr 3 RF) (· <B) w v l) (L:B<=w.heap.size) (g:Nat) (cap:Array Value) (p:List bq->Bool) (D:∀args w,(callFunc g args).run prog w=.ok (.enter g args) w)
 (hc:∀x∈l,∀u W,Bl w W->xb B W u x->Calls prog g (#[u]++cap) W fun r I=>r=.returned (.bool (p x))/\Bl W I):
 Calls prog 298 #[v,.func (.func g) #[] cap] w fun r w'=>r=.returned (.bool (l.any p))/\Bl w w':=by
 have A:=zde w B v l E L g cap p D hc;have F:=ag A;clear A hc;have G:=ag (B9 p l);obtain ⟨J,O,rfl,-⟩:=E;go_enter func298,ntmps298;go_wp2_with fail;refine F.o.mono ?_;rintro r V ⟨rfl,N⟩;go_wp2_with fail;go_ret;exact ⟨by rw [<-G.o];rfl,N⟩
theorem zdg (W:World) (B:Nat) (P:Nat) (g:Nat) (first cap:Array Value) (x:List bq) (u:Value) (b:Bool) (O:xb B W u x) (J:W.cell? ⟨P,0,none⟩=some (.func (.func g) first cap)) (N:∀args w,(callFunc g args).run prog w=.ok (.enter g args) w)
 (hc:∀D,Bl W D->Calls prog g (first++#[u]++cap) D fun r E=>r=.returned (.bool b)/\Bl D E):
 Calls prog 299 #[u,.p P] W fun r D=>r=.returned (.bool (!b))/\Bl W D:=by
 have L:=World.block_lt_of_cell? W _ J;have I:=ag hc;clear hc;obtain ⟨V,X,rfl,Y⟩:=O;go_enter func299,ntmps299;go_wp2_with fail;have A:∀o,Bl W (W.alloc o):=fun o=>(br _ _).alloc (nlq _) o;refine (I.o _ (by first | exact A _ | exact br _ _)).mono ?_;rintro r E ⟨rfl,F⟩;have G:Bl W E:=by first | exact (A _).trans (F.mono (by simp)) | exact F
 clear F A;go_wp2_with fail;go_ret;exact ⟨rfl,G⟩
theorem zdh (w:World) (B:Nat) (v:Value) (l:List (List bq)) (Y:SL 1 (kr 3 RF) (· <B) w v l) (N:B<=w.heap.size) (g:Nat) (first cap:Array Value) (p:List bq->Bool) (G:∀args w,(callFunc g args).run prog w=.ok (.enter g args) w)
 (hc:∀x∈l,∀u W,Bl w W->xb B W u x->Calls prog g (first++#[u]++cap) W fun r J=>r=.returned (.bool (p x))/\Bl W J):
 Calls prog 247 #[v,.func (.func g) first cap] w fun r w'=>r=.returned (.bool (l.all p))/\Bl w w':=by
 have ac:=qj prog;have HV:=ag Y;obtain ⟨aa,cl,rfl,-⟩:=Y;have HC:=ag hc;have I:=ag G;clear hc G;have E:∀o,Bl w (w.alloc o):=fun o=>(br _ _).alloc (nlq _) o;have A:=ag E;clear E;go_enter func247,ntmps247;go_wp2_with fail;refine (zdf _ B _ l (HV.o.keptSl (Kp.below ((A.o _).mono N)) fun _ _ h=>h) (by simp;omega) 299 _ (fun x=>!p x) (fun args w=>by kernel_rfl) ?_).mono ?_
 ·intro x hx u W O X;have D:Bl w W:=(A.o _).trans (O.mono (by simp));refine zdg W B w.heap.size g first cap x u (p x) X ((O.cell (p:=⟨w.heap.size,0,none⟩) (by simp)).trans (by simp [go_sem])) I.o ?_
  intro J F;exact HC.o x hx u J (D.trans (F.mono D.size)) (X.below (F.mono (lt3 N D.size)))
 rintro r w1 ⟨rfl,V⟩;have L:Bl w w1:=(A.o _).trans (V.mono (by simp));have Z:=ag (Do p l);clear V;go_wp2_with fail;go_ret;exact ⟨by rw [<-Z.o];rfl,L⟩
def yb (B:Nat) (w:World) (u:Value) (x:List ByteArray):Prop:=∃ao ca,u=.slice ao x.length ca/\SL 1 RS (· <B) w (.slice ao x.length ca) x
theorem yb.below {B:Nat} {w w':World} {u:Value} {x:List ByteArray} (h:yb B w u x) (F:Below B w w'):yb B w' u x:=by obtain ⟨A,D,rfl,E⟩:=h;exact ⟨A,D,rfl,E.keptS (Kp.below F)⟩
theorem zdi (w:World) (B:Nat) (v:Value) (l:List (List ByteArray)) (O:SL 1 (kr 1 RS) (· <B) w v l) (hB:B<=w.heap.size) (g:Nat) (cap:Array Value) (p:List ByteArray->Bool) (ac:∀args w,(callFunc g args).run prog w=.ok (.enter g args) w)
 (hc:∀x∈l,∀u W,Bl w W->yb B W u x->Calls prog g (#[u]++cap) W fun r Z=>r=.returned (.bool (p x))/\Bl W Z):
 Calls prog 327 #[v,.func (.func g) #[] cap] w fun r w'=>r=.returned (.i (idx p l))/\Bl w w':=by
 have Y:=ag O;obtain ⟨aa,cl,rfl,-,N,-⟩:=O;unfold maxLen at N;have X:=ag hc;clear hc;go_enter func327,ntmps327;go_wp2_with fail;go_loopw [8] (fun i wr=>∃k:Nat,k<=l.length/\i=.i k/\Hid (∀x∈l.take k,p x=false)/\Bl w wr) (fun i _=>l.length - (intOf i).toNat)
 case atStart=>exact ⟨0,n0q _,rfl,(fun x hx=>by cases hx),br _ _⟩
 case round=>
  obtain ⟨k,hk,rfl,L,D⟩:=hrel;by_cases F:k<l.length
  ·obtain ⟨b,off,ai,ci,rfl,hb,e0,ei⟩:=(Y.o.keptSl (Kp.below (D.mono hB)) fun _ _ h=>h).atSl k F;have V:=ag ei;have E:=X.o l[k] (gm F) _ _ D ⟨ai,ci,rfl,V.o⟩;have A:=ag E;clear E;go_wp2_with fail;refine A.o.mono ?_;rintro r w2 ⟨rfl,J⟩;have I:=D.trans (J.mono D.size);clear J A;cases hp:p l[k]
   ·have G:=ag (Ax F L.o hp);clear hp;go_wp2_with fail;go_roundw
    case rel=>exact ⟨k+1,by omega,by go_num,G.o,I⟩
    case measure=>simp [intOf];omega
   have G:=ag (Ai F L.o hp);clear hp;go_wp2_with fail;go_ret;exact ⟨by rw [G.o];rfl,I⟩
  have G:Hid (idx p l= -1):=Aw (by have:=L.o;rwa [List.take_of_length_le (by omega)]at this);go_wp2_with fail;go_ret;exact ⟨by rw [G.o];rfl,D⟩
theorem zdj (w:World) (B:Nat) (v:Value) (l:List (List ByteArray)) (E:SL 1 (kr 1 RS) (· <B) w v l) (L:B<=w.heap.size) (g:Nat) (cap:Array Value) (p:List ByteArray->Bool) (D:∀args w,(callFunc g args).run prog w=.ok (.enter g args) w)
 (hc:∀x∈l,∀u W,Bl w W->yb B W u x->Calls prog g (#[u]++cap) W fun r I=>r=.returned (.bool (p x))/\Bl W I):
 Calls prog 303 #[v,.func (.func g) #[] cap] w fun r w'=>r=.returned (.bool (l.any p))/\Bl w w':=by
 have A:=zdi w B v l E L g cap p D hc;have F:=ag A;clear A hc;have G:=ag (B9 p l);obtain ⟨J,O,rfl,-⟩:=E;go_enter func303,ntmps303;go_wp2_with fail;refine F.o.mono ?_;rintro r V ⟨rfl,N⟩;go_wp2_with fail;go_ret;exact ⟨by rw [<-G.o];rfl,N⟩
theorem zdk (W:World) (B:Nat) (P:Nat) (g:Nat) (first cap:Array Value) (x:List ByteArray) (u:Value) (b:Bool) (O:yb B W u x) (J:W.cell? ⟨P,0,none⟩=some (.func (.func g) first cap)) (N:∀args w,(callFunc g args).run prog w=.ok (.enter g args) w)
 (hc:∀D,Bl W D->Calls prog g (first++#[u]++cap) D fun r E=>r=.returned (.bool b)/\Bl D E):
 Calls prog 304 #[u,.p P] W fun r D=>r=.returned (.bool (!b))/\Bl W D:=by
 have L:=World.block_lt_of_cell? W _ J;have I:=ag hc;clear hc;obtain ⟨V,X,rfl,Y⟩:=O;go_enter func304,ntmps304;go_wp2_with fail;have A:∀o,Bl W (W.alloc o):=fun o=>(br _ _).alloc (nlq _) o;refine (I.o _ (by first | exact A _ | exact br _ _)).mono ?_;rintro r E ⟨rfl,F⟩;have G:Bl W E:=by first | exact (A _).trans (F.mono (by simp)) | exact F
 clear F A;go_wp2_with fail;go_ret;exact ⟨rfl,G⟩
theorem zdl (w:World) (B:Nat) (v:Value) (l:List (List ByteArray)) (Y:SL 1 (kr 1 RS) (· <B) w v l) (N:B<=w.heap.size) (g:Nat) (first cap:Array Value) (p:List ByteArray->Bool) (G:∀args w,(callFunc g args).run prog w=.ok (.enter g args) w)
 (hc:∀x∈l,∀u W,Bl w W->yb B W u x->Calls prog g (first++#[u]++cap) W fun r J=>r=.returned (.bool (p x))/\Bl W J):
 Calls prog 257 #[v,.func (.func g) first cap] w fun r w'=>r=.returned (.bool (l.all p))/\Bl w w':=by
 have ac:=qj prog;have HV:=ag Y;obtain ⟨aa,cl,rfl,-⟩:=Y;have HC:=ag hc;have I:=ag G;clear hc G;have E:∀o,Bl w (w.alloc o):=fun o=>(br _ _).alloc (nlq _) o;have A:=ag E;clear E;go_enter func257,ntmps257;go_wp2_with fail;refine (zdj _ B _ l (HV.o.keptSl (Kp.below ((A.o _).mono N)) fun _ _ h=>h) (by simp;omega) 304 _ (fun x=>!p x) (fun args w=>by kernel_rfl) ?_).mono ?_
 ·intro x hx u W O X;have D:Bl w W:=(A.o _).trans (O.mono (by simp));refine zdk W B w.heap.size g first cap x u (p x) X ((O.cell (p:=⟨w.heap.size,0,none⟩) (by simp)).trans (by simp [go_sem])) I.o ?_
  intro J F;exact HC.o x hx u J (D.trans (F.mono D.size)) (X.below (F.mono (lt3 N D.size)))
 rintro r w1 ⟨rfl,V⟩;have L:Bl w w1:=(A.o _).trans (V.mono (by simp));have Z:=ag (Do p l);clear V;go_wp2_with fail;go_ret;exact ⟨by rw [<-Z.o];rfl,L⟩
end Go.Proofs.YtjdnmblggdobgaaGreat
