import Derived.Test.YtjdnmblggdobgaaGreatJChkClassCatch
import Derived.Deep.WholeRow
set_option maxHeartbeats 1000000
set_option maxRecDepth 100000
namespace Go.Proofs.YtjdnmblggdobgaaGreat
open Go.RowKit Tryz List World
section
open Go.Maps
variable {s:ByteArray} {B:Nat} {p:Nat->Value->Prop} {W:World} {X t:Nat} {a b c d e f g i j k l m:Value} {α:Type} {n:Nat} {R:(Nat->Prop)->World->List Value->α->Prop} {M M':Nat->Prop} {w w':World} {v:Value} {ao:Option Addr} {len cap:Nat}
def RI (_:Nat->Prop) (_:World) (cs:List Value) (n:Int):Prop:=cs= [.i n]
def RO (_:Nat->Prop) (_:World) (cs:List Value) (n:Nat):Prop:=cs= [.i n]
def RS (_:Nat->Prop) (_:World) (cs:List Value) (s:ByteArray):Prop:=cs= [.string s]/\s.size<=maxLen
def RT (_:Nat->Prop) (_:World) (cs:List Value) (t:dc):Prop:=cs= [.i t.dj,.i t.uf]
def la {α:Type} (n:Nat) (R:(Nat->Prop)->World->List Value->α->Prop) (M:Nat->Prop) (w:World) (cs:List Value) (x:List α):Prop:=∃v,cs= [v]/\SL n R M w v x
theorem SL.keptI {l:List Int} (h:SL 1 RI M w v l) (A:Kp M w w'):SL 1 RI M w' v l:=h.kept A fun _ _ h=>h
theorem SL.keptO {l:List Nat} (h:SL 1 RO M w v l) (A:Kp M w w'):SL 1 RO M w' v l:=h.kept A fun _ _ h=>h
theorem SL.keptS {l:List ByteArray} (h:SL 1 RS M w v l) (A:Kp M w w'):SL 1 RS M w' v l:=h.kept A fun _ _ h=>h
theorem SL.keptT {l:List dc} (h:SL 2 RT M w v l) (A:Kp M w w'):SL 2 RT M w' v l:=h.kept A fun _ _ h=>h
theorem SL.keptSl {l:List (List α)} (h:SL 1 (la n R) M w v l) (A:Kp M w w') (D:∀cs x,R M w cs x->R M w' cs x):SL 1 (la n R) M w' v l:=
 h.kept A fun _ _ ⟨v,e,E⟩=>⟨v,e,E.kept A D⟩
theorem SL.monoI {l:List Int} (h:SL 1 RI M w v l) (A:∀b,M b->M' b):SL 1 RI M' w v l:=h.mono A fun _ _ h=>h
theorem SL.monoO {l:List Nat} (h:SL 1 RO M w v l) (A:∀b,M b->M' b):SL 1 RO M' w v l:=h.mono A fun _ _ h=>h
theorem SL.monoS {l:List ByteArray} (h:SL 1 RS M w v l) (A:∀b,M b->M' b):SL 1 RS M' w v l:=h.mono A fun _ _ h=>h
theorem SL.monoT {l:List dc} (h:SL 2 RT M w v l) (A:∀b,M b->M' b):SL 2 RT M' w v l:=h.mono A fun _ _ h=>h
theorem SL.monoSl {l:List (List α)} (h:SL 1 (la n R) M w v l) (A:∀b,M b->M' b) (D:∀cs x,R M w cs x->R M' w cs x):SL 1 (la n R) M' w v l:=
 h.mono A fun _ _ ⟨v,e,E⟩=>⟨v,e,E.mono A D⟩
theorem SL.atI {l:List Int} (h:SL 1 RI M w (.slice ao len cap) l) (k:Nat) (D:k<l.length):
 ∃b off,ao=some ⟨b,off,none⟩/\b<w.heap.size/\w.cell? ⟨b,off+k,none⟩=some (.i l[k]):=by
 obtain ⟨b,off,E,e,_,A,_,hc,rfl⟩:=h.at k D;exact ⟨b,off,e,A,by have:=hc 0 (by decide);simpa using this⟩
theorem SL.atO {l:List Nat} (h:SL 1 RO M w (.slice ao len cap) l) (k:Nat) (D:k<l.length):
 ∃b off,ao=some ⟨b,off,none⟩/\b<w.heap.size/\w.cell? ⟨b,off+k,none⟩=some (.i l[k]):=by
 obtain ⟨b,off,E,e,_,A,_,hc,rfl⟩:=h.at k D;exact ⟨b,off,e,A,by have:=hc 0 (by decide);simpa using this⟩
theorem SL.atS {l:List ByteArray} (h:SL 1 RS M w (.slice ao len cap) l) (k:Nat) (D:k<l.length):
 ∃b off,ao=some ⟨b,off,none⟩/\b<w.heap.size/\w.cell? ⟨b,off+k,none⟩=some (.string l[k])/\l[k].size<=maxLen:=by
 obtain ⟨b,off,F,e,_,A,_,hc,rfl,E⟩:=h.at k D;exact ⟨b,off,e,A,(by have:=hc 0 (by decide);simpa using this),E⟩
theorem SL.atT {l:List dc} (h:SL 2 RT M w (.slice ao len cap) l) (k:Nat) (D:k<l.length):
 ∃b off,ao=some ⟨b,off,none⟩/\b<w.heap.size/\w.cell? ⟨b,off+k*2,none⟩=some (.i l[k].dj)/\w.cell? ⟨b,off+k*2+1,none⟩=some (.i l[k].uf):=by
 obtain ⟨b,off,E,e,_,A,_,hc,rfl⟩:=h.at k D;exact ⟨b,off,e,A,hc 0 (by decide),hc 1 (by decide)⟩
theorem SL.atSl {l:List (List α)} (h:SL 1 (la n R) M w (.slice ao len cap) l) (k:Nat) (E:k<l.length):
 ∃b off a c,ao=some ⟨b,off,none⟩/\b<w.heap.size/\w.cell? ⟨b,off+k,none⟩=some (.slice a l[k].length c)/\SL n R M w (.slice a l[k].length c) l[k]:=by
 obtain ⟨b,off,G,e,_,D,_,hc,v,rfl,A⟩:=h.at k E;have F:=A;obtain ⟨a,c,rfl,-⟩:=F;exact ⟨b,off,a,c,e,D,(by have:=hc 0 (by decide);simpa using this),A⟩
theorem Bu {t:ByteArray} (h:s.toList=t.toList):s=t:=za5 (by rwa [ByteArray.toList_eq,ByteArray.toList_eq]at h)
theorem Eo (h:s.toList= []):s=⟨#[]⟩:=Bu (h.trans (by rw [ByteArray.toList_eq]))
theorem Cx (h:s=⟨#[]⟩):s.toList= []:=by rw [h,ByteArray.toList_eq]
theorem Fg:Keyed prog 9:=string_keyed underlying9
theorem xh (w:World):(zeroValue 3).run prog w=.ok (.i 0) w:=by kernel_rfl
def key (s:ByteArray):Lit:=.string s.data.toList
theorem isKey (s:ByteArray):WideAt.IsKeyLit (key s):=trivial
theorem zcc {t:ByteArray} (h:s≠t):key s≠key t:=fun e=>h (za5 (by injection e))
structure De (l:List aq) (D:DataW Unit):Prop where
 has:∀s,Maps.has D (key s)=decide (0<=num l s)
 at_:∀s z,0<=num l s->D.atKey (key s) z=.lit (.i (num l s))
 le:Maps.size D<=l.length
 eq:Maps.size D=l.length↔dy l=true
theorem zcd:De [] (.map []):=⟨fun s=>by rw [zaz];rfl,fun s z h=>by rw [zaz]at h;omega,nlq _,by simp [dy,dp,Maps.size]⟩
theorem zce {l:List aq} {D:DataW Unit} (h:De l D) (E:Tidy D) (c:aq):De (l++ [c]) (D.put (key c.name) (.lit (.i l.length))):=by
 have F:=E.isMap;refine ⟨fun s=>?_,fun s z A=>?_,?_,?_⟩
 ·rw [za0];by_cases e:c.name=s
  ·subst e;rw [has_put_same F (isKey _),if_pos rfl];simp
  rw [has_put_other (zcc (Ne.symm e)),if_neg e,h.has]
 ·rw [za0]at A ⊢;by_cases e:c.name=s
  ·subst e;rw [atKey_put_same F (isKey _),if_pos rfl]
  rw [if_neg e]at A ⊢;rw [atKey_put_other (zcc (Ne.symm e)),h.at_ s z A]
 ·have:=h.le;rw [size_put E,length_append];split<;>simp<;>omega
 have h1:=h.le;have G:=h.eq;have I:=h.has c.name;rw [size_put E,length_append,dy,za7,I];show _↔(dy l&&_)=true;by_cases e:0<=num l c.name
 ·simp [e];omega
 simp [e];exact G
def iy (w:World) (b:Nat) (l:List aq):Prop:=∃D:DataW Unit,w.ownsMap prog 9 (plainElem prog 3) b l.length D/\De l D
theorem iy.lt {b:Nat} {l:List aq} (h:iy w b l):b<w.heap.size:=by obtain ⟨D,h,_⟩:=h;exact h.lt
theorem iy.kept {b:Nat} {l:List aq} (h:iy w b l) {row:Option Nat} (F:w.grownBy w' row) (A:some b≠row):iy w' b l:=by obtain ⟨D,h,E⟩:=h;exact ⟨D,h.kept F A,E⟩
theorem iy.below {b:Nat} {l:List aq} (h:iy w b l) (G:Below B w w') (F:b<B):iy w' b l:=by obtain ⟨D,⟨E,A,e,h⟩,I⟩:=h;exact ⟨D,⟨E,A,(G.block b F).trans e,h⟩,I⟩
structure uh (B:Nat) (w:World) (b:Nat) (l:List aq) (vC vS vF vN vT vL:Value) (Bm:Nat):Prop where
 bB:b<B
 mB:Bm<B
 le:B<=w.heap.size
 blk:w.heap[b]? =some (.cells #[vC,vS,vF,vN,vT,.map (some Bm),vL] 155 (0,0))
 sC:SL 4 RC (· <B) w vC l
 sS:SL 1 RI (· <B) w vS ((range l.length).map (dv l))
 sF:SL 1 (la 3 RF) (· <B) w vF ((range l.length).map (fieldsOf l))
 sN:SL 1 (la 1 RS) (· <B) w vN ((range l.length).map (fg l))
 sT:SL 1 (la 2 RT) (· <B) w vT ((range l.length).map (fd l))
 sL:SL 1 (la 1 RO) (· <B) w vL ((range l.length).map (dt l))
 nm:iy w Bm l
theorem uh.below {b:Nat} {l:List aq} {E J F I L G:Value} {D:Nat} (h:uh B w b l E J F I L G D) (A:Below B w w'):uh B w' b l E J F I L G D:=
 ⟨h.bB,h.mB,lt3 h.le A.size,(A.block b h.bB).trans h.blk,h.sC.keptC (Kp.below A),h.sS.keptI (Kp.below A),h.sF.keptSl (Kp.below A) fun _ _ h=>h,h.sN.keptSl (Kp.below A) fun _ _ h=>h,h.sT.keptSl (Kp.below A) fun _ _ h=>h,h.sL.keptSl (Kp.below A) fun _ _ h=>h,h.nm.below A h.mB⟩
theorem bg {c:Array Value} (h:W.heap[X]? =some (.cells c t (0,0))) (j:Nat) {x:Value} (A:c[j]? =some x):W.cell? ⟨X,j,none⟩=some x:=by simp [cell?,h,A]
theorem pq {c:Array Value} (h:W.heap[X]? =some (.cells c t (0,0))) (j:Nat):W.frozen? ⟨X,j,none⟩=false:=by simp [frozen?,h]
theorem bz {o:Obj} (h:W.heap[X]? =some o):X<W.heap.size:=(Array.getElem?_eq_some_iff.1 h).1
theorem zcg (w:World) (b I:Nat) (l:List aq) (s:ByteArray) (Y:w.cell? ⟨b,5,none⟩=some (.map (some I))) (X:iy w I l) (V:s.size<=maxLen):
 Calls prog 199 #[.p b,.string s] w fun r w'=>r=.returned (.i (num l s))/\w'=w:=by
 obtain ⟨D,E,O⟩:=X;have A:keyOf prog 9 (.string s)=some (key s):=Go.WideMaps.keyOf_string_mk underlying9 V;have N:=aj O;have W:=aj A;clear O A;go_enter func199,ntmps199;go_wp2_with (at_lookup;refine wpList_lookup_own_ok_int _ rfl _ _ 152 rfl 9 3 .i64 Fg underlying152 underlying3 (xh _) I l.length D rfl E _ _ rfl W.o ?_);intro c F Z;clear Z;have J:=aj F;clear F E Y V;rw [N.o.has s];by_cases h:0<=num l s
 ·have G:decide (0<=num l s)=true:=by simp [h]
  have L:Hid (c=num l s):=by have e:=J.o;rw [N.o.at_ s _ h]at e;exact ((Lit.int.inj (DataW.lit.inj e)).2).symm
  rw [G];clear h G;go_wp2
  go_ret;exact ⟨by rw [L.o];rfl,rfl⟩
 have G:decide (0<=num l s)=false:=by simp [h]
 have L:Hid (num l s= -1):=by have:=(Ej l s).1;show num l s= -1;omega
 rw [G];clear h G;go_wp2
 go_ret;exact ⟨by rw [L.o];rfl,rfl⟩
theorem cells5 (h:W.heap[X]? =some (.cells #[a,b,c,d,e] t (0,0))):W.cell? ⟨X,0,none⟩=some a/\W.cell? ⟨X,1,none⟩=some b/\W.cell? ⟨X,2,none⟩=some c/\W.cell? ⟨X,3,none⟩=some d/\W.cell? ⟨X,4,none⟩=some e/\X<W.heap.size:=
 ⟨bg h 0 rfl,bg h 1 rfl,bg h 2 rfl,bg h 3 rfl,bg h 4 rfl,bz h⟩
theorem il (h:W.heap[X]? =some (.cells #[a,b,c,d,e,f,g] t (0,0))):W.cell? ⟨X,0,none⟩=some a/\W.cell? ⟨X,1,none⟩=some b/\W.cell? ⟨X,2,none⟩=some c/\W.cell? ⟨X,3,none⟩=some d/\W.cell? ⟨X,4,none⟩=some e/\W.cell? ⟨X,5,none⟩=some f/\W.cell? ⟨X,6,none⟩=some g/\(∀q,W.frozen? ⟨X,q,none⟩=false)/\X<W.heap.size:=
 ⟨bg h 0 rfl,bg h 1 rfl,bg h 2 rfl,bg h 3 rfl,bg h 4 rfl,bg h 5 rfl,bg h 6 rfl,pq h,bz h⟩
theorem rn {n:Value} (h:W.heap[X]? =some (.cells #[a,b,c,d,e,f,g,i,j,k,l,m,n] t (0,0))):W.cell? ⟨X,0,none⟩=some a/\W.cell? ⟨X,1,none⟩=some b/\W.cell? ⟨X,2,none⟩=some c/\W.cell? ⟨X,3,none⟩=some d/\W.cell? ⟨X,4,none⟩=some e/\W.cell? ⟨X,5,none⟩=some f/\W.cell? ⟨X,6,none⟩=some g/\W.cell? ⟨X,7,none⟩=some i/\W.cell? ⟨X,8,none⟩=some j/\W.cell? ⟨X,9,none⟩=some k/\W.cell? ⟨X,10,none⟩=some l/\W.cell? ⟨X,11,none⟩=some m/\W.cell? ⟨X,12,none⟩=some n/\(∀q,W.frozen? ⟨X,q,none⟩=false)/\X<W.heap.size:=
 ⟨bg h 0 rfl,bg h 1 rfl,bg h 2 rfl,bg h 3 rfl,bg h 4 rfl,bg h 5 rfl,bg h 6 rfl,bg h 7 rfl,bg h 8 rfl,bg h 9 rfl,bg h 10 rfl,bg h 11 rfl,bg h 12 rfl,pq h,bz h⟩
theorem Di {n o p:Value} (h:W.heap[X]? =some (.cells #[a,b,c,d,e,f,g,i,j,k,l,m,n,o,p] t (0,0))):W.cell? ⟨X,0,none⟩=some a/\W.cell? ⟨X,1,none⟩=some b/\W.cell? ⟨X,2,none⟩=some c/\W.cell? ⟨X,3,none⟩=some d/\W.cell? ⟨X,4,none⟩=some e/\W.cell? ⟨X,5,none⟩=some f/\W.cell? ⟨X,6,none⟩=some g/\W.cell? ⟨X,7,none⟩=some i/\W.cell? ⟨X,8,none⟩=some j/\W.cell? ⟨X,9,none⟩=some k/\W.cell? ⟨X,10,none⟩=some l/\W.cell? ⟨X,11,none⟩=some m/\W.cell? ⟨X,12,none⟩=some n/\W.cell? ⟨X,13,none⟩=some o/\W.cell? ⟨X,14,none⟩=some p/\(∀q,W.frozen? ⟨X,q,none⟩=false)/\X<W.heap.size:=
 ⟨bg h 0 rfl,bg h 1 rfl,bg h 2 rfl,bg h 3 rfl,bg h 4 rfl,bg h 5 rfl,bg h 6 rfl,bg h 7 rfl,bg h 8 rfl,bg h 9 rfl,bg h 10 rfl,bg h 11 rfl,bg h 12 rfl,bg h 13 rfl,bg h 14 rfl,pq h,bz h⟩
theorem so (h:∀x v,[a,b,c,d,e,f,g][x]? =some v->p x v):p 0 a/\p 1 b/\p 2 c/\p 3 d/\p 4 e/\p 5 f/\p 6 g:=
 ⟨h 0 _ rfl,h 1 _ rfl,h 2 _ rfl,h 3 _ rfl,h 4 _ rfl,h 5 _ rfl,h 6 _ rfl⟩
theorem Dg (h:∀x v,[a,b,c,d,e,f,g,i][x]? =some v->p x v):p 0 a/\p 1 b/\p 2 c/\p 3 d/\p 4 e/\p 5 f/\p 6 g/\p 7 i:=
 ⟨h 0 _ rfl,h 1 _ rfl,h 2 _ rfl,h 3 _ rfl,h 4 _ rfl,h 5 _ rfl,h 6 _ rfl,h 7 _ rfl⟩
theorem uv {n:Value} (h:∀x v,[a,b,c,d,e,f,g,i,j,k,l,m,n][x]? =some v->p x v):p 0 a/\p 1 b/\p 2 c/\p 3 d/\p 4 e/\p 5 f/\p 6 g/\p 7 i/\p 8 j/\p 9 k/\p 10 l/\p 11 m/\p 12 n:=
 ⟨h 0 _ rfl,h 1 _ rfl,h 2 _ rfl,h 3 _ rfl,h 4 _ rfl,h 5 _ rfl,h 6 _ rfl,h 7 _ rfl,h 8 _ rfl,h 9 _ rfl,h 10 _ rfl,h 11 _ rfl,h 12 _ rfl⟩
theorem D7 {n o q:Value} (h:∀x v,[a,b,c,d,e,f,g,i,j,k,l,m,n,o,q][x]? =some v->p x v):p 0 a/\p 1 b/\p 2 c/\p 3 d/\p 4 e/\p 5 f/\p 6 g/\p 7 i/\p 8 j/\p 9 k/\p 10 l/\p 11 m/\p 12 n/\p 13 o/\p 14 q:=
 ⟨h 0 _ rfl,h 1 _ rfl,h 2 _ rfl,h 3 _ rfl,h 4 _ rfl,h 5 _ rfl,h 6 _ rfl,h 7 _ rfl,h 8 _ rfl,h 9 _ rfl,h 10 _ rfl,h 11 _ rfl,h 12 _ rfl,h 13 _ rfl,h 14 _ rfl⟩
end
variable {α:Type} {R:(Nat->Prop)->World->List Value->α->Prop} {p:α->Bool} {f a b E J e n:Nat} {F:Func} {q0 X q1 q2 q3 q4 q5 q6 q7 q8 q9 ad ae af ah ai ak al am:String} {x0 x1 Y Z x2 x3 x4 x5 x6:Array Edge} (w:World) (B:Nat) (v:Value) (l:List (List ByteArray))
def idx {α:Type} (p:α->Bool) (l:List α):Int:=match l.findIdx? p with | some i=>(i:Int) | none=>-1
theorem Fo {l:List α} {k:Nat} (A:k<l.length) (h:∀x∈l.take k,p x=false) (D:p l[k]=true):idx p l=k:=by
 have:l.findIdx? p=some k:=by rw [findIdx?_eq_some_iff_getElem];refine ⟨A,D,fun j E=>?_⟩;have:=h l[j] (by rw [mem_take_iff_getElem];exact ⟨j,by omega,rfl⟩);simp [this]
 simp [idx,this]
theorem zci {l:List α} (h:∀x∈l,p x=false):idx p l= -1:=by
 have:l.findIdx? p=none:=by rw [findIdx?_eq_none_iff];exact h
 simp [idx,this]
theorem zcj (p:α->Bool) (l:List α):decide (0<=idx p l)=l.any p:=by
 unfold idx;cases h:l.findIdx? p with
 | none=>
   rw [findIdx?_eq_none_iff]at h;have:l.any p=false:=by rw [any_eq_false];intro x E;simp [h x E]
   rw [this];rfl
 | some i=>
   have D:=findIdx?_eq_some_iff_getElem.1 h;obtain ⟨hi,A,_⟩:=D;have:l.any p=true:=any_eq_true.2 ⟨_,gm hi,A⟩;rw [this];simp
theorem zck {l:List α} {k:Nat} (D:k<l.length) (h:∀x∈l.take k,p x=false) (E:p l[k]=false):∀x∈l.take (k+1),p x=false:=by
 intro x A;rw [take_succ_eq_append_getElem D]at A;rcases mem_append.1 A with A | A
 ·exact h x A
 rw [mem_singleton]at A;rw [A,E]
theorem zcl (p:α->Bool) (l:List α):(!l.any fun x=>!p x)=l.all p:=by
 induction l with
 | nil=>rfl
 | cons x l ih=>rw [any_cons,all_cons,<-ih];cases p x<;>simp
theorem lu {A a b:Nat} {F:Func} {V q1 q2 q3 q4 q5:String} {W X Y Z x5 x6:Array Edge} (L:prog.funcs[E]? =some F) (N:F.ntmps=9) (O:F.results=#[.tmp 4]) (D:F.body=some ((Code.region 0 #[⟨some 4,.assign (.const (.bool false)),4,V,W,none⟩] false).seq ((Code.region 1 #[⟨some 5,.move (.tmp 0),a,q1,X,none⟩,⟨some 6,.move (.tmp 1),b,q2,Y,none⟩,⟨some 7,.call { callee:=.value (.func A),args:=#[.tmp 5,.tmp 6],argTypes:=#[a,b] },3,q3,Z,none⟩,⟨some 8,.binOp .geq 3 (.tmp 7) (.const (.i 0)) 3,4,q4,x5,none⟩,⟨some 4,.assign (.tmp 8),4,q5,x6,none⟩] false).seq Code.ret))) (J:∀args w,(callFunc A args).run prog w=.ok (.enter A args) w) (w:World) (ao:Option Addr) (m c:Nat) (g:Nat) (cap:Array Value) (p:α->Bool) (l:List α) (hi:Calls prog A #[.slice ao m c,.func (.func g) #[] cap] w fun r w'=>r=.returned (.i (idx p l))/\Bl w w'):
 Calls prog E #[.slice ao m c,.func (.func g) #[] cap] w fun r w'=>r=.returned (.bool (l.any p))/\Bl w w':=by
 have G:=aj hi;clear hi;have I:=aj (zcj p l);refine calls_of_wp L D ?_;simp only [N,size_toArray,length_cons,length_nil,Nat.reduceAdd,Nat.reduceSub,Array.replicate_succ,Array.replicate_zero,push_toArray,append_toArray,nil_append,cons_append]
 go_wp21
 refine G.o.mono ?_;rintro r w1 ⟨rfl,D⟩
 go_wp21
 refine bodyPost_ret (results_tmp O _ _ _) rfl ?_;exact ⟨by rw [<-I.o];rfl,D⟩
theorem Ee (E:∀V,(underlying a).run prog V=.ok (.slice e) V) (D:∀V,(sizeOf e).run prog V=.ok n V) {b off k len cl:Nat} (A:k<len) (V:World):
 (Instr.indexAt a (.slice (some ⟨b,off,none⟩) len cl) (.i k)).run prog V=.ok (.pointer (some ⟨b,off+k*n,none⟩)) V:=by
 simp [Instr.indexAt,asIntOf,E,D,Sem.run_bind,Addr.add,A]
theorem lenAt (A:∀V,(underlying a).run prog V=.ok (.slice e) V) {ao:Option Addr} {len cl:Nat} (V:World):
 (Builtin.len_ #[a] 3 #[.slice ao len cl]).run prog V=.ok (.i len) V:=by
 simp [Builtin.len_,A,Sem.run_bind,goInt]
def ElG {α:Type} (ag:Bool) (R:(Nat->Prop)->World->List Value->α->Prop) (B:Nat) (W:World) (u:Value) (x:α):Prop:=∃cs,(if ag then u=.agg cs.toArray else cs= [u])/\R (· <B) W cs x
theorem elAt {B:Nat} {ag:Bool} (I:∀V,(underlying a).run prog V=.ok (.slice e) V) (G:∀V,(sizeOf e).run prog V=.ok n V) (h1:ag=false->n=1) {W:World} {ao:Option Addr} {cl:Nat} {l:List α} (h:SL n R (· <B) W (.slice ao l.length cl) l) (k:Nat) (D:k<l.length):
 ∃P u,(∀V,(Instr.indexAt a (.slice ao l.length cl) (.i k)).run prog V=.ok (.pointer (some P)) V)/\(if ag then ∃A,u=.agg A/\(loadCellsFrom P 0 n #[]).run prog W=.ok A W else W.cell? P=some u)/\ElG ag R B W u l[k]:=by
 obtain ⟨b,off,A,rfl,-,-,E,hc,F⟩:=h.at k D;cases ag
 ·obtain rfl:=h1 rfl;match A,E with
  | [u],_=>exact ⟨_,u,Ee I G D,by simpa using hc 0 (by omega),[u],rfl,F⟩
 refine ⟨_,.agg A.toArray,Ee I G D,⟨A.toArray,rfl,?_⟩,A,rfl,F⟩;have:=run_loadCells_list (P:=prog) W ⟨b,off+k*n,none⟩ A (fun j v J=>by rw [Addr.add_mid,hc j (by have:=(List.getElem?_eq_some_iff.1 J).1;omega),J]);rw [E]at this;exact this
theorem rp {x7 x8 x9 an au av aw ay az a0 a1:Array Edge} (hf:prog.funcs[f]? =some F) (hn:F.ntmps=19) (hr:F.results=#[ResultVar.tmp 4]) (Y:F.body=some ((Code.region 0 #[⟨some 4,Op.assign (Operand.const (Value.int IntKind.i64 0)),3,q0,x0,none⟩] false).seq (((Code.region 1 #[⟨some 6,Op.move (Operand.tmp 0),a,q1,x1,none⟩,⟨some 7,Op.call { callee:=Callee.builtin Builtin.len,args:=#[Operand.tmp 6],argTypes:=#[a] },3,q2,x2,none⟩,⟨some 8,Op.move (Operand.const (Value.int IntKind.i64 0)),3,q3,x3,none⟩] false).seq (Code.block 0 ((Code.region 2 #[⟨some 9,Op.binOp BinOp.lss 3 (Operand.tmp 8) (Operand.tmp 7) 3,0,q4,x4,none⟩] false).seq ((Code.cond (Operand.tmp 9) Code.skip (Code.exit 0)).seq ((Code.block 1 ((Code.region 3 #[⟨some 10,Op.move (Operand.tmp 8),3,q5,x5,none⟩,⟨some 5,Op.assign (Operand.tmp 10),3,q6,x6,none⟩] false).seq ((Code.region 4 #[⟨some 11,Op.move (Operand.tmp 1),b,q7,x7,none⟩,⟨some 12,Op.move (Operand.tmp 0),a,q8,x8,none⟩,⟨some 13,Op.move (Operand.tmp 5),3,q9,x9,none⟩,⟨some 14,Op.indexAddr a (Operand.tmp 12) (Operand.tmp 13),0,ad,an,none⟩,⟨some 15,Op.load e (Operand.tmp 14),e,ae,au,none⟩,⟨some 16,Op.call { callee:=Callee.value (Operand.tmp 11),args:=#[Operand.tmp 15],argTypes:=#[e] },4,af,av,none⟩] false).seq (Code.cond (Operand.tmp 16) ((Code.region 5 #[⟨some 17,Op.move (Operand.tmp 5),3,ah,aw,none⟩,⟨some 4,Op.assign (Operand.tmp 17),3,ai,ay,none⟩] false).seq Code.ret) Code.skip)))).seq (Code.region 6 #[⟨some 18,Op.binOp BinOp.add 3 (Operand.tmp 8) (Operand.const (Value.int IntKind.i64 1)) 3,3,ak,az,none⟩,⟨some 8,Op.move (Operand.tmp 18),3,al,a0,none⟩] false)))).loop)).seq ((Code.region 7 #[⟨some 4,Op.assign (Operand.const (Value.int IntKind.i64 (-1))),3,am,a1,none⟩] false).seq Code.ret)))) (El:Nat->World->Value->α->Prop) (w:World) (B:Nat) (ao:Option Addr) (cl:Nat) (l:List α) (Z:l.length<=maxLen) (g:Nat) (cap:Array Value) (p:α->Bool) (a4:∀args w,(callFunc g args).run prog w=.ok (.enter g args) w) (R:(Nat->Prop)->World->List Value->α->Prop) (ag:Bool) (n:Nat) (hu:∀V,(underlying a).run prog V=.ok (.slice e) V) (a3:∀W,(isAgg e).run prog W=.ok ag W) (aa:∀W,(sizeOf e).run prog W=.ok n W) (h1:ag=false->n=1) (N:∀W,Bl w W->SL n R (· <B) W (.slice ao l.length cl) l) (ac:∀ {W u x},ElG ag R B W u x->El B W u x) (hc:∀x∈l,∀u W,Bl w W->El B W u x->Calls prog g (#[u]++cap) W fun r W'=>r=.returned (.bool (p x))/\Bl W W'):
 Calls prog f #[.slice ao l.length cl,.func (.func g) #[] cap] w fun r w'=>r=.returned (.i (idx p l))/\Bl w w':=by
 unfold maxLen at Z;have HC:=aj hc;have HE:=aj (fun k hk W Y=>elAt (ag:=ag) hu aa h1 (N W Y) k hk);have a2:=fun W=>lenAt hu (ao:=ao) (len:=l.length) (cl:=cl) W;clear hc hu N h1;refine calls_of_wp hf Y ?_;simp only [hn,size_toArray,length_cons,length_nil,Nat.reduceAdd,Nat.reduceSub,Array.replicate_succ,Array.replicate_zero,push_toArray,append_toArray,nil_append,cons_append]
 go_wp21
 go_loopw [8] (fun i wr=>∃k:Nat,k<=l.length/\i=.i k/\Hid (∀x∈l.take k,p x=false)/\Bl w wr) (fun i _=>l.length - (intOf i).toNat)
 case atStart=>exact ⟨0,n0q _,rfl,(fun x hx=>by cases hx),br _ _⟩
 case round=>
  obtain ⟨k,hk,rfl,L,D⟩:=hrel;by_cases E:k<l.length
  ·obtain ⟨P,u,h1,X,h3⟩:=HE.o k E _ D;have A:=aj (HC.o l[k] (gm E) _ _ D (ac h3));clear h3;cases ag
   ·replace X:wr.cell? P=some u:=X
    go_wp21
    refine A.o.mono ?_;rintro r w2 ⟨rfl,I⟩;have G:=D.trans (I.mono D.size);clear I A;cases hp:p l[k]
    ·have J:=aj (zck E L.o hp);clear hp
     go_wp21
     go_roundw
     case rel=>exact ⟨k+1,by omega,by go_num,J.o,G⟩
     case measure=>simp [intOf];omega
    have J:=aj (Fo E L.o hp);clear hp
    go_wp21
    refine bodyPost_ret (results_tmp hr _ _ _) rfl ?_;exact ⟨by rw [J.o];rfl,G⟩
   obtain ⟨O,rfl,h4⟩:∃O,u=.agg O/\(loadCellsFrom P 0 n #[]).run prog wr=.ok O wr:=X
   go_wp21
   refine A.o.mono ?_;rintro r w2 ⟨rfl,I⟩;have G:=D.trans (I.mono D.size);clear I A;cases hp:p l[k]
   ·have J:=aj (zck E L.o hp);clear hp
    go_wp21
    go_roundw
    case rel=>exact ⟨k+1,by omega,by go_num,J.o,G⟩
    case measure=>simp [intOf];omega
   have J:=aj (Fo E L.o hp);clear hp
   go_wp21
   refine bodyPost_ret (results_tmp hr _ _ _) rfl ?_;exact ⟨by rw [J.o];rfl,G⟩
  have J:Hid (idx p l= -1):=zci (by have:=L.o;rwa [take_of_length_le (by omega)]at this)
  go_wp21
  refine bodyPost_ret (results_tmp hr _ _ _) rfl ?_;exact ⟨by rw [J.o];rfl,D⟩
theorem vp (L:prog.funcs[f]? =some F) (O:F.ntmps=8) (V:F.results=#[ResultVar.tmp 3]) (D:F.body=some (((Code.region 0 #[⟨some 3,Op.assign (Operand.const (Value.bool false)),4,X,Y,none⟩] false).seq ((Code.region 1 #[⟨some 4,Op.load b (Operand.tmp 1),b,q1,Z,none⟩,⟨some 5,Op.move (Operand.tmp 0),e,q2,x2,none⟩,⟨some 6,Op.call { callee:=Callee.value (Operand.tmp 4),args:=#[Operand.tmp 5],argTypes:=#[e] },4,q3,x3,none⟩,⟨some 7,Op.unOp UnOp.not 4 (Operand.tmp 6),4,q4,x4,none⟩,⟨some 3,Op.assign (Operand.tmp 7),4,q5,x5,none⟩] false).seq Code.ret)))) (N:∀W,(isAgg b).run prog W=.ok false W) (W:World) (P:Nat) (g:Nat) (first cap:Array Value) (u:Value) (G:Bool) (hP:W.cell? ⟨P,0,none⟩=some (.func (.func g) first cap)) (J:∀args w,(callFunc g args).run prog w=.ok (.enter g args) w) (hc:∀A,Bl W A->Calls prog g (first++#[u]++cap) A fun r E=>r=.returned (.bool G)/\Bl A E):
 Calls prog f #[u,.p P] W fun r A=>r=.returned (.bool (!G))/\Bl W A:=by
 have I:=aj hc;clear hc;refine calls_of_wp L D ?_;simp only [O,size_toArray,length_cons,length_nil,Nat.reduceAdd,Nat.reduceSub,Array.replicate_succ,Array.replicate_zero,push_toArray,append_toArray,nil_append,cons_append]
 go_wp21
 refine (I.o _ (br _ _)).mono ?_;rintro r E ⟨rfl,D⟩
 go_wp21
 refine bodyPost_ret (results_tmp V _ _ _) rfl ?_;exact ⟨rfl,D⟩
theorem ud (hf:prog.funcs[f]? =some F) (hn:F.ntmps=8) (hr:F.results=#[ResultVar.tmp 3]) (G:F.body=some (((Code.region 0 #[⟨some 2,Op.box e (Operand.tmp 0),0,q0,x0,none⟩,⟨some 3,Op.assign (Operand.const (Value.bool false)),4,q1,x1,none⟩] false).seq ((Code.region 1 #[⟨some 4,Op.load b (Operand.tmp 1),b,q2,x2,none⟩,⟨some 5,Op.load e (Operand.tmp 2),e,q3,x3,none⟩,⟨some 6,Op.call { callee:=Callee.value (Operand.tmp 4),args:=#[Operand.tmp 5],argTypes:=#[e] },4,q4,x4,none⟩,⟨some 7,Op.unOp UnOp.not 4 (Operand.tmp 6),4,q5,x5,none⟩,⟨some 3,Op.assign (Operand.tmp 7),4,q6,x6,none⟩] false).seq Code.ret)))) (aa:∀W,(isAgg b).run prog W=.ok false W) (n:Nat) (Y:∀W,(isAgg e).run prog W=.ok true W) (ad:∀W,(sizeOf e).run prog W=.ok n W) (W:World) (P:Nat) (g:Nat) (first cap:Array Value) (E:Array Value) (L:E.size=n) (N:Bool) (V:W.cell? ⟨P,0,none⟩=some (.func (.func g) first cap)) (Z:∀args w,(callFunc g args).run prog w=.ok (.enter g args) w) (hc:∀D,Bl W D->Calls prog g (first++#[.agg E]++cap) D fun r I=>r=.returned (.bool N)/\Bl D I):
 Calls prog f #[.agg E,.p P] W fun r D=>r=.returned (.bool (!N))/\Bl W D:=by
 have X:=block_lt_of_cell? W _ V;have ac:=run_loadCellsFrom_new (P:=prog) W e E n L;have O:=aj hc;clear hc;refine calls_of_wp hf G ?_;simp only [hn,size_toArray,length_cons,length_nil,Nat.reduceAdd,Nat.reduceSub,Array.replicate_succ,Array.replicate_zero,push_toArray,append_toArray,nil_append,cons_append]
 go_wp21
 have A:∀o,Bl W (W.alloc o):=fun o=>(br _ _).alloc (nlq _) o;refine (O.o _ (A _)).mono ?_;rintro r I ⟨rfl,G⟩;have J:Bl W I:=(A _).trans (G.mono (by simp));clear G A
 go_wp21
 refine bodyPost_ret (results_tmp hr _ _ _) rfl ?_;exact ⟨rfl,J⟩
theorem ro (X:prog.funcs[f]? =some F) (Z:F.ntmps=9) (hr:F.results=#[ResultVar.tmp 4]) (G:F.body=some (((Code.region 0 #[⟨some 3,Op.box b (Operand.tmp 1),0,q0,x0,none⟩,⟨some 4,Op.assign (Operand.const (Value.bool false)),4,q1,x1,none⟩] false).seq ((Code.region 1 #[⟨some 5,Op.move (Operand.tmp 0),a,q2,x2,none⟩,⟨some 6,Op.makeFunc (Fn.func J) #[] #[Operand.tmp 3],b,q3,x3,none⟩,⟨some 7,Op.call { callee:=Callee.value (Operand.func E),args:=#[Operand.tmp 5,Operand.tmp 6],argTypes:=#[a,b] },4,q4,x4,none⟩,⟨some 8,Op.unOp UnOp.not 4 (Operand.tmp 7),4,q5,x5,none⟩,⟨some 4,Op.assign (Operand.tmp 8),4,q6,x6,none⟩] false).seq Code.ret)))) (V:∀args w,(callFunc E args).run prog w=.ok (.enter E args) w) (w:World) (v:Value) (g:Nat) (first cap:Array Value) (p:α->Bool) (l:List α) (hc:∀W,Bl w W->W.cell? ⟨w.heap.size,0,none⟩=some (.func (.func g) first cap)->Calls prog E #[v,.func (.func J) #[] #[.p w.heap.size]] W fun r O=>r=.returned (.bool (l.any fun x=>!p x))/\Bl W O):
 Calls prog f #[v,.func (.func g) first cap] w fun r w'=>r=.returned (.bool (l.all p))/\Bl w w':=by
 have Y:=ri prog;have N:=aj hc;clear hc;have D:∀o,Bl w (w.alloc o):=fun o=>(br _ _).alloc (nlq _) o;have A:=aj D;clear D;refine calls_of_wp X G ?_;simp only [Z,size_toArray,length_cons,length_nil,Nat.reduceAdd,Nat.reduceSub,Array.replicate_succ,Array.replicate_zero,push_toArray,append_toArray,nil_append,cons_append]
 go_wp21
 refine (N.o _ (A.o _) (by simp [go_sem])).mono ?_;rintro r w1 ⟨rfl,G⟩;have I:Bl w w1:=(A.o _).trans (G.mono (by simp));have L:=aj (zcl p l);clear G
 go_wp21
 refine bodyPost_ret (results_tmp hr _ _ _) rfl ?_;exact ⟨by rw [<-L.o];rfl,I⟩
abbrev Ent (g:Nat):Prop:=∀args w,(callFunc g args).run prog w=.ok (.enter g args) w
abbrev Ask1 {α:Type} (El:Nat->World->Value->α->Prop) (B:Nat) (w:World) (g:Nat) (cap:Array Value) (p:α->Bool) (l:List α):Prop:=∀x∈l,∀u W,Bl w W->El B W u x->Calls prog g (#[u]++cap) W fun r W'=>r=.returned (.bool (p x))/\Bl W W'
abbrev Ask {α:Type} (El:Nat->World->Value->α->Prop) (B:Nat) (w:World) (g:Nat) (first cap:Array Value) (p:α->Bool) (l:List α):Prop:=∀x∈l,∀u W,Bl w W->El B W u x->Calls prog g (first++#[u]++cap) W fun r W'=>r=.returned (.bool (p x))/\Bl W W'
def B8 (B:Nat) (w:World) (u:Value) (x:aq):Prop:=∃fo cf mo cm,u=.agg #[.string x.name,.string x.b9,.slice fo x.fields.length cf,.slice mo x.bd.length cm]/\SL 3 RF (· <B) w (.slice fo x.fields.length cf) x.fields/\SL 9 RM (· <B) w (.slice mo x.bd.length cm) x.bd/\x.name.size<=maxLen/\x.b9.size<=maxLen
theorem B8.below {B:Nat} {w w':World} {u:Value} {x:aq} (h:B8 B w u x) (E:Below B w w'):B8 B w' u x:=by obtain ⟨L,F,mo,G,rfl,I,J,A,D⟩:=h;exact ⟨L,F,mo,G,rfl,I.keptF (Kp.below E),J.keptM (Kp.below E),A,D⟩
theorem zcm (l:List (aq)) (E:SL 4 RC (· <B) w v l) (N:B<=w.heap.size) (g:Nat) (cap:Array Value) (p:aq->Bool) (A:Ent g) (hc:Ask1 B8 B w g cap p l):
 Calls prog 318 #[v,.func (.func g) #[] cap] w fun r w'=>r=.returned (.i (idx p l))/\Bl w w':=by
 have F:=E;obtain ⟨ao,cl,rfl,-,D,-⟩:=E;refine rp func318 rfl rfl rfl B8 w B ao cl l D g cap p A RC true 4 (fun _=>by kernel_rfl) (fun _=>by kernel_rfl) (fun _=>by kernel_rfl) nofun (fun W O=>F.keptC (Kp.below (O.mono N))) ?_ hc;rintro W u x ⟨Y,e,Z,vm,rfl,⟨L,G,rfl,V⟩,⟨mo,I,rfl,X⟩,J⟩;exact ⟨L,G,mo,I,e,⟨_,_,rfl,V⟩,⟨_,_,rfl,X⟩,J⟩
theorem zcn (l:List (aq)) (D:SL 4 RC (· <B) w v l) (E:B<=w.heap.size) (g:Nat) (cap:Array Value) (p:aq->Bool) (A:Ent g) (hc:Ask1 B8 B w g cap p l):
 Calls prog 286 #[v,.func (.func g) #[] cap] w fun r w'=>r=.returned (.bool (l.any p))/\Bl w w':=by
 have h:=zcm w B v l D E g cap p A hc;obtain ⟨ao,cl,rfl,-⟩:=D;exact lu func286 rfl rfl rfl (fun _ _=>by kernel_rfl) w ao _ cl g cap p l h
theorem zco (l:List (aq)) (X:SL 4 RC (· <B) w v l) (G:B<=w.heap.size) (g:Nat) (first cap:Array Value) (p:aq->Bool) (J:Ent g) (hc:Ask B8 B w g first cap p l):
 Calls prog 236 #[v,.func (.func g) first cap] w fun r w'=>r=.returned (.bool (l.all p))/\Bl w w':=by
 refine ro func236 rfl rfl rfl (fun _ _=>by kernel_rfl) w v g first cap p l fun W F L=>?_
 refine zcn W B v l (X.keptC (Kp.below (F.mono G))) (lt3 G F.size) 287 _ (fun x=>!p x) (fun _ _=>by kernel_rfl) fun x Y u V D N=>?_;have I:=F.trans (D.mono F.size);obtain ⟨E,rfl,Z⟩:∃E,u=.agg E/\E.size=4:=by obtain ⟨_,_,_,_,rfl,-⟩:=N;exact ⟨_,rfl,rfl⟩
 exact ud func287 rfl rfl rfl (fun _=>by kernel_rfl) 4 (fun _=>by kernel_rfl) (fun _=>by kernel_rfl) V w.heap.size g first cap E Z (p x) ((D.cell (block_lt_of_cell? W _ L)).trans L) J fun O A=>hc x Y _ O (I.trans (A.mono I.size)) (N.below (A.mono (lt3 G I.size)))
def Bz (_:Nat) (_:World) (u:Value) (x:bv):Prop:=u=.agg #[.string x.name,.i x.kind.kind,.string x.kind.dj]/\x.name.size<=maxLen/\x.kind.dj.size<=maxLen
theorem Bz.below {B:Nat} {w w':World} {u:Value} {x:bv} (h:Bz B w u x) (_:Below B w w'):Bz B w' u x:=by obtain ⟨rfl,A,D⟩:=h;exact ⟨rfl,A,D⟩
theorem zcp (l:List (bv)) (E:SL 3 RF (· <B) w v l) (I:B<=w.heap.size) (g:Nat) (cap:Array Value) (p:bv->Bool) (A:Ent g) (hc:Ask1 Bz B w g cap p l):
 Calls prog 320 #[v,.func (.func g) #[] cap] w fun r w'=>r=.returned (.i (idx p l))/\Bl w w':=by
 have F:=E;obtain ⟨ao,cl,rfl,-,D,-⟩:=E;refine rp func320 rfl rfl rfl Bz w B ao cl l D g cap p A RF true 3 (fun _=>by kernel_rfl) (fun _=>by kernel_rfl) (fun _=>by kernel_rfl) nofun (fun W J=>F.keptF (Kp.below (J.mono I))) ?_ hc;rintro W u x ⟨L,e,rfl,G⟩;exact ⟨e,G⟩
theorem zcq (l:List (bv)) (D:SL 3 RF (· <B) w v l) (E:B<=w.heap.size) (g:Nat) (cap:Array Value) (p:bv->Bool) (A:Ent g) (hc:Ask1 Bz B w g cap p l):
 Calls prog 290 #[v,.func (.func g) #[] cap] w fun r w'=>r=.returned (.bool (l.any p))/\Bl w w':=by
 have h:=zcp w B v l D E g cap p A hc;obtain ⟨ao,cl,rfl,-⟩:=D;exact lu func290 rfl rfl rfl (fun _ _=>by kernel_rfl) w ao _ cl g cap p l h
theorem zcr (l:List (bv)) (X:SL 3 RF (· <B) w v l) (G:B<=w.heap.size) (g:Nat) (first cap:Array Value) (p:bv->Bool) (J:Ent g) (hc:Ask Bz B w g first cap p l):
 Calls prog 242 #[v,.func (.func g) first cap] w fun r w'=>r=.returned (.bool (l.all p))/\Bl w w':=by
 refine ro func242 rfl rfl rfl (fun _ _=>by kernel_rfl) w v g first cap p l fun W F L=>?_
 refine zcq W B v l (X.keptF (Kp.below (F.mono G))) (lt3 G F.size) 291 _ (fun x=>!p x) (fun _ _=>by kernel_rfl) fun x Y u V D N=>?_;have I:=F.trans (D.mono F.size);obtain ⟨E,rfl,Z⟩:∃E,u=.agg E/\E.size=3:=by obtain ⟨rfl,-⟩:=N;exact ⟨_,rfl,rfl⟩
 exact ud func291 rfl rfl rfl (fun _=>by kernel_rfl) 3 (fun _=>by kernel_rfl) (fun _=>by kernel_rfl) V w.heap.size g first cap E Z (p x) ((D.cell (block_lt_of_cell? W _ L)).trans L) J fun O A=>hc x Y _ O (I.trans (A.mono I.size)) (N.below (A.mono (lt3 G I.size)))
def E4 (_:Nat) (_:World) (u:Value) (x:fw):Prop:=u=.agg #[.i x.kind,.string x.dj]/\x.dj.size<=maxLen
theorem E4.below {B:Nat} {w w':World} {u:Value} {x:fw} (h:E4 B w u x) (_:Below B w w'):E4 B w' u x:=by obtain ⟨rfl,A⟩:=h;exact ⟨rfl,A⟩
theorem zcs (l:List (fw)) (E:SL 2 RK (· <B) w v l) (I:B<=w.heap.size) (g:Nat) (cap:Array Value) (p:fw->Bool) (A:Ent g) (hc:Ask1 E4 B w g cap p l):
 Calls prog 330 #[v,.func (.func g) #[] cap] w fun r w'=>r=.returned (.i (idx p l))/\Bl w w':=by
 have F:=E;obtain ⟨ao,cl,rfl,-,D,-⟩:=E;refine rp func330 rfl rfl rfl E4 w B ao cl l D g cap p A RK true 2 (fun _=>by kernel_rfl) (fun _=>by kernel_rfl) (fun _=>by kernel_rfl) nofun (fun W J=>F.keptK (Kp.below (J.mono I))) ?_ hc;rintro W u x ⟨L,e,rfl,G⟩;exact ⟨e,G⟩
theorem zct (l:List (fw)) (D:SL 2 RK (· <B) w v l) (E:B<=w.heap.size) (g:Nat) (cap:Array Value) (p:fw->Bool) (A:Ent g) (hc:Ask1 E4 B w g cap p l):
 Calls prog 321 #[v,.func (.func g) #[] cap] w fun r w'=>r=.returned (.bool (l.any p))/\Bl w w':=by
 have h:=zcs w B v l D E g cap p A hc;obtain ⟨ao,cl,rfl,-⟩:=D;exact lu func321 rfl rfl rfl (fun _ _=>by kernel_rfl) w ao _ cl g cap p l h
theorem zcu (l:List (fw)) (X:SL 2 RK (· <B) w v l) (G:B<=w.heap.size) (g:Nat) (first cap:Array Value) (p:fw->Bool) (J:Ent g) (hc:Ask E4 B w g first cap p l):
 Calls prog 292 #[v,.func (.func g) first cap] w fun r w'=>r=.returned (.bool (l.all p))/\Bl w w':=by
 refine ro func292 rfl rfl rfl (fun _ _=>by kernel_rfl) w v g first cap p l fun W F L=>?_
 refine zct W B v l (X.keptK (Kp.below (F.mono G))) (lt3 G F.size) 322 _ (fun x=>!p x) (fun _ _=>by kernel_rfl) fun x Y u V D N=>?_;have I:=F.trans (D.mono F.size);obtain ⟨E,rfl,Z⟩:∃E,u=.agg E/\E.size=2:=by obtain ⟨rfl,-⟩:=N;exact ⟨_,rfl,rfl⟩
 exact ud func322 rfl rfl rfl (fun _=>by kernel_rfl) 2 (fun _=>by kernel_rfl) (fun _=>by kernel_rfl) V w.heap.size g first cap E Z (p x) ((D.cell (block_lt_of_cell? W _ L)).trans L) J fun O A=>hc x Y _ O (I.trans (A.mono I.size)) (N.below (A.mono (lt3 G I.size)))
def D3 (_:Nat) (_:World) (u:Value) (x:jg):Prop:=u=.agg #[.i x.zp,.i x.upto,.i x.loc,.string x.dj]/\x.dj.size<=maxLen
theorem D3.below {B:Nat} {w w':World} {u:Value} {x:jg} (h:D3 B w u x) (_:Below B w w'):D3 B w' u x:=by obtain ⟨rfl,A⟩:=h;exact ⟨rfl,A⟩
theorem zcv (l:List (jg)) (E:SL 4 RH (· <B) w v l) (I:B<=w.heap.size) (g:Nat) (cap:Array Value) (p:jg->Bool) (A:Ent g) (hc:Ask1 D3 B w g cap p l):
 Calls prog 331 #[v,.func (.func g) #[] cap] w fun r w'=>r=.returned (.i (idx p l))/\Bl w w':=by
 have F:=E;obtain ⟨ao,cl,rfl,-,D,-⟩:=E;refine rp func331 rfl rfl rfl D3 w B ao cl l D g cap p A RH true 4 (fun _=>by kernel_rfl) (fun _=>by kernel_rfl) (fun _=>by kernel_rfl) nofun (fun W J=>F.keptH (Kp.below (J.mono I))) ?_ hc;rintro W u x ⟨L,e,rfl,G⟩;exact ⟨e,G⟩
theorem zcw (l:List (jg)) (D:SL 4 RH (· <B) w v l) (E:B<=w.heap.size) (g:Nat) (cap:Array Value) (p:jg->Bool) (A:Ent g) (hc:Ask1 D3 B w g cap p l):
 Calls prog 324 #[v,.func (.func g) #[] cap] w fun r w'=>r=.returned (.bool (l.any p))/\Bl w w':=by
 have h:=zcv w B v l D E g cap p A hc;obtain ⟨ao,cl,rfl,-⟩:=D;exact lu func324 rfl rfl rfl (fun _ _=>by kernel_rfl) w ao _ cl g cap p l h
theorem zcx (l:List (jg)) (X:SL 4 RH (· <B) w v l) (G:B<=w.heap.size) (g:Nat) (first cap:Array Value) (p:jg->Bool) (J:Ent g) (hc:Ask D3 B w g first cap p l):
 Calls prog 296 #[v,.func (.func g) first cap] w fun r w'=>r=.returned (.bool (l.all p))/\Bl w w':=by
 refine ro func296 rfl rfl rfl (fun _ _=>by kernel_rfl) w v g first cap p l fun W F L=>?_
 refine zcw W B v l (X.keptH (Kp.below (F.mono G))) (lt3 G F.size) 325 _ (fun x=>!p x) (fun _ _=>by kernel_rfl) fun x Y u V D N=>?_;have I:=F.trans (D.mono F.size);obtain ⟨E,rfl,Z⟩:∃E,u=.agg E/\E.size=4:=by obtain ⟨rfl,-⟩:=N;exact ⟨_,rfl,rfl⟩
 exact ud func325 rfl rfl rfl (fun _=>by kernel_rfl) 4 (fun _=>by kernel_rfl) (fun _=>by kernel_rfl) V w.heap.size g first cap E Z (p x) ((D.cell (block_lt_of_cell? W _ L)).trans L) J fun O A=>hc x Y _ O (I.trans (A.mono I.size)) (N.below (A.mono (lt3 G I.size)))
def Av (B:Nat) (w:World) (u:Value) (x:ew):Prop:=∃ao ca ho ch,u=.agg #[.string x.name,.bool x.static,.slice ao x.args.length ca,.i x.ret.kind,.string x.ret.dj,.i x.stack,.i x.locals,.string x.code,.slice ho x.hands.length ch]/\SL 2 RK (· <B) w (.slice ao x.args.length ca) x.args/\SL 4 RH (· <B) w (.slice ho x.hands.length ch) x.hands/\x.name.size<=maxLen/\x.ret.dj.size<=maxLen/\x.code.size<=maxLen
theorem Av.below {B:Nat} {w w':World} {u:Value} {x:ew} (h:Av B w u x) (F:Below B w w'):Av B w' u x:=by obtain ⟨ao,G,N,I,rfl,J,L,A,D,E⟩:=h;exact ⟨ao,G,N,I,rfl,J.keptK (Kp.below F),L.keptH (Kp.below F),A,D,E⟩
theorem zcy (l:List (ew)) (E:SL 9 RM (· <B) w v l) (N:B<=w.heap.size) (g:Nat) (cap:Array Value) (p:ew->Bool) (A:Ent g) (hc:Ask1 Av B w g cap p l):
 Calls prog 323 #[v,.func (.func g) #[] cap] w fun r w'=>r=.returned (.i (idx p l))/\Bl w w':=by
 have F:=E;obtain ⟨ao,cl,rfl,-,D,-⟩:=E;refine rp func323 rfl rfl rfl Av w B ao cl l D g cap p A RM true 9 (fun _=>by kernel_rfl) (fun _=>by kernel_rfl) (fun _=>by kernel_rfl) nofun (fun W O=>F.keptM (Kp.below (O.mono N))) ?_ hc;rintro W u x ⟨Y,e,Z,vh,rfl,⟨L,G,rfl,V⟩,⟨mo,I,rfl,X⟩,J⟩;exact ⟨L,G,mo,I,e,⟨_,_,rfl,V⟩,⟨_,_,rfl,X⟩,J⟩
theorem zcz (l:List (ew)) (D:SL 9 RM (· <B) w v l) (E:B<=w.heap.size) (g:Nat) (cap:Array Value) (p:ew->Bool) (A:Ent g) (hc:Ask1 Av B w g cap p l):
 Calls prog 294 #[v,.func (.func g) #[] cap] w fun r w'=>r=.returned (.bool (l.any p))/\Bl w w':=by
 have h:=zcy w B v l D E g cap p A hc;obtain ⟨ao,cl,rfl,-⟩:=D;exact lu func294 rfl rfl rfl (fun _ _=>by kernel_rfl) w ao _ cl g cap p l h
theorem zc0 (l:List (ew)) (X:SL 9 RM (· <B) w v l) (G:B<=w.heap.size) (g:Nat) (first cap:Array Value) (p:ew->Bool) (J:Ent g) (hc:Ask Av B w g first cap p l):
 Calls prog 245 #[v,.func (.func g) first cap] w fun r w'=>r=.returned (.bool (l.all p))/\Bl w w':=by
 refine ro func245 rfl rfl rfl (fun _ _=>by kernel_rfl) w v g first cap p l fun W F L=>?_
 refine zcz W B v l (X.keptM (Kp.below (F.mono G))) (lt3 G F.size) 295 _ (fun x=>!p x) (fun _ _=>by kernel_rfl) fun x Y u V D N=>?_;have I:=F.trans (D.mono F.size);obtain ⟨E,rfl,Z⟩:∃E,u=.agg E/\E.size=9:=by obtain ⟨_,_,_,_,rfl,-⟩:=N;exact ⟨_,rfl,rfl⟩
 exact ud func295 rfl rfl rfl (fun _=>by kernel_rfl) 9 (fun _=>by kernel_rfl) (fun _=>by kernel_rfl) V w.heap.size g first cap E Z (p x) ((D.cell (block_lt_of_cell? W _ L)).trans L) J fun O A=>hc x Y _ O (I.trans (A.mono I.size)) (N.below (A.mono (lt3 G I.size)))
def E5 (_:Nat) (_:World) (u:Value) (x:ByteArray):Prop:=u=.string x/\x.size<=maxLen
theorem E5.below {B:Nat} {w w':World} {u:Value} {x:ByteArray} (h:E5 B w u x) (_:Below B w w'):E5 B w' u x:=by obtain ⟨rfl,A⟩:=h;exact ⟨rfl,A⟩
theorem zc1 (l:List (ByteArray)) (E:SL 1 RS (· <B) w v l) (I:B<=w.heap.size) (g:Nat) (cap:Array Value) (p:ByteArray->Bool) (A:Ent g) (hc:Ask1 E5 B w g cap p l):
 Calls prog 329 #[v,.func (.func g) #[] cap] w fun r w'=>r=.returned (.i (idx p l))/\Bl w w':=by
 have F:=E;obtain ⟨ao,cl,rfl,-,D,-⟩:=E;refine rp func329 rfl rfl rfl E5 w B ao cl l D g cap p A RS false 1 (fun _=>by kernel_rfl) (fun _=>by kernel_rfl) (fun _=>by kernel_rfl) (fun _=>rfl) (fun W J=>F.keptS (Kp.below (J.mono I))) ?_ hc;rintro W u x ⟨L,e,rfl,G⟩;exact ⟨(head_eq_of_cons_eq e).symm,G⟩
theorem zc2 (l:List (ByteArray)) (D:SL 1 RS (· <B) w v l) (E:B<=w.heap.size) (g:Nat) (cap:Array Value) (p:ByteArray->Bool) (A:Ent g) (hc:Ask1 E5 B w g cap p l):
 Calls prog 316 #[v,.func (.func g) #[] cap] w fun r w'=>r=.returned (.bool (l.any p))/\Bl w w':=by
 have h:=zc1 w B v l D E g cap p A hc;obtain ⟨ao,cl,rfl,-⟩:=D;exact lu func316 rfl rfl rfl (fun _ _=>by kernel_rfl) w ao _ cl g cap p l h
theorem zc3 (l:List (ByteArray)) (V:SL 1 RS (· <B) w v l) (F:B<=w.heap.size) (g:Nat) (first cap:Array Value) (p:ByteArray->Bool) (I:Ent g) (hc:Ask E5 B w g first cap p l):
 Calls prog 284 #[v,.func (.func g) first cap] w fun r w'=>r=.returned (.bool (l.all p))/\Bl w w':=by
 refine ro func284 rfl rfl rfl (fun _ _=>by kernel_rfl) w v g first cap p l fun W E J=>?_
 refine zc2 W B v l (V.keptS (Kp.below (E.mono F))) (lt3 F E.size) 317 _ (fun x=>!p x) (fun _ _=>by kernel_rfl) fun x X u N D O=>?_;have G:=E.trans (D.mono E.size);exact vp func317 rfl rfl rfl (fun _=>by kernel_rfl) N w.heap.size g first cap u (p x) ((D.cell (block_lt_of_cell? W _ J)).trans J) I fun L A=>hc x X _ L (G.trans (A.mono G.size)) (O.below (A.mono (lt3 F G.size)))
def zh (B:Nat) (w:World) (u:Value) (x:List Nat):Prop:=∃ao ca,u=.slice ao x.length ca/\SL 1 RO (· <B) w (.slice ao x.length ca) x
theorem zh.below {B:Nat} {w w':World} {u:Value} {x:List Nat} (h:zh B w u x) (E:Below B w w'):zh B w' u x:=by obtain ⟨ao,A,rfl,D⟩:=h;exact ⟨ao,A,rfl,D.keptO (Kp.below E)⟩
theorem zc4 (l:List (List Nat)) (E:SL 1 (la 1 RO) (· <B) w v l) (I:B<=w.heap.size) (g:Nat) (cap:Array Value) (p:List Nat->Bool) (A:Ent g) (hc:Ask1 zh B w g cap p l):
 Calls prog 319 #[v,.func (.func g) #[] cap] w fun r w'=>r=.returned (.i (idx p l))/\Bl w w':=by
 have F:=E;obtain ⟨ao,cl,rfl,-,D,-⟩:=E;refine rp func319 rfl rfl rfl zh w B ao cl l D g cap p A (la 1 RO) false 1 (fun _=>by kernel_rfl) (fun _=>by kernel_rfl) (fun _=>by kernel_rfl) (fun _=>rfl) (fun W J=>F.keptSl (Kp.below (J.mono I)) fun _ _ h=>h) ?_ hc;rintro W u x ⟨L,e,v,rfl,ao,G,rfl,h⟩;exact ⟨ao,G,(head_eq_of_cons_eq e).symm,_,_,rfl,h⟩
theorem zc5 (l:List (List Nat)) (D:SL 1 (la 1 RO) (· <B) w v l) (E:B<=w.heap.size) (g:Nat) (cap:Array Value) (p:List Nat->Bool) (A:Ent g) (hc:Ask1 zh B w g cap p l):
 Calls prog 288 #[v,.func (.func g) #[] cap] w fun r w'=>r=.returned (.bool (l.any p))/\Bl w w':=by
 have h:=zc4 w B v l D E g cap p A hc;obtain ⟨ao,cl,rfl,-⟩:=D;exact lu func288 rfl rfl rfl (fun _ _=>by kernel_rfl) w ao _ cl g cap p l h
theorem zc6 (l:List (List Nat)) (V:SL 1 (la 1 RO) (· <B) w v l) (F:B<=w.heap.size) (g:Nat) (first cap:Array Value) (p:List Nat->Bool) (I:Ent g) (hc:Ask zh B w g first cap p l):
 Calls prog 239 #[v,.func (.func g) first cap] w fun r w'=>r=.returned (.bool (l.all p))/\Bl w w':=by
 refine ro func239 rfl rfl rfl (fun _ _=>by kernel_rfl) w v g first cap p l fun W E J=>?_
 refine zc5 W B v l (V.keptSl (Kp.below (E.mono F)) fun _ _ h=>h) (lt3 F E.size) 289 _ (fun x=>!p x) (fun _ _=>by kernel_rfl) fun x X u N D O=>?_;have G:=E.trans (D.mono E.size);exact vp func289 rfl rfl rfl (fun _=>by kernel_rfl) N w.heap.size g first cap u (p x) ((D.cell (block_lt_of_cell? W _ J)).trans J) I fun L A=>hc x X _ L (G.trans (A.mono G.size)) (O.below (A.mono (lt3 F G.size)))
def yd (B:Nat) (w:World) (u:Value) (x:List bv):Prop:=∃ao ca,u=.slice ao x.length ca/\SL 3 RF (· <B) w (.slice ao x.length ca) x
theorem yd.below {B:Nat} {w w':World} {u:Value} {x:List bv} (h:yd B w u x) (E:Below B w w'):yd B w' u x:=by obtain ⟨ao,A,rfl,D⟩:=h;exact ⟨ao,A,rfl,D.keptF (Kp.below E)⟩
theorem zc7 (l:List (List bv)) (E:SL 1 (la 3 RF) (· <B) w v l) (I:B<=w.heap.size) (g:Nat) (cap:Array Value) (p:List bv->Bool) (A:Ent g) (hc:Ask1 yd B w g cap p l):
 Calls prog 326 #[v,.func (.func g) #[] cap] w fun r w'=>r=.returned (.i (idx p l))/\Bl w w':=by
 have F:=E;obtain ⟨ao,cl,rfl,-,D,-⟩:=E;refine rp func326 rfl rfl rfl yd w B ao cl l D g cap p A (la 3 RF) false 1 (fun _=>by kernel_rfl) (fun _=>by kernel_rfl) (fun _=>by kernel_rfl) (fun _=>rfl) (fun W J=>F.keptSl (Kp.below (J.mono I)) fun _ _ h=>h) ?_ hc;rintro W u x ⟨L,e,v,rfl,ao,G,rfl,h⟩;exact ⟨ao,G,(head_eq_of_cons_eq e).symm,_,_,rfl,h⟩
theorem zc8 (l:List (List bv)) (D:SL 1 (la 3 RF) (· <B) w v l) (E:B<=w.heap.size) (g:Nat) (cap:Array Value) (p:List bv->Bool) (A:Ent g) (hc:Ask1 yd B w g cap p l):
 Calls prog 298 #[v,.func (.func g) #[] cap] w fun r w'=>r=.returned (.bool (l.any p))/\Bl w w':=by
 have h:=zc7 w B v l D E g cap p A hc;obtain ⟨ao,cl,rfl,-⟩:=D;exact lu func298 rfl rfl rfl (fun _ _=>by kernel_rfl) w ao _ cl g cap p l h
theorem zc9 (l:List (List bv)) (V:SL 1 (la 3 RF) (· <B) w v l) (F:B<=w.heap.size) (g:Nat) (first cap:Array Value) (p:List bv->Bool) (I:Ent g) (hc:Ask yd B w g first cap p l):
 Calls prog 247 #[v,.func (.func g) first cap] w fun r w'=>r=.returned (.bool (l.all p))/\Bl w w':=by
 refine ro func247 rfl rfl rfl (fun _ _=>by kernel_rfl) w v g first cap p l fun W E J=>?_
 refine zc8 W B v l (V.keptSl (Kp.below (E.mono F)) fun _ _ h=>h) (lt3 F E.size) 299 _ (fun x=>!p x) (fun _ _=>by kernel_rfl) fun x X u N D O=>?_;have G:=E.trans (D.mono E.size);exact vp func299 rfl rfl rfl (fun _=>by kernel_rfl) N w.heap.size g first cap u (p x) ((D.cell (block_lt_of_cell? W _ J)).trans J) I fun L A=>hc x X _ L (G.trans (A.mono G.size)) (O.below (A.mono (lt3 F G.size)))
def zi (B:Nat) (w:World) (u:Value) (x:List ByteArray):Prop:=∃ao ca,u=.slice ao x.length ca/\SL 1 RS (· <B) w (.slice ao x.length ca) x
theorem zi.below {B:Nat} {w w':World} {u:Value} {x:List ByteArray} (h:zi B w u x) (E:Below B w w'):zi B w' u x:=by obtain ⟨ao,A,rfl,D⟩:=h;exact ⟨ao,A,rfl,D.keptS (Kp.below E)⟩
theorem zda (E:SL 1 (la 1 RS) (· <B) w v l) (I:B<=w.heap.size) (g:Nat) (cap:Array Value) (p:List ByteArray->Bool) (A:Ent g) (hc:Ask1 zi B w g cap p l):
 Calls prog 327 #[v,.func (.func g) #[] cap] w fun r w'=>r=.returned (.i (idx p l))/\Bl w w':=by
 have F:=E;obtain ⟨ao,cl,rfl,-,D,-⟩:=E;refine rp func327 rfl rfl rfl zi w B ao cl l D g cap p A (la 1 RS) false 1 (fun _=>by kernel_rfl) (fun _=>by kernel_rfl) (fun _=>by kernel_rfl) (fun _=>rfl) (fun W J=>F.keptSl (Kp.below (J.mono I)) fun _ _ h=>h) ?_ hc;rintro W u x ⟨L,e,v,rfl,ao,G,rfl,h⟩;exact ⟨ao,G,(head_eq_of_cons_eq e).symm,_,_,rfl,h⟩
theorem zdb (D:SL 1 (la 1 RS) (· <B) w v l) (E:B<=w.heap.size) (g:Nat) (cap:Array Value) (p:List ByteArray->Bool) (A:Ent g) (hc:Ask1 zi B w g cap p l):
 Calls prog 303 #[v,.func (.func g) #[] cap] w fun r w'=>r=.returned (.bool (l.any p))/\Bl w w':=by
 have h:=zda w B v l D E g cap p A hc;obtain ⟨ao,cl,rfl,-⟩:=D;exact lu func303 rfl rfl rfl (fun _ _=>by kernel_rfl) w ao _ cl g cap p l h
theorem zdc (V:SL 1 (la 1 RS) (· <B) w v l) (F:B<=w.heap.size) (g:Nat) (first cap:Array Value) (p:List ByteArray->Bool) (I:Ent g) (hc:Ask zi B w g first cap p l):
 Calls prog 257 #[v,.func (.func g) first cap] w fun r w'=>r=.returned (.bool (l.all p))/\Bl w w':=by
 refine ro func257 rfl rfl rfl (fun _ _=>by kernel_rfl) w v g first cap p l fun W E J=>?_
 refine zdb W B v l (V.keptSl (Kp.below (E.mono F)) fun _ _ h=>h) (lt3 F E.size) 304 _ (fun x=>!p x) (fun _ _=>by kernel_rfl) fun x X u N D O=>?_;have G:=E.trans (D.mono E.size);exact vp func304 rfl rfl rfl (fun _=>by kernel_rfl) N w.heap.size g first cap u (p x) ((D.cell (block_lt_of_cell? W _ J)).trans J) I fun L A=>hc x X _ L (G.trans (A.mono G.size)) (O.below (A.mono (lt3 F G.size)))
end Go.Proofs.YtjdnmblggdobgaaGreat
