import Derived.Test.YtjdnmblggdobgaaGreatJPlainFine
import Derived.Test.YtjdnmblggdobgaaGreatJChkClassCatch
import Derived.Maps.Own
import Derived.Maps.OwnOps
import Derived.Maps.OwnSet
import Derived.Maps.Views
import Derived.StringKeys
import Derived.Test.YtjdnmblggdobgaaGreatJTk2Dies
set_option maxHeartbeats 1000000
namespace Go.Proofs.YtjdnmblggdobgaaGreat
open Go.RowKit Go.Maps
def RI (_:Nat->Prop) (_:World) (cs:List Value) (n:Int):Prop:=cs= [.int .i64 n]
def RO (_:Nat->Prop) (_:World) (cs:List Value) (n:Nat):Prop:=cs= [.int .i64 n]
def RS (_:Nat->Prop) (_:World) (cs:List Value) (s:ByteArray):Prop:=cs= [.string s]/\s.size<=maxLen
def RT (_:Nat->Prop) (_:World) (cs:List Value) (t:cd):Prop:=cs= [.int .i64 t.da,.int .i64 t.meth]
def jv {α:Type} (n:Nat) (R:(Nat->Prop)->World->List Value->α->Prop) (M:Nat->Prop) (w:World) (cs:List Value) (x:List α):Prop:=∃v,cs= [v]/\SL n R M w v x
theorem SL.keptI {M:Nat->Prop} {w w':World} {v:Value} {l:List Int} (h:SL 1 RI M w v l) (u:Kp M w w'):SL 1 RI M w' v l:=h.kept u fun _ _ h=>h
theorem SL.keptO {M:Nat->Prop} {w w':World} {v:Value} {l:List Nat} (h:SL 1 RO M w v l) (u:Kp M w w'):SL 1 RO M w' v l:=h.kept u fun _ _ h=>h
theorem SL.keptS {M:Nat->Prop} {w w':World} {v:Value} {l:List ByteArray} (h:SL 1 RS M w v l) (u:Kp M w w'):SL 1 RS M w' v l:=h.kept u fun _ _ h=>h
theorem SL.keptT {M:Nat->Prop} {w w':World} {v:Value} {l:List cd} (h:SL 2 RT M w v l) (u:Kp M w w'):SL 2 RT M w' v l:=h.kept u fun _ _ h=>h
theorem SL.keptSl {α:Type} {n:Nat} {R:(Nat->Prop)->World->List Value->α->Prop} {M:Nat->Prop} {w w':World} {v:Value} {l:List (List α)} (h:SL 1 (jv n R) M w v l) (u:Kp M w w') (A:∀cs x,R M w cs x->R M w' cs x):SL 1 (jv n R) M w' v l:=
 h.kept u fun _ _ ⟨v,e,D⟩=>⟨v,e,D.kept u A⟩
theorem SL.monoI {M M':Nat->Prop} {w:World} {v:Value} {l:List Int} (h:SL 1 RI M w v l) (u:∀b,M b->M' b):SL 1 RI M' w v l:=h.mono u fun _ _ h=>h
theorem SL.monoO {M M':Nat->Prop} {w:World} {v:Value} {l:List Nat} (h:SL 1 RO M w v l) (u:∀b,M b->M' b):SL 1 RO M' w v l:=h.mono u fun _ _ h=>h
theorem SL.monoS {M M':Nat->Prop} {w:World} {v:Value} {l:List ByteArray} (h:SL 1 RS M w v l) (u:∀b,M b->M' b):SL 1 RS M' w v l:=h.mono u fun _ _ h=>h
theorem SL.monoT {M M':Nat->Prop} {w:World} {v:Value} {l:List cd} (h:SL 2 RT M w v l) (u:∀b,M b->M' b):SL 2 RT M' w v l:=h.mono u fun _ _ h=>h
theorem SL.monoSl {α:Type} {n:Nat} {R:(Nat->Prop)->World->List Value->α->Prop} {M M':Nat->Prop} {w:World} {v:Value} {l:List (List α)} (h:SL 1 (jv n R) M w v l) (u:∀b,M b->M' b) (A:∀cs x,R M w cs x->R M' w cs x):SL 1 (jv n R) M' w v l:=
 h.mono u fun _ _ ⟨v,e,D⟩=>⟨v,e,D.mono u A⟩
theorem SL.atI {M:Nat->Prop} {w:World} {u:Option Addr} {len cap:Nat} {l:List Int} (h:SL 1 RI M w (.slice u len cap) l) (k:Nat) (D:k<l.length):
 ∃b off,u=some ⟨b,off,none⟩/\b<w.heap.size/\w.cell? ⟨b,off+k,none⟩=some (.int .i64 l[k]):=by
 obtain ⟨b,off,E,e,_,A,_,hc,rfl⟩:=h.at k D;exact ⟨b,off,e,A,by have:=hc 0 (by decide);simpa using this⟩
theorem SL.atO {M:Nat->Prop} {w:World} {u:Option Addr} {len cap:Nat} {l:List Nat} (h:SL 1 RO M w (.slice u len cap) l) (k:Nat) (D:k<l.length):
 ∃b off,u=some ⟨b,off,none⟩/\b<w.heap.size/\w.cell? ⟨b,off+k,none⟩=some (.int .i64 l[k]):=by
 obtain ⟨b,off,E,e,_,A,_,hc,rfl⟩:=h.at k D;exact ⟨b,off,e,A,by have:=hc 0 (by decide);simpa using this⟩
theorem SL.atS {M:Nat->Prop} {w:World} {u:Option Addr} {len cap:Nat} {l:List ByteArray} (h:SL 1 RS M w (.slice u len cap) l) (k:Nat) (D:k<l.length):
 ∃b off,u=some ⟨b,off,none⟩/\b<w.heap.size/\w.cell? ⟨b,off+k,none⟩=some (.string l[k])/\l[k].size<=maxLen:=by
 obtain ⟨b,off,F,e,_,A,_,hc,rfl,E⟩:=h.at k D;exact ⟨b,off,e,A,(by have:=hc 0 (by decide);simpa using this),E⟩
theorem SL.atT {M:Nat->Prop} {w:World} {u:Option Addr} {len cap:Nat} {l:List cd} (h:SL 2 RT M w (.slice u len cap) l) (k:Nat) (D:k<l.length):
 ∃b off,u=some ⟨b,off,none⟩/\b<w.heap.size/\w.cell? ⟨b,off+k*2,none⟩=some (.int .i64 l[k].da)/\w.cell? ⟨b,off+k*2+1,none⟩=some (.int .i64 l[k].meth):=by
 obtain ⟨b,off,E,e,_,A,_,hc,rfl⟩:=h.at k D;exact ⟨b,off,e,A,hc 0 (by decide),hc 1 (by decide)⟩
theorem SL.atSl {α:Type} {n:Nat} {R:(Nat->Prop)->World->List Value->α->Prop} {M:Nat->Prop} {w:World} {u:Option Addr} {len cap:Nat} {l:List (List α)} (h:SL 1 (jv n R) M w (.slice u len cap) l) (k:Nat) (E:k<l.length):
 ∃b off a c,u=some ⟨b,off,none⟩/\b<w.heap.size/\w.cell? ⟨b,off+k,none⟩=some (.slice a l[k].length c)/\SL n R M w (.slice a l[k].length c) l[k]:=by
 obtain ⟨b,off,G,e,_,D,_,hc,v,rfl,A⟩:=h.at k E;have F:=A;obtain ⟨a,c,rfl,-⟩:=F;exact ⟨b,off,a,c,e,D,(by have:=hc 0 (by decide);simpa using this),A⟩
theorem zb9 {s t:ByteArray} (h:s.toList=t.toList):s=t:=za5 (by rwa [ByteArray.toList_eq,ByteArray.toList_eq]at h)
theorem zca {s:ByteArray} (h:s.toList= []):s=⟨#[]⟩:=zb9 (h.trans (by rw [ByteArray.toList_eq]))
theorem zcb {s:ByteArray} (h:s=⟨#[]⟩):s.toList= []:=by rw [h,ByteArray.toList_eq]
theorem law9:Keyed Tryz.prog 9:=string_keyed Tryz.underlying9
theorem zero3 (w:World):(zeroValue 3).run Tryz.prog w=.ok (.int .i64 0) w:=by kernel_rfl
def key (s:ByteArray):Lit:=.string s.data.toList
theorem isKey (s:ByteArray):WideAt.IsKeyLit (key s):=trivial
theorem zcc {s t:ByteArray} (h:s≠t):key s≠key t:=fun e=>h (za5 (by injection e))
structure NumD (l:List am) (D:DataW Unit):Prop where
 has:∀s,Maps.has D (key s)=decide (0<=num l s)
 at_:∀s z,0<=num l s->D.atKey (key s) z=.lit (.int .i64 (num l s))
 le:Maps.size D<=l.length
 eq:Maps.size D=l.length↔dq l=true
theorem zcd:NumD [] (.map []):=⟨fun s=>by rw [zaz];rfl,fun s z h=>by rw [zaz]at h;omega,nlq _,by simp [dq,dc,Maps.size]⟩
theorem zce {l:List am} {D:DataW Unit} (h:NumD l D) (A:Tidy D) (c:am):NumD (l++ [c]) (D.put (key c.name) (.lit (.int .i64 l.length))):=by
 have E:=A.isMap;refine ⟨fun s=>?_,fun s z u=>?_,?_,?_⟩
 ·rw [za0];by_cases e:c.name=s
  ·subst e;rw [has_put_same E (isKey _),if_pos rfl];simp
  rw [has_put_other (zcc (Ne.symm e)),if_neg e,h.has]
 ·rw [za0]at u ⊢;by_cases e:c.name=s
  ·subst e;rw [atKey_put_same E (isKey _),if_pos rfl]
  rw [if_neg e]at u ⊢;rw [atKey_put_other (zcc (Ne.symm e)),h.at_ s z u]
 ·have:=h.le;rw [size_put A,List.length_append];split<;>simp<;>omega
 have h1:=h.le;have F:=h.eq;have G:=h.has c.name;rw [size_put A,List.length_append,dq,za7,G];show _↔(dq l&&_)=true;by_cases e:0<=num l c.name
 ·simp [e];omega
 simp [e];exact F
def ia (w:World) (b:Nat) (l:List am):Prop:=∃D:DataW Unit,w.ownsMap Tryz.prog 9 (plainElem Tryz.prog 3) b l.length D/\NumD l D
theorem ia.lt {w:World} {b:Nat} {l:List am} (h:ia w b l):b<w.heap.size:=by obtain ⟨D,h,_⟩:=h;exact h.lt
theorem ia.kept {w w':World} {b:Nat} {l:List am} (h:ia w b l) {row:Option Nat} (E:w.grownBy w' row) (u:some b≠row):ia w' b l:=by obtain ⟨D,h,A⟩:=h;exact ⟨D,h.kept E u,A⟩
theorem ia.below {B:Nat} {w w':World} {b:Nat} {l:List am} (h:ia w b l) (F:Below B w w') (E:b<B):ia w' b l:=by obtain ⟨D,⟨A,u,e,h⟩,G⟩:=h;exact ⟨D,⟨A,u,(F.block b E).trans e,h⟩,G⟩
structure Web (B:Nat) (w:World) (b:Nat) (l:List am) (vC vS vF vN vT vL:Value) (Bm:Nat):Prop where
 bB:b<B
 mB:Bm<B
 le:B<=w.heap.size
 blk:w.heap[b]? =some (.cells #[vC,vS,vF,vN,vT,.map (some Bm),vL] 155 (0,0))
 sC:SL 4 RC (· <B) w vC l
 sS:SL 1 RI (· <B) w vS ((List.range l.length).map (dj l))
 sF:SL 1 (jv 3 RF) (· <B) w vF ((List.range l.length).map (fieldsOf l))
 sN:SL 1 (jv 1 RS) (· <B) w vN ((List.range l.length).map (d9 l))
 sT:SL 1 (jv 2 RT) (· <B) w vT ((List.range l.length).map (d7 l))
 sL:SL 1 (jv 1 RO) (· <B) w vL ((List.range l.length).map (di l))
 nm:ia w Bm l
theorem Web.below {B:Nat} {w w':World} {b:Nat} {l:List am} {D I E G J F:Value} {A:Nat} (h:Web B w b l D I E G J F A) (u:Below B w w'):Web B w' b l D I E G J F A:=
 ⟨h.bB,h.mB,lt3 h.le u.size,(u.block b h.bB).trans h.blk,h.sC.keptC (Kp.below u),h.sS.keptI (Kp.below u),h.sF.keptSl (Kp.below u) fun _ _ h=>h,h.sN.keptSl (Kp.below u) fun _ _ h=>h,h.sT.keptSl (Kp.below u) fun _ _ h=>h,h.sL.keptSl (Kp.below u) fun _ _ h=>h,h.nm.below u h.mB⟩
theorem ba {W:World} {X t:Nat} {c:Array Value} (h:W.heap[X]? =some (.cells c t (0,0))) (j:Nat) {x:Value} (u:c[j]? =some x):W.cell? ⟨X,j,none⟩=some x:=by simp [World.cell?,h,u]
theorem nu {W:World} {X t:Nat} {c:Array Value} (h:W.heap[X]? =some (.cells c t (0,0))) (j:Nat):W.frozen? ⟨X,j,none⟩=false:=by simp [World.frozen?,h]
theorem bz {W:World} {X:Nat} {o:Obj} (h:W.heap[X]? =some o):X<W.heap.size:=(Array.getElem?_eq_some_iff.1 h).1
theorem zcg (w:World) (b G:Nat) (l:List am) (s:ByteArray) (X:w.cell? ⟨b,5,none⟩=some (.map (some G))) (W:ia w G l) (O:s.size<=maxLen):
 Calls Tryz.prog 199 #[.pointer (some ⟨b,0,none⟩),.string s] w fun r w'=>r=.returned (.int .i64 (num l s))/\w'=w:=by
 obtain ⟨D,A,N⟩:=W;have u:keyOf Tryz.prog 9 (.string s)=some (key s):=Go.WideMaps.keyOf_string_mk Tryz.underlying9 O;have L:=ag N;have V:=ag u;clear N u;go_enter Tryz.func199,Tryz.ntmps199;go_wp2_with (at_lookup;refine wpList_lookup_own_ok_int _ rfl _ _ 152 rfl 9 3 .i64 law9 Tryz.underlying152 Tryz.underlying3 (zero3 _) G l.length D rfl A _ _ rfl V.o ?_);intro c E Y;clear Y;have I:=ag E;clear E A X O;rw [L.o.has s];by_cases h:0<=num l s
 ·have F:decide (0<=num l s)=true:=by simp [h]
  have J:Hid (c=num l s):=by have e:=I.o;rw [L.o.at_ s _ h]at e;exact ((Lit.int.inj (DataW.lit.inj e)).2).symm
  rw [F];clear h F;go_wp2
  go_ret;exact ⟨by rw [J.o];rfl,rfl⟩
 have F:decide (0<=num l s)=false:=by simp [h]
 have J:Hid (num l s= -1):=by have:=(za2 l s).1;show num l s= -1;omega
 rw [F];clear h F;go_wp2
 go_ret;exact ⟨by rw [J.o];rfl,rfl⟩
end Go.Proofs.YtjdnmblggdobgaaGreat
namespace Go.Proofs.YtjdnmblggdobgaaGreat
open Go.RowKit
def idx {α:Type} (p:α->Bool) (l:List α):Int:=match l.findIdx? p with | some i=>(i:Int) | none=>-1
theorem zch {α:Type} {p:α->Bool} {l:List α} {k:Nat} (u:k<l.length) (h:∀x∈l.take k,p x=false) (A:p l[k]=true):idx p l=k:=by
 have:l.findIdx? p=some k:=by rw [List.findIdx?_eq_some_iff_getElem];refine ⟨u,A,fun j D=>?_⟩;have:=h l[j] (by rw [List.mem_take_iff_getElem];exact ⟨j,by omega,rfl⟩);simp [this]
 simp [idx,this]
theorem zci {α:Type} {p:α->Bool} {l:List α} (h:∀x∈l,p x=false):idx p l= -1:=by
 have:l.findIdx? p=none:=by rw [List.findIdx?_eq_none_iff];exact h
 simp [idx,this]
theorem zcj {α:Type} (p:α->Bool) (l:List α):decide (0<=idx p l)=l.any p:=by
 unfold idx;cases h:l.findIdx? p with
 | none=>
   rw [List.findIdx?_eq_none_iff]at h;have:l.any p=false:=by rw [List.any_eq_false];intro x D;simp [h x D]
   rw [this];rfl
 | some i=>
   have A:=List.findIdx?_eq_some_iff_getElem.1 h;obtain ⟨hi,u,_⟩:=A;have:l.any p=true:=List.any_eq_true.2 ⟨_,gm hi,u⟩;rw [this];simp
theorem zck {α:Type} {p:α->Bool} {l:List α} {k:Nat} (A:k<l.length) (h:∀x∈l.take k,p x=false) (D:p l[k]=false):∀x∈l.take (k+1),p x=false:=by
 intro x u;rw [List.take_succ_eq_append_getElem A]at u;rcases List.mem_append.1 u with u | u
 ·exact h x u
 rw [List.mem_singleton]at u;rw [u,D]
theorem zcl {α:Type} (p:α->Bool) (l:List α):(!l.any fun x=>!p x)=l.all p:=by
 induction l with
 | nil=>rfl
 | cons x l ih=>rw [List.any_cons,List.all_cons,<-ih];cases p x<;>simp
def ElC (B:Nat) (w:World) (u:Value) (x:am):Prop:=∃fo cf mo cm,u=.agg #[.string x.name,.string x.bq,.slice fo x.fields.length cf,.slice mo x.ar.length cm]/\SL 3 RF (· <B) w (.slice fo x.fields.length cf) x.fields/\SL 9 RM (· <B) w (.slice mo x.ar.length cm) x.ar/\x.name.size<=maxLen/\x.bq.size<=maxLen
theorem ElC.below {B:Nat} {w w':World} {u:Value} {x:am} (h:ElC B w u x) (E:Below B w w'):ElC B w' u x:=by obtain ⟨L,F,N,G,rfl,I,J,A,D⟩:=h;exact ⟨L,F,N,G,rfl,I.keptF (Kp.below E),J.keptM (Kp.below E),A,D⟩
theorem zcm (w:World) (B:Nat) (v:Value) (l:List (am)) (Z:SL 4 RC (· <B) w v l) (hB:B<=w.heap.size) (g:Nat) (cap:Array Value) (p:am->Bool) (ac:∀args w,(callFunc g args).run Tryz.prog w=.ok (.enter g args) w)
 (hc:∀x∈l,∀u W,Below w.heap.size w W->ElC B W u x->Calls Tryz.prog g (#[u]++cap) W fun r W'=>r=.returned (.bool (p x))/\Below W.heap.size W W'):
 Calls Tryz.prog 318 #[v,.func (.func g) #[] cap] w fun r w'=>r=.returned (.int .i64 (idx p l))/\Below w.heap.size w w':=by
 have HV:=ag Z;obtain ⟨aa,cl,rfl,-,V,-⟩:=Z;unfold maxLen at V;have HC:=ag hc;clear hc;go_enter Tryz.func318,Tryz.ntmps318;go_wp2_with fail;go_loopw [8] (fun i wr=>∃k:Nat,k<=l.length/\i=.int .i64 k/\Hid (∀x∈l.take k,p x=false)/\Below w.heap.size w wr) (fun i _=>l.length - (intOf i).toNat)
 case atStart=>exact ⟨0,n0q _,rfl,(fun x hx=>by cases hx),br _ _⟩
 case round=>
  obtain ⟨k,hk,rfl,L,D⟩:=hrel;by_cases F:k<l.length
  ·obtain ⟨b,off,vf,vm,rfl,hb,e0,e1,e2,e3,X,Y,N,O⟩:=(HV.o.keptC (Kp.below (D.mono hB))).atC k F;have EF:=ag X;have EM:=ag Y;obtain ⟨fo,cf,rfl,-⟩:=X;obtain ⟨mo,cm,rfl,-⟩:=Y;have E:=HC.o l[k] (gm F) _ _ D ⟨fo,cf,mo,cm,rfl,EF.o,EM.o,N,O⟩;have A:=ag E;clear E;go_wp2_with fail;refine A.o.mono ?_;rintro r w2 ⟨rfl,J⟩;have I:=D.trans (J.mono D.size);clear J A;cases hp:p l[k]
   ·have G:=ag (zck F L.o hp);clear hp;go_wp2_with fail;go_roundw
    case rel=>exact ⟨k+1,by omega,by go_num,G.o,I⟩
    case measure=>simp [intOf];omega
   have G:=ag (zch F L.o hp);clear hp;go_wp2_with fail;go_ret;exact ⟨by rw [G.o];rfl,I⟩
  have G:Hid (idx p l= -1):=zci (by have:=L.o;rwa [List.take_of_length_le (by omega)]at this);go_wp2_with fail;go_ret;exact ⟨by rw [G.o];rfl,D⟩
theorem zcn (w:World) (B:Nat) (v:Value) (l:List (am)) (E:SL 4 RC (· <B) w v l) (L:B<=w.heap.size) (g:Nat) (cap:Array Value) (p:am->Bool) (D:∀args w,(callFunc g args).run Tryz.prog w=.ok (.enter g args) w)
 (hc:∀x∈l,∀u W,Below w.heap.size w W->ElC B W u x->Calls Tryz.prog g (#[u]++cap) W fun r I=>r=.returned (.bool (p x))/\Below W.heap.size W I):
 Calls Tryz.prog 286 #[v,.func (.func g) #[] cap] w fun r w'=>r=.returned (.bool (l.any p))/\Below w.heap.size w w':=by
 have A:=zcm w B v l E L g cap p D hc;have F:=ag A;clear A hc;have G:=ag (zcj p l);obtain ⟨J,O,rfl,-⟩:=E;go_enter Tryz.func286,Tryz.ntmps286;go_wp2_with fail;refine F.o.mono ?_;rintro r V ⟨rfl,N⟩;go_wp2_with fail;go_ret;exact ⟨by rw [<-G.o];rfl,N⟩
theorem zco (W:World) (B:Nat) (P:Nat) (g:Nat) (first cap:Array Value) (x:am) (u:Value) (b:Bool) (X:ElC B W u x) (N:W.cell? ⟨P,0,none⟩=some (.func (.func g) first cap)) (V:∀args w,(callFunc g args).run Tryz.prog w=.ok (.enter g args) w)
 (hc:∀D,Below W.heap.size W D->Calls Tryz.prog g (first++#[u]++cap) D fun r E=>r=.returned (.bool b)/\Below D.heap.size D E):
 Calls Tryz.prog 287 #[u,.pointer (some ⟨P,0,none⟩)] W fun r D=>r=.returned (.bool (!b))/\Below W.heap.size W D:=by
 have O:=World.block_lt_of_cell? W _ N;have I:=ag hc;clear hc;obtain ⟨fo,Y,mo,Z,rfl,ef,em,J,L⟩:=X;go_enter Tryz.func287,Tryz.ntmps287;go_wp2_with fail;have A:∀o,Below W.heap.size W (W.alloc o):=fun o=>(br _ _).alloc (nlq _) o;refine (I.o _ (by first | exact A _ | exact br _ _)).mono ?_;rintro r E ⟨rfl,F⟩;have G:Below W.heap.size W E:=by first | exact (A _).trans (F.mono (by simp)) | exact F
 clear F A;go_wp2_with fail;go_ret;exact ⟨rfl,G⟩
theorem zcp (w:World) (B:Nat) (v:Value) (l:List (am)) (Y:SL 4 RC (· <B) w v l) (N:B<=w.heap.size) (g:Nat) (first cap:Array Value) (p:am->Bool) (G:∀args w,(callFunc g args).run Tryz.prog w=.ok (.enter g args) w)
 (hc:∀x∈l,∀u W,Below w.heap.size w W->ElC B W u x->Calls Tryz.prog g (first++#[u]++cap) W fun r J=>r=.returned (.bool (p x))/\Below W.heap.size W J):
 Calls Tryz.prog 236 #[v,.func (.func g) first cap] w fun r w'=>r=.returned (.bool (l.all p))/\Below w.heap.size w w':=by
 have ac:=np Tryz.prog;have HV:=ag Y;obtain ⟨aa,cl,rfl,-⟩:=Y;have HC:=ag hc;have I:=ag G;clear hc G;have E:∀o,Below w.heap.size w (w.alloc o):=fun o=>(br _ _).alloc (nlq _) o;have A:=ag E;clear E;go_enter Tryz.func236,Tryz.ntmps236;go_wp2_with fail;refine (zcn _ B _ l (HV.o.keptC (Kp.below ((A.o _).mono N))) (by simp;omega) 287 _ (fun x=>!p x) (fun args w=>by kernel_rfl) ?_).mono ?_
 ·intro x hx u W O X;have D:Below w.heap.size w W:=(A.o _).trans (O.mono (by simp));refine zco W B w.heap.size g first cap x u (p x) X ((O.cell (p:=⟨w.heap.size,0,none⟩) (by simp)).trans (by simp [go_sem])) I.o ?_
  intro J F;exact HC.o x hx u J (D.trans (F.mono D.size)) (X.below (F.mono (lt3 N D.size)))
 rintro r w1 ⟨rfl,V⟩;have L:Below w.heap.size w w1:=(A.o _).trans (V.mono (by simp));have Z:=ag (zcl p l);clear V;go_wp2_with fail;go_ret;exact ⟨by rw [<-Z.o];rfl,L⟩
def ElF (_:Nat) (_:World) (u:Value) (x:bo):Prop:=u=.agg #[.string x.name,.int .i64 x.kind.kind,.string x.kind.da]/\x.name.size<=maxLen/\x.kind.da.size<=maxLen
theorem ElF.below {B:Nat} {w w':World} {u:Value} {x:bo} (h:ElF B w u x) (_:Below B w w'):ElF B w' u x:=by obtain ⟨rfl,A,D⟩:=h;exact ⟨rfl,A,D⟩
theorem zcq (w:World) (B:Nat) (v:Value) (l:List (bo)) (X:SL 3 RF (· <B) w v l) (hB:B<=w.heap.size) (g:Nat) (cap:Array Value) (p:bo->Bool) (ac:∀args w,(callFunc g args).run Tryz.prog w=.ok (.enter g args) w)
 (hc:∀x∈l,∀u W,Below w.heap.size w W->ElF B W u x->Calls Tryz.prog g (#[u]++cap) W fun r W'=>r=.returned (.bool (p x))/\Below W.heap.size W W'):
 Calls Tryz.prog 320 #[v,.func (.func g) #[] cap] w fun r w'=>r=.returned (.int .i64 (idx p l))/\Below w.heap.size w w':=by
 have Z:=ag X;obtain ⟨aa,cl,rfl,-,V,-⟩:=X;unfold maxLen at V;have Y:=ag hc;clear hc;go_enter Tryz.func320,Tryz.ntmps320;go_wp2_with fail;go_loopw [8] (fun i wr=>∃k:Nat,k<=l.length/\i=.int .i64 k/\Hid (∀x∈l.take k,p x=false)/\Below w.heap.size w wr) (fun i _=>l.length - (intOf i).toNat)
 case atStart=>exact ⟨0,n0q _,rfl,(fun x hx=>by cases hx),br _ _⟩
 case round=>
  obtain ⟨k,hk,rfl,L,D⟩:=hrel;by_cases F:k<l.length
  ·obtain ⟨b,off,rfl,hb,e0,e1,e2,N,O⟩:=(Z.o.keptF (Kp.below (D.mono hB))).atF k F;have E:=Y.o l[k] (gm F) _ _ D ⟨rfl,N,O⟩;have A:=ag E;clear E;go_wp2_with fail;refine A.o.mono ?_;rintro r w2 ⟨rfl,J⟩;have I:=D.trans (J.mono D.size);clear J A;cases hp:p l[k]
   ·have G:=ag (zck F L.o hp);clear hp;go_wp2_with fail;go_roundw
    case rel=>exact ⟨k+1,by omega,by go_num,G.o,I⟩
    case measure=>simp [intOf];omega
   have G:=ag (zch F L.o hp);clear hp;go_wp2_with fail;go_ret;exact ⟨by rw [G.o];rfl,I⟩
  have G:Hid (idx p l= -1):=zci (by have:=L.o;rwa [List.take_of_length_le (by omega)]at this);go_wp2_with fail;go_ret;exact ⟨by rw [G.o];rfl,D⟩
theorem zcr (w:World) (B:Nat) (v:Value) (l:List (bo)) (E:SL 3 RF (· <B) w v l) (L:B<=w.heap.size) (g:Nat) (cap:Array Value) (p:bo->Bool) (D:∀args w,(callFunc g args).run Tryz.prog w=.ok (.enter g args) w)
 (hc:∀x∈l,∀u W,Below w.heap.size w W->ElF B W u x->Calls Tryz.prog g (#[u]++cap) W fun r I=>r=.returned (.bool (p x))/\Below W.heap.size W I):
 Calls Tryz.prog 290 #[v,.func (.func g) #[] cap] w fun r w'=>r=.returned (.bool (l.any p))/\Below w.heap.size w w':=by
 have A:=zcq w B v l E L g cap p D hc;have F:=ag A;clear A hc;have G:=ag (zcj p l);obtain ⟨J,O,rfl,-⟩:=E;go_enter Tryz.func290,Tryz.ntmps290;go_wp2_with fail;refine F.o.mono ?_;rintro r V ⟨rfl,N⟩;go_wp2_with fail;go_ret;exact ⟨by rw [<-G.o];rfl,N⟩
theorem zcs (W:World) (B:Nat) (P:Nat) (g:Nat) (first cap:Array Value) (x:bo) (u:Value) (b:Bool) (X:ElF B W u x) (N:W.cell? ⟨P,0,none⟩=some (.func (.func g) first cap)) (V:∀args w,(callFunc g args).run Tryz.prog w=.ok (.enter g args) w)
 (hc:∀D,Below W.heap.size W D->Calls Tryz.prog g (first++#[u]++cap) D fun r E=>r=.returned (.bool b)/\Below D.heap.size D E):
 Calls Tryz.prog 291 #[u,.pointer (some ⟨P,0,none⟩)] W fun r D=>r=.returned (.bool (!b))/\Below W.heap.size W D:=by
 have O:=World.block_lt_of_cell? W _ N;have I:=ag hc;clear hc;obtain ⟨rfl,J,L⟩:=X;go_enter Tryz.func291,Tryz.ntmps291;go_wp2_with fail;have A:∀o,Below W.heap.size W (W.alloc o):=fun o=>(br _ _).alloc (nlq _) o;refine (I.o _ (by first | exact A _ | exact br _ _)).mono ?_;rintro r E ⟨rfl,F⟩;have G:Below W.heap.size W E:=by first | exact (A _).trans (F.mono (by simp)) | exact F
 clear F A;go_wp2_with fail;go_ret;exact ⟨rfl,G⟩
theorem zct (w:World) (B:Nat) (v:Value) (l:List (bo)) (Y:SL 3 RF (· <B) w v l) (N:B<=w.heap.size) (g:Nat) (first cap:Array Value) (p:bo->Bool) (G:∀args w,(callFunc g args).run Tryz.prog w=.ok (.enter g args) w)
 (hc:∀x∈l,∀u W,Below w.heap.size w W->ElF B W u x->Calls Tryz.prog g (first++#[u]++cap) W fun r J=>r=.returned (.bool (p x))/\Below W.heap.size W J):
 Calls Tryz.prog 242 #[v,.func (.func g) first cap] w fun r w'=>r=.returned (.bool (l.all p))/\Below w.heap.size w w':=by
 have ac:=np Tryz.prog;have HV:=ag Y;obtain ⟨aa,cl,rfl,-⟩:=Y;have HC:=ag hc;have I:=ag G;clear hc G;have E:∀o,Below w.heap.size w (w.alloc o):=fun o=>(br _ _).alloc (nlq _) o;have A:=ag E;clear E;go_enter Tryz.func242,Tryz.ntmps242;go_wp2_with fail;refine (zcr _ B _ l (HV.o.keptF (Kp.below ((A.o _).mono N))) (by simp;omega) 291 _ (fun x=>!p x) (fun args w=>by kernel_rfl) ?_).mono ?_
 ·intro x hx u W O X;have D:Below w.heap.size w W:=(A.o _).trans (O.mono (by simp));refine zcs W B w.heap.size g first cap x u (p x) X ((O.cell (p:=⟨w.heap.size,0,none⟩) (by simp)).trans (by simp [go_sem])) I.o ?_
  intro J F;exact HC.o x hx u J (D.trans (F.mono D.size)) (X.below (F.mono (lt3 N D.size)))
 rintro r w1 ⟨rfl,V⟩;have L:Below w.heap.size w w1:=(A.o _).trans (V.mono (by simp));have Z:=ag (zcl p l);clear V;go_wp2_with fail;go_ret;exact ⟨by rw [<-Z.o];rfl,L⟩
def ElK (_:Nat) (_:World) (u:Value) (x:ew):Prop:=u=.agg #[.int .i64 x.kind,.string x.da]/\x.da.size<=maxLen
theorem ElK.below {B:Nat} {w w':World} {u:Value} {x:ew} (h:ElK B w u x) (_:Below B w w'):ElK B w' u x:=by obtain ⟨rfl,A⟩:=h;exact ⟨rfl,A⟩
theorem zcu (w:World) (B:Nat) (v:Value) (l:List (ew)) (V:SL 2 RK (· <B) w v l) (hB:B<=w.heap.size) (g:Nat) (cap:Array Value) (p:ew->Bool) (ac:∀args w,(callFunc g args).run Tryz.prog w=.ok (.enter g args) w)
 (hc:∀x∈l,∀u W,Below w.heap.size w W->ElK B W u x->Calls Tryz.prog g (#[u]++cap) W fun r Z=>r=.returned (.bool (p x))/\Below W.heap.size W Z):
 Calls Tryz.prog 330 #[v,.func (.func g) #[] cap] w fun r w'=>r=.returned (.int .i64 (idx p l))/\Below w.heap.size w w':=by
 have Y:=ag V;obtain ⟨aa,cl,rfl,-,O,-⟩:=V;unfold maxLen at O;have X:=ag hc;clear hc;go_enter Tryz.func330,Tryz.ntmps330;go_wp2_with fail;go_loopw [8] (fun i wr=>∃k:Nat,k<=l.length/\i=.int .i64 k/\Hid (∀x∈l.take k,p x=false)/\Below w.heap.size w wr) (fun i _=>l.length - (intOf i).toNat)
 case atStart=>exact ⟨0,n0q _,rfl,(fun x hx=>by cases hx),br _ _⟩
 case round=>
  obtain ⟨k,hk,rfl,L,D⟩:=hrel;by_cases F:k<l.length
  ·obtain ⟨b,off,rfl,hb,e0,e1,N⟩:=(Y.o.keptK (Kp.below (D.mono hB))).atK k F;have E:=X.o l[k] (gm F) _ _ D ⟨rfl,N⟩;have A:=ag E;clear E;go_wp2_with fail;refine A.o.mono ?_;rintro r w2 ⟨rfl,J⟩;have I:=D.trans (J.mono D.size);clear J A;cases hp:p l[k]
   ·have G:=ag (zck F L.o hp);clear hp;go_wp2_with fail;go_roundw
    case rel=>exact ⟨k+1,by omega,by go_num,G.o,I⟩
    case measure=>simp [intOf];omega
   have G:=ag (zch F L.o hp);clear hp;go_wp2_with fail;go_ret;exact ⟨by rw [G.o];rfl,I⟩
  have G:Hid (idx p l= -1):=zci (by have:=L.o;rwa [List.take_of_length_le (by omega)]at this);go_wp2_with fail;go_ret;exact ⟨by rw [G.o];rfl,D⟩
theorem zcv (w:World) (B:Nat) (v:Value) (l:List (ew)) (E:SL 2 RK (· <B) w v l) (L:B<=w.heap.size) (g:Nat) (cap:Array Value) (p:ew->Bool) (D:∀args w,(callFunc g args).run Tryz.prog w=.ok (.enter g args) w)
 (hc:∀x∈l,∀u W,Below w.heap.size w W->ElK B W u x->Calls Tryz.prog g (#[u]++cap) W fun r I=>r=.returned (.bool (p x))/\Below W.heap.size W I):
 Calls Tryz.prog 321 #[v,.func (.func g) #[] cap] w fun r w'=>r=.returned (.bool (l.any p))/\Below w.heap.size w w':=by
 have A:=zcu w B v l E L g cap p D hc;have F:=ag A;clear A hc;have G:=ag (zcj p l);obtain ⟨J,O,rfl,-⟩:=E;go_enter Tryz.func321,Tryz.ntmps321;go_wp2_with fail;refine F.o.mono ?_;rintro r V ⟨rfl,N⟩;go_wp2_with fail;go_ret;exact ⟨by rw [<-G.o];rfl,N⟩
theorem zcw (W:World) (B:Nat) (P:Nat) (g:Nat) (first cap:Array Value) (x:ew) (u:Value) (b:Bool) (V:ElK B W u x) (L:W.cell? ⟨P,0,none⟩=some (.func (.func g) first cap)) (O:∀args w,(callFunc g args).run Tryz.prog w=.ok (.enter g args) w)
 (hc:∀D,Below W.heap.size W D->Calls Tryz.prog g (first++#[u]++cap) D fun r E=>r=.returned (.bool b)/\Below D.heap.size D E):
 Calls Tryz.prog 322 #[u,.pointer (some ⟨P,0,none⟩)] W fun r D=>r=.returned (.bool (!b))/\Below W.heap.size W D:=by
 have N:=World.block_lt_of_cell? W _ L;have I:=ag hc;clear hc;obtain ⟨rfl,J⟩:=V;go_enter Tryz.func322,Tryz.ntmps322;go_wp2_with fail;have A:∀o,Below W.heap.size W (W.alloc o):=fun o=>(br _ _).alloc (nlq _) o;refine (I.o _ (by first | exact A _ | exact br _ _)).mono ?_;rintro r E ⟨rfl,F⟩;have G:Below W.heap.size W E:=by first | exact (A _).trans (F.mono (by simp)) | exact F
 clear F A;go_wp2_with fail;go_ret;exact ⟨rfl,G⟩
theorem zcx (w:World) (B:Nat) (v:Value) (l:List (ew)) (Y:SL 2 RK (· <B) w v l) (N:B<=w.heap.size) (g:Nat) (first cap:Array Value) (p:ew->Bool) (G:∀args w,(callFunc g args).run Tryz.prog w=.ok (.enter g args) w)
 (hc:∀x∈l,∀u W,Below w.heap.size w W->ElK B W u x->Calls Tryz.prog g (first++#[u]++cap) W fun r J=>r=.returned (.bool (p x))/\Below W.heap.size W J):
 Calls Tryz.prog 292 #[v,.func (.func g) first cap] w fun r w'=>r=.returned (.bool (l.all p))/\Below w.heap.size w w':=by
 have ac:=np Tryz.prog;have HV:=ag Y;obtain ⟨aa,cl,rfl,-⟩:=Y;have HC:=ag hc;have I:=ag G;clear hc G;have E:∀o,Below w.heap.size w (w.alloc o):=fun o=>(br _ _).alloc (nlq _) o;have A:=ag E;clear E;go_enter Tryz.func292,Tryz.ntmps292;go_wp2_with fail;refine (zcv _ B _ l (HV.o.keptK (Kp.below ((A.o _).mono N))) (by simp;omega) 322 _ (fun x=>!p x) (fun args w=>by kernel_rfl) ?_).mono ?_
 ·intro x hx u W O X;have D:Below w.heap.size w W:=(A.o _).trans (O.mono (by simp));refine zcw W B w.heap.size g first cap x u (p x) X ((O.cell (p:=⟨w.heap.size,0,none⟩) (by simp)).trans (by simp [go_sem])) I.o ?_
  intro J F;exact HC.o x hx u J (D.trans (F.mono D.size)) (X.below (F.mono (lt3 N D.size)))
 rintro r w1 ⟨rfl,V⟩;have L:Below w.heap.size w w1:=(A.o _).trans (V.mono (by simp));have Z:=ag (zcl p l);clear V;go_wp2_with fail;go_ret;exact ⟨by rw [<-Z.o];rfl,L⟩
def ElH (_:Nat) (_:World) (u:Value) (x:ii):Prop:=u=.agg #[.int .i64 x.frm,.int .i64 x.upto,.int .i64 x.loc,.string x.da]/\x.da.size<=maxLen
theorem ElH.below {B:Nat} {w w':World} {u:Value} {x:ii} (h:ElH B w u x) (_:Below B w w'):ElH B w' u x:=by obtain ⟨rfl,A⟩:=h;exact ⟨rfl,A⟩
theorem zcy (w:World) (B:Nat) (v:Value) (l:List (ii)) (V:SL 4 RH (· <B) w v l) (hB:B<=w.heap.size) (g:Nat) (cap:Array Value) (p:ii->Bool) (ac:∀args w,(callFunc g args).run Tryz.prog w=.ok (.enter g args) w)
 (hc:∀x∈l,∀u W,Below w.heap.size w W->ElH B W u x->Calls Tryz.prog g (#[u]++cap) W fun r Z=>r=.returned (.bool (p x))/\Below W.heap.size W Z):
 Calls Tryz.prog 331 #[v,.func (.func g) #[] cap] w fun r w'=>r=.returned (.int .i64 (idx p l))/\Below w.heap.size w w':=by
 have Y:=ag V;obtain ⟨aa,cl,rfl,-,O,-⟩:=V;unfold maxLen at O;have X:=ag hc;clear hc;go_enter Tryz.func331,Tryz.ntmps331;go_wp2_with fail;go_loopw [8] (fun i wr=>∃k:Nat,k<=l.length/\i=.int .i64 k/\Hid (∀x∈l.take k,p x=false)/\Below w.heap.size w wr) (fun i _=>l.length - (intOf i).toNat)
 case atStart=>exact ⟨0,n0q _,rfl,(fun x hx=>by cases hx),br _ _⟩
 case round=>
  obtain ⟨k,hk,rfl,L,D⟩:=hrel;by_cases F:k<l.length
  ·obtain ⟨b,off,rfl,hb,e0,e1,e2,e3,N⟩:=(Y.o.keptH (Kp.below (D.mono hB))).atH k F;have E:=X.o l[k] (gm F) _ _ D ⟨rfl,N⟩;have A:=ag E;clear E;go_wp2_with fail;refine A.o.mono ?_;rintro r w2 ⟨rfl,J⟩;have I:=D.trans (J.mono D.size);clear J A;cases hp:p l[k]
   ·have G:=ag (zck F L.o hp);clear hp;go_wp2_with fail;go_roundw
    case rel=>exact ⟨k+1,by omega,by go_num,G.o,I⟩
    case measure=>simp [intOf];omega
   have G:=ag (zch F L.o hp);clear hp;go_wp2_with fail;go_ret;exact ⟨by rw [G.o];rfl,I⟩
  have G:Hid (idx p l= -1):=zci (by have:=L.o;rwa [List.take_of_length_le (by omega)]at this);go_wp2_with fail;go_ret;exact ⟨by rw [G.o];rfl,D⟩
theorem zcz (w:World) (B:Nat) (v:Value) (l:List (ii)) (E:SL 4 RH (· <B) w v l) (L:B<=w.heap.size) (g:Nat) (cap:Array Value) (p:ii->Bool) (D:∀args w,(callFunc g args).run Tryz.prog w=.ok (.enter g args) w)
 (hc:∀x∈l,∀u W,Below w.heap.size w W->ElH B W u x->Calls Tryz.prog g (#[u]++cap) W fun r I=>r=.returned (.bool (p x))/\Below W.heap.size W I):
 Calls Tryz.prog 324 #[v,.func (.func g) #[] cap] w fun r w'=>r=.returned (.bool (l.any p))/\Below w.heap.size w w':=by
 have A:=zcy w B v l E L g cap p D hc;have F:=ag A;clear A hc;have G:=ag (zcj p l);obtain ⟨J,O,rfl,-⟩:=E;go_enter Tryz.func324,Tryz.ntmps324;go_wp2_with fail;refine F.o.mono ?_;rintro r V ⟨rfl,N⟩;go_wp2_with fail;go_ret;exact ⟨by rw [<-G.o];rfl,N⟩
theorem zc0 (W:World) (B:Nat) (P:Nat) (g:Nat) (first cap:Array Value) (x:ii) (u:Value) (b:Bool) (V:ElH B W u x) (L:W.cell? ⟨P,0,none⟩=some (.func (.func g) first cap)) (O:∀args w,(callFunc g args).run Tryz.prog w=.ok (.enter g args) w)
 (hc:∀D,Below W.heap.size W D->Calls Tryz.prog g (first++#[u]++cap) D fun r E=>r=.returned (.bool b)/\Below D.heap.size D E):
 Calls Tryz.prog 325 #[u,.pointer (some ⟨P,0,none⟩)] W fun r D=>r=.returned (.bool (!b))/\Below W.heap.size W D:=by
 have N:=World.block_lt_of_cell? W _ L;have I:=ag hc;clear hc;obtain ⟨rfl,J⟩:=V;go_enter Tryz.func325,Tryz.ntmps325;go_wp2_with fail;have A:∀o,Below W.heap.size W (W.alloc o):=fun o=>(br _ _).alloc (nlq _) o;refine (I.o _ (by first | exact A _ | exact br _ _)).mono ?_;rintro r E ⟨rfl,F⟩;have G:Below W.heap.size W E:=by first | exact (A _).trans (F.mono (by simp)) | exact F
 clear F A;go_wp2_with fail;go_ret;exact ⟨rfl,G⟩
theorem zc1 (w:World) (B:Nat) (v:Value) (l:List (ii)) (Y:SL 4 RH (· <B) w v l) (N:B<=w.heap.size) (g:Nat) (first cap:Array Value) (p:ii->Bool) (G:∀args w,(callFunc g args).run Tryz.prog w=.ok (.enter g args) w)
 (hc:∀x∈l,∀u W,Below w.heap.size w W->ElH B W u x->Calls Tryz.prog g (first++#[u]++cap) W fun r J=>r=.returned (.bool (p x))/\Below W.heap.size W J):
 Calls Tryz.prog 296 #[v,.func (.func g) first cap] w fun r w'=>r=.returned (.bool (l.all p))/\Below w.heap.size w w':=by
 have ac:=np Tryz.prog;have HV:=ag Y;obtain ⟨aa,cl,rfl,-⟩:=Y;have HC:=ag hc;have I:=ag G;clear hc G;have E:∀o,Below w.heap.size w (w.alloc o):=fun o=>(br _ _).alloc (nlq _) o;have A:=ag E;clear E;go_enter Tryz.func296,Tryz.ntmps296;go_wp2_with fail;refine (zcz _ B _ l (HV.o.keptH (Kp.below ((A.o _).mono N))) (by simp;omega) 325 _ (fun x=>!p x) (fun args w=>by kernel_rfl) ?_).mono ?_
 ·intro x hx u W O X;have D:Below w.heap.size w W:=(A.o _).trans (O.mono (by simp));refine zc0 W B w.heap.size g first cap x u (p x) X ((O.cell (p:=⟨w.heap.size,0,none⟩) (by simp)).trans (by simp [go_sem])) I.o ?_
  intro J F;exact HC.o x hx u J (D.trans (F.mono D.size)) (X.below (F.mono (lt3 N D.size)))
 rintro r w1 ⟨rfl,V⟩;have L:Below w.heap.size w w1:=(A.o _).trans (V.mono (by simp));have Z:=ag (zcl p l);clear V;go_wp2_with fail;go_ret;exact ⟨by rw [<-Z.o];rfl,L⟩
def ElM (B:Nat) (w:World) (u:Value) (x:dx):Prop:=∃ao ca ho ch,u=.agg #[.string x.name,.bool x.static,.slice ao x.args.length ca,.int .i64 x.ret.kind,.string x.ret.da,.int .i64 x.stack,.int .i64 x.locals,.string x.code,.slice ho x.hands.length ch]/\SL 2 RK (· <B) w (.slice ao x.args.length ca) x.args/\SL 4 RH (· <B) w (.slice ho x.hands.length ch) x.hands/\x.name.size<=maxLen/\x.ret.da.size<=maxLen/\x.code.size<=maxLen
theorem ElM.below {B:Nat} {w w':World} {u:Value} {x:dx} (h:ElM B w u x) (F:Below B w w'):ElM B w' u x:=by obtain ⟨G,I,O,J,rfl,L,N,A,D,E⟩:=h;exact ⟨G,I,O,J,rfl,L.keptK (Kp.below F),N.keptH (Kp.below F),A,D,E⟩
theorem zc2 (w:World) (B:Nat) (v:Value) (l:List (dx)) (hv:SL 9 RM (· <B) w v l) (hB:B<=w.heap.size) (g:Nat) (cap:Array Value) (p:dx->Bool) (ac:∀args w,(callFunc g args).run Tryz.prog w=.ok (.enter g args) w)
 (hc:∀x∈l,∀u W,Below w.heap.size w W->ElM B W u x->Calls Tryz.prog g (#[u]++cap) W fun r W'=>r=.returned (.bool (p x))/\Below W.heap.size W W'):
 Calls Tryz.prog 323 #[v,.func (.func g) #[] cap] w fun r w'=>r=.returned (.int .i64 (idx p l))/\Below w.heap.size w w':=by
 have HV:=ag hv;obtain ⟨aa,cl,rfl,-,X,-⟩:=hv;unfold maxLen at X;have HC:=ag hc;clear hc;go_enter Tryz.func323,Tryz.ntmps323;go_wp2_with fail;go_loopw [8] (fun i wr=>∃k:Nat,k<=l.length/\i=.int .i64 k/\Hid (∀x∈l.take k,p x=false)/\Below w.heap.size w wr) (fun i _=>l.length - (intOf i).toNat)
 case atStart=>exact ⟨0,n0q _,rfl,(fun x hx=>by cases hx),br _ _⟩
 case round=>
  obtain ⟨k,hk,rfl,L,D⟩:=hrel;by_cases F:k<l.length
  ·obtain ⟨b,off,va,vh,rfl,hb,e0,e1,e2,e3,e4,e5,e6,e7,e8,Y,Z,N,O,V⟩:=(HV.o.keptM (Kp.below (D.mono hB))).atM k F;have EA:=ag Y;have EH:=ag Z;obtain ⟨ao,ca,rfl,-⟩:=Y;obtain ⟨ho,ch,rfl,-⟩:=Z;have E:=HC.o l[k] (gm F) _ _ D ⟨ao,ca,ho,ch,rfl,EA.o,EH.o,N,O,V⟩;have A:=ag E;clear E;go_wp2_with fail;refine A.o.mono ?_;rintro r w2 ⟨rfl,J⟩;have I:=D.trans (J.mono D.size);clear J A;cases hp:p l[k]
   ·have G:=ag (zck F L.o hp);clear hp;go_wp2_with fail;go_roundw
    case rel=>exact ⟨k+1,by omega,by go_num,G.o,I⟩
    case measure=>simp [intOf];omega
   have G:=ag (zch F L.o hp);clear hp;go_wp2_with fail;go_ret;exact ⟨by rw [G.o];rfl,I⟩
  have G:Hid (idx p l= -1):=zci (by have:=L.o;rwa [List.take_of_length_le (by omega)]at this);go_wp2_with fail;go_ret;exact ⟨by rw [G.o];rfl,D⟩
theorem zc3 (w:World) (B:Nat) (v:Value) (l:List (dx)) (E:SL 9 RM (· <B) w v l) (L:B<=w.heap.size) (g:Nat) (cap:Array Value) (p:dx->Bool) (D:∀args w,(callFunc g args).run Tryz.prog w=.ok (.enter g args) w)
 (hc:∀x∈l,∀u W,Below w.heap.size w W->ElM B W u x->Calls Tryz.prog g (#[u]++cap) W fun r I=>r=.returned (.bool (p x))/\Below W.heap.size W I):
 Calls Tryz.prog 294 #[v,.func (.func g) #[] cap] w fun r w'=>r=.returned (.bool (l.any p))/\Below w.heap.size w w':=by
 have A:=zc2 w B v l E L g cap p D hc;have F:=ag A;clear A hc;have G:=ag (zcj p l);obtain ⟨J,O,rfl,-⟩:=E;go_enter Tryz.func294,Tryz.ntmps294;go_wp2_with fail;refine F.o.mono ?_;rintro r V ⟨rfl,N⟩;go_wp2_with fail;go_ret;exact ⟨by rw [<-G.o];rfl,N⟩
theorem zc4 (W:World) (B:Nat) (P:Nat) (g:Nat) (first cap:Array Value) (x:dx) (u:Value) (b:Bool) (Y:ElM B W u x) (O:W.cell? ⟨P,0,none⟩=some (.func (.func g) first cap)) (X:∀args w,(callFunc g args).run Tryz.prog w=.ok (.enter g args) w)
 (hc:∀D,Below W.heap.size W D->Calls Tryz.prog g (first++#[u]++cap) D fun r E=>r=.returned (.bool b)/\Below D.heap.size D E):
 Calls Tryz.prog 295 #[u,.pointer (some ⟨P,0,none⟩)] W fun r D=>r=.returned (.bool (!b))/\Below W.heap.size W D:=by
 have V:=World.block_lt_of_cell? W _ O;have I:=ag hc;clear hc;obtain ⟨Z,ca,ho,ch,rfl,ea,eh,J,L,N⟩:=Y;go_enter Tryz.func295,Tryz.ntmps295;go_wp2_with fail;have A:∀o,Below W.heap.size W (W.alloc o):=fun o=>(br _ _).alloc (nlq _) o;refine (I.o _ (by first | exact A _ | exact br _ _)).mono ?_;rintro r E ⟨rfl,F⟩;have G:Below W.heap.size W E:=by first | exact (A _).trans (F.mono (by simp)) | exact F
 clear F A;go_wp2_with fail;go_ret;exact ⟨rfl,G⟩
theorem zc5 (w:World) (B:Nat) (v:Value) (l:List (dx)) (Y:SL 9 RM (· <B) w v l) (N:B<=w.heap.size) (g:Nat) (first cap:Array Value) (p:dx->Bool) (G:∀args w,(callFunc g args).run Tryz.prog w=.ok (.enter g args) w)
 (hc:∀x∈l,∀u W,Below w.heap.size w W->ElM B W u x->Calls Tryz.prog g (first++#[u]++cap) W fun r J=>r=.returned (.bool (p x))/\Below W.heap.size W J):
 Calls Tryz.prog 245 #[v,.func (.func g) first cap] w fun r w'=>r=.returned (.bool (l.all p))/\Below w.heap.size w w':=by
 have ac:=np Tryz.prog;have HV:=ag Y;obtain ⟨aa,cl,rfl,-⟩:=Y;have HC:=ag hc;have I:=ag G;clear hc G;have E:∀o,Below w.heap.size w (w.alloc o):=fun o=>(br _ _).alloc (nlq _) o;have A:=ag E;clear E;go_enter Tryz.func245,Tryz.ntmps245;go_wp2_with fail;refine (zc3 _ B _ l (HV.o.keptM (Kp.below ((A.o _).mono N))) (by simp;omega) 295 _ (fun x=>!p x) (fun args w=>by kernel_rfl) ?_).mono ?_
 ·intro x hx u W O X;have D:Below w.heap.size w W:=(A.o _).trans (O.mono (by simp));refine zc4 W B w.heap.size g first cap x u (p x) X ((O.cell (p:=⟨w.heap.size,0,none⟩) (by simp)).trans (by simp [go_sem])) I.o ?_
  intro J F;exact HC.o x hx u J (D.trans (F.mono D.size)) (X.below (F.mono (lt3 N D.size)))
 rintro r w1 ⟨rfl,V⟩;have L:Below w.heap.size w w1:=(A.o _).trans (V.mono (by simp));have Z:=ag (zcl p l);clear V;go_wp2_with fail;go_ret;exact ⟨by rw [<-Z.o];rfl,L⟩
def ElS (_:Nat) (_:World) (u:Value) (x:ByteArray):Prop:=u=.string x/\x.size<=maxLen
theorem ElS.below {B:Nat} {w w':World} {u:Value} {x:ByteArray} (h:ElS B w u x) (_:Below B w w'):ElS B w' u x:=by obtain ⟨rfl,A⟩:=h;exact ⟨rfl,A⟩
theorem zc6 (w:World) (B:Nat) (v:Value) (l:List (ByteArray)) (V:SL 1 RS (· <B) w v l) (hB:B<=w.heap.size) (g:Nat) (cap:Array Value) (p:ByteArray->Bool) (ac:∀args w,(callFunc g args).run Tryz.prog w=.ok (.enter g args) w)
 (hc:∀x∈l,∀u W,Below w.heap.size w W->ElS B W u x->Calls Tryz.prog g (#[u]++cap) W fun r Z=>r=.returned (.bool (p x))/\Below W.heap.size W Z):
 Calls Tryz.prog 329 #[v,.func (.func g) #[] cap] w fun r w'=>r=.returned (.int .i64 (idx p l))/\Below w.heap.size w w':=by
 have Y:=ag V;obtain ⟨aa,cl,rfl,-,O,-⟩:=V;unfold maxLen at O;have X:=ag hc;clear hc;go_enter Tryz.func329,Tryz.ntmps329;go_wp2_with fail;go_loopw [8] (fun i wr=>∃k:Nat,k<=l.length/\i=.int .i64 k/\Hid (∀x∈l.take k,p x=false)/\Below w.heap.size w wr) (fun i _=>l.length - (intOf i).toNat)
 case atStart=>exact ⟨0,n0q _,rfl,(fun x hx=>by cases hx),br _ _⟩
 case round=>
  obtain ⟨k,hk,rfl,L,D⟩:=hrel;by_cases F:k<l.length
  ·obtain ⟨b,off,rfl,hb,e0,N⟩:=(Y.o.keptS (Kp.below (D.mono hB))).atS k F;have E:=X.o l[k] (gm F) _ _ D ⟨rfl,N⟩;have A:=ag E;clear E;go_wp2_with fail;refine A.o.mono ?_;rintro r w2 ⟨rfl,J⟩;have I:=D.trans (J.mono D.size);clear J A;cases hp:p l[k]
   ·have G:=ag (zck F L.o hp);clear hp;go_wp2_with fail;go_roundw
    case rel=>exact ⟨k+1,by omega,by go_num,G.o,I⟩
    case measure=>simp [intOf];omega
   have G:=ag (zch F L.o hp);clear hp;go_wp2_with fail;go_ret;exact ⟨by rw [G.o];rfl,I⟩
  have G:Hid (idx p l= -1):=zci (by have:=L.o;rwa [List.take_of_length_le (by omega)]at this);go_wp2_with fail;go_ret;exact ⟨by rw [G.o];rfl,D⟩
theorem zc7 (w:World) (B:Nat) (v:Value) (l:List (ByteArray)) (E:SL 1 RS (· <B) w v l) (L:B<=w.heap.size) (g:Nat) (cap:Array Value) (p:ByteArray->Bool) (D:∀args w,(callFunc g args).run Tryz.prog w=.ok (.enter g args) w)
 (hc:∀x∈l,∀u W,Below w.heap.size w W->ElS B W u x->Calls Tryz.prog g (#[u]++cap) W fun r I=>r=.returned (.bool (p x))/\Below W.heap.size W I):
 Calls Tryz.prog 316 #[v,.func (.func g) #[] cap] w fun r w'=>r=.returned (.bool (l.any p))/\Below w.heap.size w w':=by
 have A:=zc6 w B v l E L g cap p D hc;have F:=ag A;clear A hc;have G:=ag (zcj p l);obtain ⟨J,O,rfl,-⟩:=E;go_enter Tryz.func316,Tryz.ntmps316;go_wp2_with fail;refine F.o.mono ?_;rintro r V ⟨rfl,N⟩;go_wp2_with fail;go_ret;exact ⟨by rw [<-G.o];rfl,N⟩
theorem zc8 (W:World) (B:Nat) (P:Nat) (g:Nat) (first cap:Array Value) (x:ByteArray) (u:Value) (b:Bool) (V:ElS B W u x) (L:W.cell? ⟨P,0,none⟩=some (.func (.func g) first cap)) (O:∀args w,(callFunc g args).run Tryz.prog w=.ok (.enter g args) w)
 (hc:∀D,Below W.heap.size W D->Calls Tryz.prog g (first++#[u]++cap) D fun r E=>r=.returned (.bool b)/\Below D.heap.size D E):
 Calls Tryz.prog 317 #[u,.pointer (some ⟨P,0,none⟩)] W fun r D=>r=.returned (.bool (!b))/\Below W.heap.size W D:=by
 have N:=World.block_lt_of_cell? W _ L;have I:=ag hc;clear hc;obtain ⟨rfl,J⟩:=V;go_enter Tryz.func317,Tryz.ntmps317;go_wp2_with fail;have A:∀o,Below W.heap.size W (W.alloc o):=fun o=>(br _ _).alloc (nlq _) o;refine (I.o _ (by first | exact A _ | exact br _ _)).mono ?_;rintro r E ⟨rfl,F⟩;have G:Below W.heap.size W E:=by first | exact (A _).trans (F.mono (by simp)) | exact F
 clear F A;go_wp2_with fail;go_ret;exact ⟨rfl,G⟩
theorem zc9 (w:World) (B:Nat) (v:Value) (l:List (ByteArray)) (Y:SL 1 RS (· <B) w v l) (N:B<=w.heap.size) (g:Nat) (first cap:Array Value) (p:ByteArray->Bool) (G:∀args w,(callFunc g args).run Tryz.prog w=.ok (.enter g args) w)
 (hc:∀x∈l,∀u W,Below w.heap.size w W->ElS B W u x->Calls Tryz.prog g (first++#[u]++cap) W fun r J=>r=.returned (.bool (p x))/\Below W.heap.size W J):
 Calls Tryz.prog 284 #[v,.func (.func g) first cap] w fun r w'=>r=.returned (.bool (l.all p))/\Below w.heap.size w w':=by
 have ac:=np Tryz.prog;have HV:=ag Y;obtain ⟨aa,cl,rfl,-⟩:=Y;have HC:=ag hc;have I:=ag G;clear hc G;have E:∀o,Below w.heap.size w (w.alloc o):=fun o=>(br _ _).alloc (nlq _) o;have A:=ag E;clear E;go_enter Tryz.func284,Tryz.ntmps284;go_wp2_with fail;refine (zc7 _ B _ l (HV.o.keptS (Kp.below ((A.o _).mono N))) (by simp;omega) 317 _ (fun x=>!p x) (fun args w=>by kernel_rfl) ?_).mono ?_
 ·intro x hx u W O X;have D:Below w.heap.size w W:=(A.o _).trans (O.mono (by simp));refine zc8 W B w.heap.size g first cap x u (p x) X ((O.cell (p:=⟨w.heap.size,0,none⟩) (by simp)).trans (by simp [go_sem])) I.o ?_
  intro J F;exact HC.o x hx u J (D.trans (F.mono D.size)) (X.below (F.mono (lt3 N D.size)))
 rintro r w1 ⟨rfl,V⟩;have L:Below w.heap.size w w1:=(A.o _).trans (V.mono (by simp));have Z:=ag (zcl p l);clear V;go_wp2_with fail;go_ret;exact ⟨by rw [<-Z.o];rfl,L⟩
def ElIs (B:Nat) (w:World) (u:Value) (x:List Nat):Prop:=∃ao ca,u=.slice ao x.length ca/\SL 1 RO (· <B) w (.slice ao x.length ca) x
theorem ElIs.below {B:Nat} {w w':World} {u:Value} {x:List Nat} (h:ElIs B w u x) (F:Below B w w'):ElIs B w' u x:=by obtain ⟨A,D,rfl,E⟩:=h;exact ⟨A,D,rfl,E.keptO (Kp.below F)⟩
theorem zda (w:World) (B:Nat) (v:Value) (l:List (List Nat)) (O:SL 1 (jv 1 RO) (· <B) w v l) (hB:B<=w.heap.size) (g:Nat) (cap:Array Value) (p:List Nat->Bool) (ac:∀args w,(callFunc g args).run Tryz.prog w=.ok (.enter g args) w)
 (hc:∀x∈l,∀u W,Below w.heap.size w W->ElIs B W u x->Calls Tryz.prog g (#[u]++cap) W fun r Z=>r=.returned (.bool (p x))/\Below W.heap.size W Z):
 Calls Tryz.prog 319 #[v,.func (.func g) #[] cap] w fun r w'=>r=.returned (.int .i64 (idx p l))/\Below w.heap.size w w':=by
 have Y:=ag O;obtain ⟨aa,cl,rfl,-,N,-⟩:=O;unfold maxLen at N;have X:=ag hc;clear hc;go_enter Tryz.func319,Tryz.ntmps319;go_wp2_with fail;go_loopw [8] (fun i wr=>∃k:Nat,k<=l.length/\i=.int .i64 k/\Hid (∀x∈l.take k,p x=false)/\Below w.heap.size w wr) (fun i _=>l.length - (intOf i).toNat)
 case atStart=>exact ⟨0,n0q _,rfl,(fun x hx=>by cases hx),br _ _⟩
 case round=>
  obtain ⟨k,hk,rfl,L,D⟩:=hrel;by_cases F:k<l.length
  ·obtain ⟨b,off,ai,ci,rfl,hb,e0,ei⟩:=(Y.o.keptSl (Kp.below (D.mono hB)) fun _ _ h=>h).atSl k F;have V:=ag ei;have E:=X.o l[k] (gm F) _ _ D ⟨ai,ci,rfl,V.o⟩;have A:=ag E;clear E;go_wp2_with fail;refine A.o.mono ?_;rintro r w2 ⟨rfl,J⟩;have I:=D.trans (J.mono D.size);clear J A;cases hp:p l[k]
   ·have G:=ag (zck F L.o hp);clear hp;go_wp2_with fail;go_roundw
    case rel=>exact ⟨k+1,by omega,by go_num,G.o,I⟩
    case measure=>simp [intOf];omega
   have G:=ag (zch F L.o hp);clear hp;go_wp2_with fail;go_ret;exact ⟨by rw [G.o];rfl,I⟩
  have G:Hid (idx p l= -1):=zci (by have:=L.o;rwa [List.take_of_length_le (by omega)]at this);go_wp2_with fail;go_ret;exact ⟨by rw [G.o];rfl,D⟩
theorem zdb (w:World) (B:Nat) (v:Value) (l:List (List Nat)) (E:SL 1 (jv 1 RO) (· <B) w v l) (L:B<=w.heap.size) (g:Nat) (cap:Array Value) (p:List Nat->Bool) (D:∀args w,(callFunc g args).run Tryz.prog w=.ok (.enter g args) w)
 (hc:∀x∈l,∀u W,Below w.heap.size w W->ElIs B W u x->Calls Tryz.prog g (#[u]++cap) W fun r I=>r=.returned (.bool (p x))/\Below W.heap.size W I):
 Calls Tryz.prog 288 #[v,.func (.func g) #[] cap] w fun r w'=>r=.returned (.bool (l.any p))/\Below w.heap.size w w':=by
 have A:=zda w B v l E L g cap p D hc;have F:=ag A;clear A hc;have G:=ag (zcj p l);obtain ⟨J,O,rfl,-⟩:=E;go_enter Tryz.func288,Tryz.ntmps288;go_wp2_with fail;refine F.o.mono ?_;rintro r V ⟨rfl,N⟩;go_wp2_with fail;go_ret;exact ⟨by rw [<-G.o];rfl,N⟩
theorem zdc (W:World) (B:Nat) (P:Nat) (g:Nat) (first cap:Array Value) (x:List Nat) (u:Value) (b:Bool) (O:ElIs B W u x) (J:W.cell? ⟨P,0,none⟩=some (.func (.func g) first cap)) (N:∀args w,(callFunc g args).run Tryz.prog w=.ok (.enter g args) w)
 (hc:∀D,Below W.heap.size W D->Calls Tryz.prog g (first++#[u]++cap) D fun r E=>r=.returned (.bool b)/\Below D.heap.size D E):
 Calls Tryz.prog 289 #[u,.pointer (some ⟨P,0,none⟩)] W fun r D=>r=.returned (.bool (!b))/\Below W.heap.size W D:=by
 have L:=World.block_lt_of_cell? W _ J;have I:=ag hc;clear hc;obtain ⟨V,X,rfl,Y⟩:=O;go_enter Tryz.func289,Tryz.ntmps289;go_wp2_with fail;have A:∀o,Below W.heap.size W (W.alloc o):=fun o=>(br _ _).alloc (nlq _) o;refine (I.o _ (by first | exact A _ | exact br _ _)).mono ?_;rintro r E ⟨rfl,F⟩;have G:Below W.heap.size W E:=by first | exact (A _).trans (F.mono (by simp)) | exact F
 clear F A;go_wp2_with fail;go_ret;exact ⟨rfl,G⟩
theorem zdd (w:World) (B:Nat) (v:Value) (l:List (List Nat)) (Y:SL 1 (jv 1 RO) (· <B) w v l) (N:B<=w.heap.size) (g:Nat) (first cap:Array Value) (p:List Nat->Bool) (G:∀args w,(callFunc g args).run Tryz.prog w=.ok (.enter g args) w)
 (hc:∀x∈l,∀u W,Below w.heap.size w W->ElIs B W u x->Calls Tryz.prog g (first++#[u]++cap) W fun r J=>r=.returned (.bool (p x))/\Below W.heap.size W J):
 Calls Tryz.prog 239 #[v,.func (.func g) first cap] w fun r w'=>r=.returned (.bool (l.all p))/\Below w.heap.size w w':=by
 have ac:=np Tryz.prog;have HV:=ag Y;obtain ⟨aa,cl,rfl,-⟩:=Y;have HC:=ag hc;have I:=ag G;clear hc G;have E:∀o,Below w.heap.size w (w.alloc o):=fun o=>(br _ _).alloc (nlq _) o;have A:=ag E;clear E;go_enter Tryz.func239,Tryz.ntmps239;go_wp2_with fail;refine (zdb _ B _ l (HV.o.keptSl (Kp.below ((A.o _).mono N)) fun _ _ h=>h) (by simp;omega) 289 _ (fun x=>!p x) (fun args w=>by kernel_rfl) ?_).mono ?_
 ·intro x hx u W O X;have D:Below w.heap.size w W:=(A.o _).trans (O.mono (by simp));refine zdc W B w.heap.size g first cap x u (p x) X ((O.cell (p:=⟨w.heap.size,0,none⟩) (by simp)).trans (by simp [go_sem])) I.o ?_
  intro J F;exact HC.o x hx u J (D.trans (F.mono D.size)) (X.below (F.mono (lt3 N D.size)))
 rintro r w1 ⟨rfl,V⟩;have L:Below w.heap.size w w1:=(A.o _).trans (V.mono (by simp));have Z:=ag (zcl p l);clear V;go_wp2_with fail;go_ret;exact ⟨by rw [<-Z.o];rfl,L⟩
def ElFs (B:Nat) (w:World) (u:Value) (x:List bo):Prop:=∃ao ca,u=.slice ao x.length ca/\SL 3 RF (· <B) w (.slice ao x.length ca) x
theorem ElFs.below {B:Nat} {w w':World} {u:Value} {x:List bo} (h:ElFs B w u x) (F:Below B w w'):ElFs B w' u x:=by obtain ⟨A,D,rfl,E⟩:=h;exact ⟨A,D,rfl,E.keptF (Kp.below F)⟩
theorem zde (w:World) (B:Nat) (v:Value) (l:List (List bo)) (O:SL 1 (jv 3 RF) (· <B) w v l) (hB:B<=w.heap.size) (g:Nat) (cap:Array Value) (p:List bo->Bool) (ac:∀args w,(callFunc g args).run Tryz.prog w=.ok (.enter g args) w)
 (hc:∀x∈l,∀u W,Below w.heap.size w W->ElFs B W u x->Calls Tryz.prog g (#[u]++cap) W fun r Z=>r=.returned (.bool (p x))/\Below W.heap.size W Z):
 Calls Tryz.prog 326 #[v,.func (.func g) #[] cap] w fun r w'=>r=.returned (.int .i64 (idx p l))/\Below w.heap.size w w':=by
 have Y:=ag O;obtain ⟨aa,cl,rfl,-,N,-⟩:=O;unfold maxLen at N;have X:=ag hc;clear hc;go_enter Tryz.func326,Tryz.ntmps326;go_wp2_with fail;go_loopw [8] (fun i wr=>∃k:Nat,k<=l.length/\i=.int .i64 k/\Hid (∀x∈l.take k,p x=false)/\Below w.heap.size w wr) (fun i _=>l.length - (intOf i).toNat)
 case atStart=>exact ⟨0,n0q _,rfl,(fun x hx=>by cases hx),br _ _⟩
 case round=>
  obtain ⟨k,hk,rfl,L,D⟩:=hrel;by_cases F:k<l.length
  ·obtain ⟨b,off,ai,ci,rfl,hb,e0,ei⟩:=(Y.o.keptSl (Kp.below (D.mono hB)) fun _ _ h=>h).atSl k F;have V:=ag ei;have E:=X.o l[k] (gm F) _ _ D ⟨ai,ci,rfl,V.o⟩;have A:=ag E;clear E;go_wp2_with fail;refine A.o.mono ?_;rintro r w2 ⟨rfl,J⟩;have I:=D.trans (J.mono D.size);clear J A;cases hp:p l[k]
   ·have G:=ag (zck F L.o hp);clear hp;go_wp2_with fail;go_roundw
    case rel=>exact ⟨k+1,by omega,by go_num,G.o,I⟩
    case measure=>simp [intOf];omega
   have G:=ag (zch F L.o hp);clear hp;go_wp2_with fail;go_ret;exact ⟨by rw [G.o];rfl,I⟩
  have G:Hid (idx p l= -1):=zci (by have:=L.o;rwa [List.take_of_length_le (by omega)]at this);go_wp2_with fail;go_ret;exact ⟨by rw [G.o];rfl,D⟩
theorem zdf (w:World) (B:Nat) (v:Value) (l:List (List bo)) (E:SL 1 (jv 3 RF) (· <B) w v l) (L:B<=w.heap.size) (g:Nat) (cap:Array Value) (p:List bo->Bool) (D:∀args w,(callFunc g args).run Tryz.prog w=.ok (.enter g args) w)
 (hc:∀x∈l,∀u W,Below w.heap.size w W->ElFs B W u x->Calls Tryz.prog g (#[u]++cap) W fun r I=>r=.returned (.bool (p x))/\Below W.heap.size W I):
 Calls Tryz.prog 298 #[v,.func (.func g) #[] cap] w fun r w'=>r=.returned (.bool (l.any p))/\Below w.heap.size w w':=by
 have A:=zde w B v l E L g cap p D hc;have F:=ag A;clear A hc;have G:=ag (zcj p l);obtain ⟨J,O,rfl,-⟩:=E;go_enter Tryz.func298,Tryz.ntmps298;go_wp2_with fail;refine F.o.mono ?_;rintro r V ⟨rfl,N⟩;go_wp2_with fail;go_ret;exact ⟨by rw [<-G.o];rfl,N⟩
theorem zdg (W:World) (B:Nat) (P:Nat) (g:Nat) (first cap:Array Value) (x:List bo) (u:Value) (b:Bool) (O:ElFs B W u x) (J:W.cell? ⟨P,0,none⟩=some (.func (.func g) first cap)) (N:∀args w,(callFunc g args).run Tryz.prog w=.ok (.enter g args) w)
 (hc:∀D,Below W.heap.size W D->Calls Tryz.prog g (first++#[u]++cap) D fun r E=>r=.returned (.bool b)/\Below D.heap.size D E):
 Calls Tryz.prog 299 #[u,.pointer (some ⟨P,0,none⟩)] W fun r D=>r=.returned (.bool (!b))/\Below W.heap.size W D:=by
 have L:=World.block_lt_of_cell? W _ J;have I:=ag hc;clear hc;obtain ⟨V,X,rfl,Y⟩:=O;go_enter Tryz.func299,Tryz.ntmps299;go_wp2_with fail;have A:∀o,Below W.heap.size W (W.alloc o):=fun o=>(br _ _).alloc (nlq _) o;refine (I.o _ (by first | exact A _ | exact br _ _)).mono ?_;rintro r E ⟨rfl,F⟩;have G:Below W.heap.size W E:=by first | exact (A _).trans (F.mono (by simp)) | exact F
 clear F A;go_wp2_with fail;go_ret;exact ⟨rfl,G⟩
theorem zdh (w:World) (B:Nat) (v:Value) (l:List (List bo)) (Y:SL 1 (jv 3 RF) (· <B) w v l) (N:B<=w.heap.size) (g:Nat) (first cap:Array Value) (p:List bo->Bool) (G:∀args w,(callFunc g args).run Tryz.prog w=.ok (.enter g args) w)
 (hc:∀x∈l,∀u W,Below w.heap.size w W->ElFs B W u x->Calls Tryz.prog g (first++#[u]++cap) W fun r J=>r=.returned (.bool (p x))/\Below W.heap.size W J):
 Calls Tryz.prog 247 #[v,.func (.func g) first cap] w fun r w'=>r=.returned (.bool (l.all p))/\Below w.heap.size w w':=by
 have ac:=np Tryz.prog;have HV:=ag Y;obtain ⟨aa,cl,rfl,-⟩:=Y;have HC:=ag hc;have I:=ag G;clear hc G;have E:∀o,Below w.heap.size w (w.alloc o):=fun o=>(br _ _).alloc (nlq _) o;have A:=ag E;clear E;go_enter Tryz.func247,Tryz.ntmps247;go_wp2_with fail;refine (zdf _ B _ l (HV.o.keptSl (Kp.below ((A.o _).mono N)) fun _ _ h=>h) (by simp;omega) 299 _ (fun x=>!p x) (fun args w=>by kernel_rfl) ?_).mono ?_
 ·intro x hx u W O X;have D:Below w.heap.size w W:=(A.o _).trans (O.mono (by simp));refine zdg W B w.heap.size g first cap x u (p x) X ((O.cell (p:=⟨w.heap.size,0,none⟩) (by simp)).trans (by simp [go_sem])) I.o ?_
  intro J F;exact HC.o x hx u J (D.trans (F.mono D.size)) (X.below (F.mono (lt3 N D.size)))
 rintro r w1 ⟨rfl,V⟩;have L:Below w.heap.size w w1:=(A.o _).trans (V.mono (by simp));have Z:=ag (zcl p l);clear V;go_wp2_with fail;go_ret;exact ⟨by rw [<-Z.o];rfl,L⟩
def ElSs (B:Nat) (w:World) (u:Value) (x:List ByteArray):Prop:=∃ao ca,u=.slice ao x.length ca/\SL 1 RS (· <B) w (.slice ao x.length ca) x
theorem ElSs.below {B:Nat} {w w':World} {u:Value} {x:List ByteArray} (h:ElSs B w u x) (F:Below B w w'):ElSs B w' u x:=by obtain ⟨A,D,rfl,E⟩:=h;exact ⟨A,D,rfl,E.keptS (Kp.below F)⟩
theorem zdi (w:World) (B:Nat) (v:Value) (l:List (List ByteArray)) (O:SL 1 (jv 1 RS) (· <B) w v l) (hB:B<=w.heap.size) (g:Nat) (cap:Array Value) (p:List ByteArray->Bool) (ac:∀args w,(callFunc g args).run Tryz.prog w=.ok (.enter g args) w)
 (hc:∀x∈l,∀u W,Below w.heap.size w W->ElSs B W u x->Calls Tryz.prog g (#[u]++cap) W fun r Z=>r=.returned (.bool (p x))/\Below W.heap.size W Z):
 Calls Tryz.prog 327 #[v,.func (.func g) #[] cap] w fun r w'=>r=.returned (.int .i64 (idx p l))/\Below w.heap.size w w':=by
 have Y:=ag O;obtain ⟨aa,cl,rfl,-,N,-⟩:=O;unfold maxLen at N;have X:=ag hc;clear hc;go_enter Tryz.func327,Tryz.ntmps327;go_wp2_with fail;go_loopw [8] (fun i wr=>∃k:Nat,k<=l.length/\i=.int .i64 k/\Hid (∀x∈l.take k,p x=false)/\Below w.heap.size w wr) (fun i _=>l.length - (intOf i).toNat)
 case atStart=>exact ⟨0,n0q _,rfl,(fun x hx=>by cases hx),br _ _⟩
 case round=>
  obtain ⟨k,hk,rfl,L,D⟩:=hrel;by_cases F:k<l.length
  ·obtain ⟨b,off,ai,ci,rfl,hb,e0,ei⟩:=(Y.o.keptSl (Kp.below (D.mono hB)) fun _ _ h=>h).atSl k F;have V:=ag ei;have E:=X.o l[k] (gm F) _ _ D ⟨ai,ci,rfl,V.o⟩;have A:=ag E;clear E;go_wp2_with fail;refine A.o.mono ?_;rintro r w2 ⟨rfl,J⟩;have I:=D.trans (J.mono D.size);clear J A;cases hp:p l[k]
   ·have G:=ag (zck F L.o hp);clear hp;go_wp2_with fail;go_roundw
    case rel=>exact ⟨k+1,by omega,by go_num,G.o,I⟩
    case measure=>simp [intOf];omega
   have G:=ag (zch F L.o hp);clear hp;go_wp2_with fail;go_ret;exact ⟨by rw [G.o];rfl,I⟩
  have G:Hid (idx p l= -1):=zci (by have:=L.o;rwa [List.take_of_length_le (by omega)]at this);go_wp2_with fail;go_ret;exact ⟨by rw [G.o];rfl,D⟩
theorem zdj (w:World) (B:Nat) (v:Value) (l:List (List ByteArray)) (E:SL 1 (jv 1 RS) (· <B) w v l) (L:B<=w.heap.size) (g:Nat) (cap:Array Value) (p:List ByteArray->Bool) (D:∀args w,(callFunc g args).run Tryz.prog w=.ok (.enter g args) w)
 (hc:∀x∈l,∀u W,Below w.heap.size w W->ElSs B W u x->Calls Tryz.prog g (#[u]++cap) W fun r I=>r=.returned (.bool (p x))/\Below W.heap.size W I):
 Calls Tryz.prog 303 #[v,.func (.func g) #[] cap] w fun r w'=>r=.returned (.bool (l.any p))/\Below w.heap.size w w':=by
 have A:=zdi w B v l E L g cap p D hc;have F:=ag A;clear A hc;have G:=ag (zcj p l);obtain ⟨J,O,rfl,-⟩:=E;go_enter Tryz.func303,Tryz.ntmps303;go_wp2_with fail;refine F.o.mono ?_;rintro r V ⟨rfl,N⟩;go_wp2_with fail;go_ret;exact ⟨by rw [<-G.o];rfl,N⟩
theorem zdk (W:World) (B:Nat) (P:Nat) (g:Nat) (first cap:Array Value) (x:List ByteArray) (u:Value) (b:Bool) (O:ElSs B W u x) (J:W.cell? ⟨P,0,none⟩=some (.func (.func g) first cap)) (N:∀args w,(callFunc g args).run Tryz.prog w=.ok (.enter g args) w)
 (hc:∀D,Below W.heap.size W D->Calls Tryz.prog g (first++#[u]++cap) D fun r E=>r=.returned (.bool b)/\Below D.heap.size D E):
 Calls Tryz.prog 304 #[u,.pointer (some ⟨P,0,none⟩)] W fun r D=>r=.returned (.bool (!b))/\Below W.heap.size W D:=by
 have L:=World.block_lt_of_cell? W _ J;have I:=ag hc;clear hc;obtain ⟨V,X,rfl,Y⟩:=O;go_enter Tryz.func304,Tryz.ntmps304;go_wp2_with fail;have A:∀o,Below W.heap.size W (W.alloc o):=fun o=>(br _ _).alloc (nlq _) o;refine (I.o _ (by first | exact A _ | exact br _ _)).mono ?_;rintro r E ⟨rfl,F⟩;have G:Below W.heap.size W E:=by first | exact (A _).trans (F.mono (by simp)) | exact F
 clear F A;go_wp2_with fail;go_ret;exact ⟨rfl,G⟩
theorem zdl (w:World) (B:Nat) (v:Value) (l:List (List ByteArray)) (Y:SL 1 (jv 1 RS) (· <B) w v l) (N:B<=w.heap.size) (g:Nat) (first cap:Array Value) (p:List ByteArray->Bool) (G:∀args w,(callFunc g args).run Tryz.prog w=.ok (.enter g args) w)
 (hc:∀x∈l,∀u W,Below w.heap.size w W->ElSs B W u x->Calls Tryz.prog g (first++#[u]++cap) W fun r J=>r=.returned (.bool (p x))/\Below W.heap.size W J):
 Calls Tryz.prog 257 #[v,.func (.func g) first cap] w fun r w'=>r=.returned (.bool (l.all p))/\Below w.heap.size w w':=by
 have ac:=np Tryz.prog;have HV:=ag Y;obtain ⟨aa,cl,rfl,-⟩:=Y;have HC:=ag hc;have I:=ag G;clear hc G;have E:∀o,Below w.heap.size w (w.alloc o):=fun o=>(br _ _).alloc (nlq _) o;have A:=ag E;clear E;go_enter Tryz.func257,Tryz.ntmps257;go_wp2_with fail;refine (zdj _ B _ l (HV.o.keptSl (Kp.below ((A.o _).mono N)) fun _ _ h=>h) (by simp;omega) 304 _ (fun x=>!p x) (fun args w=>by kernel_rfl) ?_).mono ?_
 ·intro x hx u W O X;have D:Below w.heap.size w W:=(A.o _).trans (O.mono (by simp));refine zdk W B w.heap.size g first cap x u (p x) X ((O.cell (p:=⟨w.heap.size,0,none⟩) (by simp)).trans (by simp [go_sem])) I.o ?_
  intro J F;exact HC.o x hx u J (D.trans (F.mono D.size)) (X.below (F.mono (lt3 N D.size)))
 rintro r w1 ⟨rfl,V⟩;have L:Below w.heap.size w w1:=(A.o _).trans (V.mono (by simp));have Z:=ag (zcl p l);clear V;go_wp2_with fail;go_ret;exact ⟨by rw [<-Z.o];rfl,L⟩
end Go.Proofs.YtjdnmblggdobgaaGreat
