import Derived.Test.YtjdnmblggdobgaaGreatJPlainFine
import Derived.Test.YtjdnmblggdobgaaGreatJChkClassCatch
import Derived.Maps.Own
import Derived.Maps.OwnOps
import Derived.Maps.OwnSet
import Derived.Maps.Views
import Derived.StringKeys
set_option maxHeartbeats 1000000
namespace Go.Proofs.YtjdnmblggdobgaaGreat
open Go.RowKit Go.Maps
def RI (_:Nat->Prop) (_:World) (cs:List Value) (n:Int):Prop:=cs= [.int .i64 n]
def RO (_:Nat->Prop) (_:World) (cs:List Value) (n:Nat):Prop:=cs= [.int .i64 n]
def RS (_:Nat->Prop) (_:World) (cs:List Value) (s:ByteArray):Prop:=cs= [.string s]/\s.size<=maxLen
def RT (_:Nat->Prop) (_:World) (cs:List Value) (t:TargD):Prop:=cs= [.int .i64 t.cls,.int .i64 t.meth]
def RSl {α:Type} (n:Nat) (R:(Nat->Prop)->World->List Value->α->Prop) (M:Nat->Prop) (w:World) (cs:List Value) (x:List α):Prop:=∃v,cs= [v]/\SL n R M w v x
theorem SL.keptI {M:Nat->Prop} {w w':World} {v:Value} {l:List Int} (h:SL 1 RI M w v l) (hk:Kp M w w'):SL 1 RI M w' v l:=h.kept hk fun _ _ h=>h
theorem SL.keptO {M:Nat->Prop} {w w':World} {v:Value} {l:List Nat} (h:SL 1 RO M w v l) (hk:Kp M w w'):SL 1 RO M w' v l:=h.kept hk fun _ _ h=>h
theorem SL.keptS {M:Nat->Prop} {w w':World} {v:Value} {l:List ByteArray} (h:SL 1 RS M w v l) (hk:Kp M w w'):SL 1 RS M w' v l:=h.kept hk fun _ _ h=>h
theorem SL.keptT {M:Nat->Prop} {w w':World} {v:Value} {l:List TargD} (h:SL 2 RT M w v l) (hk:Kp M w w'):SL 2 RT M w' v l:=h.kept hk fun _ _ h=>h
theorem SL.keptSl {α:Type} {n:Nat} {R:(Nat->Prop)->World->List Value->α->Prop} {M:Nat->Prop} {w w':World} {v:Value} {l:List (List α)} (h:SL 1 (RSl n R) M w v l) (hk:Kp M w w') (hR:∀cs x,R M w cs x->R M w' cs x):SL 1 (RSl n R) M w' v l:=
 h.kept hk fun _ _ ⟨v,e,hs⟩=>⟨v,e,hs.kept hk hR⟩
theorem SL.monoI {M M':Nat->Prop} {w:World} {v:Value} {l:List Int} (h:SL 1 RI M w v l) (hM:∀b,M b->M' b):SL 1 RI M' w v l:=h.mono hM fun _ _ h=>h
theorem SL.monoO {M M':Nat->Prop} {w:World} {v:Value} {l:List Nat} (h:SL 1 RO M w v l) (hM:∀b,M b->M' b):SL 1 RO M' w v l:=h.mono hM fun _ _ h=>h
theorem SL.monoS {M M':Nat->Prop} {w:World} {v:Value} {l:List ByteArray} (h:SL 1 RS M w v l) (hM:∀b,M b->M' b):SL 1 RS M' w v l:=h.mono hM fun _ _ h=>h
theorem SL.monoT {M M':Nat->Prop} {w:World} {v:Value} {l:List TargD} (h:SL 2 RT M w v l) (hM:∀b,M b->M' b):SL 2 RT M' w v l:=h.mono hM fun _ _ h=>h
theorem SL.monoSl {α:Type} {n:Nat} {R:(Nat->Prop)->World->List Value->α->Prop} {M M':Nat->Prop} {w:World} {v:Value} {l:List (List α)} (h:SL 1 (RSl n R) M w v l) (hM:∀b,M b->M' b) (hR:∀cs x,R M w cs x->R M' w cs x):SL 1 (RSl n R) M' w v l:=
 h.mono hM fun _ _ ⟨v,e,hs⟩=>⟨v,e,hs.mono hM hR⟩
theorem SL.atI {M:Nat->Prop} {w:World} {ao:Option Addr} {len cap:Nat} {l:List Int} (h:SL 1 RI M w (.slice ao len cap) l) (k:Nat) (hk:k<l.length):
 ∃b off,ao=some ⟨b,off,none⟩/\b<w.heap.size/\w.cell? ⟨b,off+k,none⟩=some (.int .i64 l[k]):=by
 obtain ⟨b,off,cs,e,_,hb,_,hc,rfl⟩:=h.at k hk
 exact ⟨b,off,e,hb,by have:=hc 0 (by decide);simpa using this⟩
theorem SL.atO {M:Nat->Prop} {w:World} {ao:Option Addr} {len cap:Nat} {l:List Nat} (h:SL 1 RO M w (.slice ao len cap) l) (k:Nat) (hk:k<l.length):
 ∃b off,ao=some ⟨b,off,none⟩/\b<w.heap.size/\w.cell? ⟨b,off+k,none⟩=some (.int .i64 l[k]):=by
 obtain ⟨b,off,cs,e,_,hb,_,hc,rfl⟩:=h.at k hk
 exact ⟨b,off,e,hb,by have:=hc 0 (by decide);simpa using this⟩
theorem SL.atS {M:Nat->Prop} {w:World} {ao:Option Addr} {len cap:Nat} {l:List ByteArray} (h:SL 1 RS M w (.slice ao len cap) l) (k:Nat) (hk:k<l.length):
 ∃b off,ao=some ⟨b,off,none⟩/\b<w.heap.size/\w.cell? ⟨b,off+k,none⟩=some (.string l[k])/\l[k].size<=maxLen:=by
 obtain ⟨b,off,cs,e,_,hb,_,hc,rfl,hs⟩:=h.at k hk
 exact ⟨b,off,e,hb,(by have:=hc 0 (by decide);simpa using this),hs⟩
theorem SL.atT {M:Nat->Prop} {w:World} {ao:Option Addr} {len cap:Nat} {l:List TargD} (h:SL 2 RT M w (.slice ao len cap) l) (k:Nat) (hk:k<l.length):
 ∃b off,ao=some ⟨b,off,none⟩/\b<w.heap.size/\w.cell? ⟨b,off+k*2,none⟩=some (.int .i64 l[k].cls)/\w.cell? ⟨b,off+k*2+1,none⟩=some (.int .i64 l[k].meth):=by
 obtain ⟨b,off,cs,e,_,hb,_,hc,rfl⟩:=h.at k hk
 exact ⟨b,off,e,hb,hc 0 (by decide),hc 1 (by decide)⟩
theorem SL.atSl {α:Type} {n:Nat} {R:(Nat->Prop)->World->List Value->α->Prop} {M:Nat->Prop} {w:World} {ao:Option Addr} {len cap:Nat} {l:List (List α)} (h:SL 1 (RSl n R) M w (.slice ao len cap) l) (k:Nat) (hk:k<l.length):
 ∃b off a c,ao=some ⟨b,off,none⟩/\b<w.heap.size/\w.cell? ⟨b,off+k,none⟩=some (.slice a l[k].length c)/\SL n R M w (.slice a l[k].length c) l[k]:=by
 obtain ⟨b,off,cs,e,_,hb,_,hc,v,rfl,hs⟩:=h.at k hk
 have hv:=hs
 obtain ⟨a,c,rfl,-⟩:=hv
 exact ⟨b,off,a,c,e,hb,(by have:=hc 0 (by decide);simpa using this),hs⟩
theorem zb9 {s t:ByteArray} (h:s.toList=t.toList):s=t:=za5 (by rwa [ByteArray.toList_eq,ByteArray.toList_eq]at h)
theorem zca {s:ByteArray} (h:s.toList= []):s=⟨#[]⟩:=zb9 (h.trans (by rw [ByteArray.toList_eq]))
theorem zcb {s:ByteArray} (h:s=⟨#[]⟩):s.toList= []:=by rw [h,ByteArray.toList_eq]
theorem law9:Keyed Tryz.prog 9:=string_keyed Tryz.underlying9
theorem zero3 (w:World):(zeroValue 3).run Tryz.prog w=.ok (.int .i64 0) w:=by kernel_rfl
def key (s:ByteArray):Lit:=.string s.data.toList
theorem isKey (s:ByteArray):WideAt.IsKeyLit (key s):=trivial
theorem zcc {s t:ByteArray} (h:s≠t):key s≠key t:=fun e=>h (za5 (by injection e))
structure NumD (l:List ClassD) (D:DataW Unit):Prop where
 has:∀s,Maps.has D (key s)=decide (0<=num l s)
 at_:∀s z,0<=num l s->D.atKey (key s) z=.lit (.int .i64 (num l s))
 le:Maps.size D<=l.length
 eq:Maps.size D=l.length↔askNames l=true
theorem zcd:NumD [] (.map []):=⟨fun s=>by rw [zaz];rfl,fun s z h=>by rw [zaz]at h;omega,Nat.le_refl _,by simp [askNames,differB,Maps.size]⟩
theorem zce {l:List ClassD} {D:DataW Unit} (h:NumD l D) (ht:Tidy D) (c:ClassD):NumD (l++ [c]) (D.put (key c.name) (.lit (.int .i64 l.length))):=by
 have hm:=ht.isMap
 refine ⟨fun s=>?_,fun s z hn=>?_,?_,?_⟩
 ·
  rw [za0]
  by_cases e:c.name=s
  ·
   subst e
   rw [has_put_same hm (isKey _),if_pos rfl]
   simp
  rw [has_put_other (zcc (Ne.symm e)),if_neg e,h.has]
 ·
  rw [za0]at hn ⊢
  by_cases e:c.name=s
  ·
   subst e
   rw [atKey_put_same hm (isKey _),if_pos rfl]
  rw [if_neg e]at hn ⊢
  rw [atKey_put_other (zcc (Ne.symm e)),h.at_ s z hn]
 ·
  have:=h.le
  rw [size_put ht,List.length_append]
  split<;>simp<;>omega
 have h1:=h.le
 have h2:=h.eq
 have h3:=h.has c.name
 rw [size_put ht,List.length_append,askNames,za7,h3]
 show _↔(askNames l&&_)=true
 by_cases e:0<=num l c.name
 ·
  simp [e]
  omega
 simp [e]
 exact h2
def NumMap (w:World) (b:Nat) (l:List ClassD):Prop:=∃D:DataW Unit,w.ownsMap Tryz.prog 9 (plainElem Tryz.prog 3) b l.length D/\NumD l D
theorem NumMap.lt {w:World} {b:Nat} {l:List ClassD} (h:NumMap w b l):b<w.heap.size:=by
 obtain ⟨D,h,_⟩:=h
 exact h.lt
theorem NumMap.kept {w w':World} {b:Nat} {l:List ClassD} (h:NumMap w b l) {row:Option Nat} (hg:w.grownBy w' row) (hne:some b≠row):NumMap w' b l:=by
 obtain ⟨D,h,hd⟩:=h
 exact ⟨D,h.kept hg hne,hd⟩
theorem NumMap.below {B:Nat} {w w':World} {b:Nat} {l:List ClassD} (h:NumMap w b l) (hb:Below B w w') (hB:b<B):NumMap w' b l:=by
 obtain ⟨D,⟨es,clock,e,h⟩,hd⟩:=h
 exact ⟨D,⟨es,clock,(hb.block b hB).trans e,h⟩,hd⟩
structure Web (B:Nat) (w:World) (b:Nat) (l:List ClassD) (vC vS vF vN vT vL:Value) (Bm:Nat):Prop where
 bB:b<B
 mB:Bm<B
 le:B<=w.heap.size
 blk:w.heap[b]? =some (.cells #[vC,vS,vF,vN,vT,.map (some Bm),vL] 155 (0,0))
 sC:SL 4 RC (· <B) w vC l
 sS:SL 1 RI (· <B) w vS ((List.range l.length).map (supAt l))
 sF:SL 1 (RSl 3 RF) (· <B) w vF ((List.range l.length).map (fieldsOf l))
 sN:SL 1 (RSl 1 RS) (· <B) w vN ((List.range l.length).map (namesOf l))
 sT:SL 1 (RSl 2 RT) (· <B) w vT ((List.range l.length).map (targetsOf l))
 sL:SL 1 (RSl 1 RO) (· <B) w vL ((List.range l.length).map (lineOf l))
 nm:NumMap w Bm l
theorem Web.below {B:Nat} {w w':World} {b:Nat} {l:List ClassD} {vC vS vF vN vT vL:Value} {Bm:Nat} (h:Web B w b l vC vS vF vN vT vL Bm) (hb:Below B w w'):Web B w' b l vC vS vF vN vT vL Bm:=
 ⟨h.bB,h.mB,Nat.le_trans h.le hb.size,(hb.block b h.bB).trans h.blk,h.sC.keptC (Kp.below hb),h.sS.keptI (Kp.below hb),h.sF.keptSl (Kp.below hb) fun _ _ h=>h,h.sN.keptSl (Kp.below hb) fun _ _ h=>h,h.sT.keptSl (Kp.below hb) fun _ _ h=>h,h.sL.keptSl (Kp.below hb) fun _ _ h=>h,h.nm.below hb h.mB⟩
theorem cl0 {W:World} {X t:Nat} {c:Array Value} (h:W.heap[X]? =some (.cells c t (0,0))) (j:Nat) {x:Value} (hx:c[j]? =some x):W.cell? ⟨X,j,none⟩=some x:=by
 simp [World.cell?,h,hx]
theorem zcf {W:World} {X t:Nat} {c:Array Value} (h:W.heap[X]? =some (.cells c t (0,0))) (j:Nat):W.frozen? ⟨X,j,none⟩=false:=by simp [World.frozen?,h]
theorem lt0 {W:World} {X:Nat} {o:Obj} (h:W.heap[X]? =some o):X<W.heap.size:=(Array.getElem?_eq_some_iff.1 h).1
theorem zcg (w:World) (b Bm:Nat) (l:List ClassD) (s:ByteArray) (hm:w.cell? ⟨b,5,none⟩=some (.map (some Bm))) (hN:NumMap w Bm l) (hs:s.size<=maxLen):
 Calls Tryz.prog 199 #[.pointer (some ⟨b,0,none⟩),.string s] w fun r w'=>r=.returned (.int .i64 (num l s))/\w'=w:=by
 obtain ⟨D,hown,hD⟩:=hN
 have hkey:keyOf Tryz.prog 9 (.string s)=some (key s):=Go.WideMaps.keyOf_string_mk Tryz.underlying9 hs
 have HD:=mk0 hD
 have HK:=mk0 hkey
 clear hD hkey
 go_enter Tryz.func199,Tryz.ntmps199
 go_wp2_with (at_lookup;refine wpList_lookup_own_ok_int _ rfl _ _ 152 rfl 9 3 .i64 law9 Tryz.underlying152 Tryz.underlying3 (zero3 _) Bm l.length D rfl hown _ _ rfl HK.out ?_)
 intro c hat hw
 clear hw
 have HAT:=mk0 hat
 clear hat hown hm hs
 rw [HD.out.has s]
 by_cases h:0<=num l s
 ·
  have hd:decide (0<=num l s)=true:=by simp [h]
  have HE:Hid (c=num l s):=by
   have e:=HAT.out
   rw [HD.out.at_ s _ h]at e
   exact ((Lit.int.inj (DataW.lit.inj e)).2).symm
  rw [hd]
  clear h hd
  go_wp2
  go_ret
  exact ⟨by rw [HE.out];rfl,rfl⟩
 have hd:decide (0<=num l s)=false:=by simp [h]
 have HE:Hid (num l s= -1):=by
  have:=(za2 l s).1
  show num l s= -1
  omega
 rw [hd]
 clear h hd
 go_wp2
 go_ret
 exact ⟨by rw [HE.out];rfl,rfl⟩
end Go.Proofs.YtjdnmblggdobgaaGreat
