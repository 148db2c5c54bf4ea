import Derived.Test.YtcddpmappmjilaaGreatDoorGrown
import Derived.Test.YtcddpmappmjilaaGreatDoorJChkLeafChkClass
import Derived.Test.YtcddpmappmjilaaGreatDoorJLDatVkP
import Derived.Maps.Own
import Derived.Maps.OwnOps
import Derived.Maps.OwnSet
import Derived.Maps.Views
import Derived.StringKeys
namespace Go.Proofs.YtcddpmappmjilaaGreatDoor
open Go.RowKit
theorem catch_idle (f:Addr) (w:World):
 CallsD Tryz.prog 30 #[.pointer (some f)] .returning w fun e u' w'=>e=.returned (.tuple #[])/\u'=.returning/\w'=w:=by
 refine callsD_of_wpS Tryz.func30 rfl fun c₀ cs hu=>?_
 apply wpS_seq
 apply wpS_region
 simp [wpOpsS,go_sem,recoverD,hu,Tryz.ntmps30,Exit.thenS]
 have e:(#[Value.pointer (some f)]++((Array.replicate 16 undef).setIfInBounds 3 Value.nilIface).setIfInBounds 0 Value.nilIface)=#[.pointer (some f),.nilIface,undef,undef,.nilIface,undef,undef,undef,undef,undef,undef,undef,undef,undef,undef,undef,undef]:=rfl
 rw [e]
 refine wpS_of_wp ?_
 go_wp2
 refine ⟨rfl,.returning,?_,_,(results_none rfl _ _ _),rfl,rfl,rfl⟩
 cases c₀
 simp_all
theorem assert57 (x:Value) (w:World):(Instr.typeAssert (.iface 87 x) 20 87 true).run Tryz.prog w=.ok (.tuple #[x,.bool true]) w:=by kernel_rfl
theorem eqlNil (x:Value) (w:World):(binOp BinOp.eql 20 (.iface 87 x) .nilIface).run Tryz.prog w=.ok (.bool false) w:=by kernel_rfl
set_option maxHeartbeats 1000000 in
theorem catch_panicking (b:Nat) (x y:Value) (e p:Int) (w:World) (h0:w.cell? ⟨b,0,none⟩=some x) (h1:w.cell? ⟨b,1,none⟩=some y) (f0:w.frozen? ⟨b,0,none⟩=false) (f1:w.frozen? ⟨b,1,none⟩=false):
 CallsD Tryz.prog 30 #[.pointer (some ⟨b,0,none⟩)] (.panicking [wrongV e p]) w fun r u' w'=>r=.returned (.tuple #[])/\u'=.panicking [{ wrongV e p with recovered:=true }]/\
  w'=((w.setCell ⟨b,0,none⟩ (.int .i64 e)).setCell ⟨b,1,none⟩ (.int .i64 p)).alloc (.cells #[.int .i64 e,.int .i64 p] 87):=by
 have hb:b<w.heap.size:=World.block_lt_of_cell? w _ h0
 have k1:=assert57 (.agg #[.int .i64 e,.int .i64 p])
 have k2:=eqlNil (.agg #[.int .i64 e,.int .i64 p])
 refine callsD_of_wpS Tryz.func30 rfl fun c₀ cs hu=>?_
 apply wpS_seq
 apply wpS_region
 simp [wpOpsS,go_sem,recoverD,hu,Tryz.ntmps30,Exit.thenS]
 generalize hv:Value.iface 87 (.agg #[.int .i64 e,.int .i64 p])=V
 have ee:(#[Value.pointer (some ⟨b,0,none⟩)]++((Array.replicate 16 undef).setIfInBounds 3 V).setIfInBounds 0 V)=#[.pointer (some ⟨b,0,none⟩),V,undef,undef,V,undef,undef,undef,undef,undef,undef,undef,undef,undef,undef,undef,undef]:=rfl
 rw [ee]
 clear ee
 subst hv
 refine wpS_of_wp ?_
 clear hu
 go_wp2_with fail
 exact ⟨rfl,_,rfl,_,results_none rfl _ _ _,rfl,rfl,rfl⟩
theorem fault_world (w1:World) (N:Nat) (e p:Int) (o:Obj) {x y:Value} (n0:w1.cell? ⟨N,0,none⟩=some x) (n1:w1.cell? ⟨N,1,none⟩=some y):
 w1.grownBy (((w1.setCell ⟨N,0,none⟩ (.int .i64 e)).setCell ⟨N,1,none⟩ (.int .i64 p)).alloc o) (some N)/\
 (((w1.setCell ⟨N,0,none⟩ (.int .i64 e)).setCell ⟨N,1,none⟩ (.int .i64 p)).alloc o).cell? ⟨N,0,none⟩=some (.int .i64 e)/\
 (((w1.setCell ⟨N,0,none⟩ (.int .i64 e)).setCell ⟨N,1,none⟩ (.int .i64 p)).alloc o).cell? ⟨N,1,none⟩=some (.int .i64 p):=by
 have hlt:N<w1.heap.size:=World.block_lt_of_cell? w1 _ n0
 refine ⟨?_,?_,?_⟩
 ·
  refine grown_alloc ?_ _
  refine grown_set ?_ _ _ (Or.inl rfl)
  refine grown_set ?_ _ _ (Or.inl rfl)
  exact World.grownBy.refl _ _
 ·
  rw [World.cell?_alloc_past _ _ _ (by simpa [World.setCell]using hlt),World.cell?_setCell_other _ _ _ _ (by simp),World.cell?_setCell_same _ _ _ n0]
 rw [World.cell?_alloc_past _ _ _ (by simpa [World.setCell]using hlt)]
 exact World.cell?_setCell_same _ _ _ ((World.cell?_setCell_other _ _ _ _ (by simp)).trans n1)
set_option maxHeartbeats 1000000 in
theorem caught_any (g:Nat) (cap:Array Value) (w:World) (Ok:World->Prop) (No:Int->Int->World->Prop) (hcf:∀w,(callFunc g cap).run Tryz.prog w=.ok (.enter g cap) w)
 (hc:Calls Tryz.prog g cap (w.alloc (.cells #[.int .i64 0,.int .i64 0] 50)) fun r w1=>w1.heap[w.heap.size]? =some (.cells #[.int .i64 0,.int .i64 0] 50 (0,0))/\
  ((r=.returned (.tuple #[])/\Ok w1)\/∃e p,r=.panicked [wrongV e p]/\No e p w1)):
 Calls Tryz.prog 13 #[.func (.func g) #[] cap] w fun r w'=>∃w1,w1.grownBy w' (some w.heap.size)/\
  ((r=.returned (.agg #[.int .i64 0,.int .i64 0])/\Ok w1)\/∃e p,r=.returned (.agg #[.int .i64 e,.int .i64 p])/\No e p w1):=by
 have hmf:∀(fn:Fn) (first cap:Array Value) (w:World),(Instr.makeFunc fn first cap).run Tryz.prog w=.ok (.func fn first cap) w:=fun _ _ _ _=>rfl
 have HC:Hid _:=hc
 clear hc
 go_enter_defers Tryz.func13,Tryz.ntmps13
 go_wp2_with fail
 refine Calls.mono HC.out ?_
 rintro r w1 ⟨hN,hr⟩
 have n0:w1.cell? ⟨w.heap.size,0,none⟩=some (.int .i64 0):=by simp [World.cell?,hN]
 have n1:w1.cell? ⟨w.heap.size,1,none⟩=some (.int .i64 0):=by simp [World.cell?,hN]
 have z0:w1.frozen? ⟨w.heap.size,0,none⟩=false:=by simp [World.frozen?,hN]
 have z1:w1.frozen? ⟨w.heap.size,1,none⟩=false:=by simp [World.frozen?,hN]
 clear hN
 rcases hr with ⟨rfl,hok⟩ | ⟨e,p,rfl,hno⟩
 ·
  go_wp2_with fail
  refine leaves_cons (f:=30) (args:=#[.pointer (some ⟨w.heap.size,0,none⟩)]) (by simp) (by simp [go_sem]) ?_
  refine (catch_idle ⟨w.heap.size,0,none⟩ _).mono ?_
  rintro r2 u' w'' ⟨rfl,rfl,rfl⟩
  show Leaves Tryz.prog Tryz.f13 _ _ [] FrameMode.returning _
  refine ⟨.agg #[.int .i64 0,.int .i64 0],?_,w1,?_,Or.inl ⟨rfl,hok⟩⟩
  ·
   simp [results,Tryz.results13,go_sem,n0,n1]
  exact grown_set (grown_set (World.grownBy.refl _ _) _ _ (Or.inl rfl)) _ _ (Or.inl rfl)
 refine leaves_cons (f:=30) (args:=#[.pointer (some ⟨w.heap.size,0,none⟩)]) (by simp) (by simp [go_sem]) ?_
 refine (catch_panicking w.heap.size _ _ e p _ n0 n1 z0 z1).mono ?_
 rintro r2 u' w'' ⟨rfl,rfl,rfl⟩
 obtain ⟨hg,q0,q1⟩:=fault_world w1 w.heap.size e p _ n0 n1
 show Leaves Tryz.prog Tryz.f13 _ _ [] FrameMode.returning _
 generalize ((w1.setCell ⟨w.heap.size,0,none⟩ (.int .i64 e)).setCell ⟨w.heap.size,1,none⟩ (.int .i64 p)).alloc (.cells #[.int .i64 e,.int .i64 p] 87)=W2 at*
 refine ⟨.agg #[.int .i64 e,.int .i64 p],?_,w1,hg,Or.inr ⟨e,p,rfl,hno⟩⟩
 simp [results,Tryz.results13,go_sem,q0,q1]
theorem fieldErr (a b:Int) (w:World):(Instr.field 50 (.agg #[.int .i64 a,.int .i64 b]) 0).run Tryz.prog w=.ok (.int .i64 a) w:=by kernel_rfl
theorem callCheck1 (args:Array Value) (w:World):(callFunc 82 args).run Tryz.prog w=.ok (.enter 82 args) w:=by kernel_rfl
theorem check1_any (w:World) (B:Nat) (P:Nat) (l:List ClassD) (v:Value) (hv:SL 4 RC (· <B) w v l) (hB:B<=w.heap.size) (hp:w.cell? ⟨P,0,none⟩=some v):
 Calls Tryz.prog 82 #[.pointer (some ⟨P,0,none⟩)] w fun r w'=>ChkOut (checkL l) r/\Below w.heap.size w w':=by
 have HV:=mkHid hv
 obtain ⟨ao,cl,rfl,-⟩:=hv
 go_enter Tryz.func82,Tryz.ntmps82
 go_wp2_with fail
 refine (checkClasses_any _ B l _ HV.out hB).mono ?_
 rintro r w1 ⟨⟨hc,rfl⟩ | ⟨hc,rfl⟩,hb⟩
 ·
  exact ⟨rfl,Or.inl ⟨hc,rfl⟩,hb⟩
 go_wp2
 go_end0
 exact ⟨Or.inr ⟨hc,rfl⟩,hb⟩
set_option maxHeartbeats 1000000 in
theorem Check_any (w:World) (B:Nat) (l:List ClassD) (v:Value) (hv:SL 4 RC (· <B) w v l) (hB':B<=w.heap.size):
 Calls Tryz.prog 58 #[v] w fun r w'=>r=.returned (.int .i64 (checkL l))/\Below w.heap.size w w':=by
 have hmf:∀(fn:Fn) (first cap:Array Value) (w:World),(Instr.makeFunc fn first cap).run Tryz.prog w=.ok (.func fn first cap) w:=fun _ _ _ _=>rfl
 have HV:=mkHid hv
 obtain ⟨ao,cl,rfl,-⟩:=hv
 have hB0:=(Below.refl w.heap.size w).alloc (Nat.le_refl _) (.cells #[.slice ao l.length cl] 22)
 have hB1:=hB0.alloc hB0.size (.cells #[.int .i64 0,.int .i64 0] 50)
 go_enter Tryz.func58,Tryz.ntmps58
 go_wp2_with fail
 refine (caught_any 82 _ _ (fun w1=>checkL l=0/\Below w.heap.size w w1) (fun e p w1=>checkL l=e/\Below w.heap.size w w1) (callCheck1 _) ?hc).mono ?_
 case hc=>
  refine (check1_any _ B w.heap.size l (.slice ao l.length cl) (HV.out.keptC (Kp.below (hB1.mono hB'))) (by simp;omega) (by simp [go_sem])).mono ?_
  rintro r w1 ⟨hr,hb⟩
  have hb':=hB1.trans (hb.mono (by simp;omega))
  refine ⟨?_,?_⟩
  ·
   rw [hb.block (w.alloc (.cells #[.slice ao l.length cl] 22)).heap.size (by simp)]
   show ((w.heap.push _).push _)[(w.heap.push _).size]? =_
   rw [Array.getElem?_push,if_pos rfl]
  rcases hr with ⟨hc,rfl⟩ | ⟨hc,rfl⟩
  ·
   exact Or.inr ⟨_,_,rfl,rfl,hb'⟩
  exact Or.inl ⟨rfl,hc,hb'⟩
 rintro r w2 ⟨w1,hg,hr⟩
 have hz:(w.alloc (.cells #[.slice ao l.length cl] 22)).heap.size=w.heap.size+1:=by simp
 rw [hz]at hg
 clear hB0 hB1 hz
 rcases hr with ⟨rfl,hc,hB⟩ | ⟨e,p,rfl,hc,hB⟩
 ·
  have HC:=mkHid hc
  have HB:=mkHid (below_of_grown hB hg (by omega))
  clear hc hg hB hmf hB'
  have hfd:=fieldErr
  go_wp2
  go_ret
  exact ⟨by rw [HC.out];rfl,HB.out⟩
 have HC:=mkHid hc
 have HB:=mkHid (below_of_grown hB hg (by omega))
 clear hc hg hB hmf hB'
 have hfd:=fieldErr
 go_wp2
 go_ret
 exact ⟨by rw [HC.out];rfl,HB.out⟩
end Go.Proofs.YtcddpmappmjilaaGreatDoor
namespace Go.Proofs.YtcddpmappmjilaaGreatDoor
open Go.RowKit Go.Maps
def RI (_:Nat->Prop) (_:World) (cs:List Value) (n:Int):Prop:=cs= [.int .i64 n]
def RO (_:Nat->Prop) (_:World) (cs:List Value) (n:Nat):Prop:=cs= [.int .i64 n]
def RS (_:Nat->Prop) (_:World) (cs:List Value) (s:ByteArray):Prop:=cs= [.string s]/\s.size<=maxLen
def RT (_:Nat->Prop) (_:World) (cs:List Value) (t:TargD):Prop:=cs= [.int .i64 t.cls,.int .i64 t.meth]
def RSl {α:Type} (n:Nat) (R:(Nat->Prop)->World->List Value->α->Prop) (M:Nat->Prop) (w:World) (cs:List Value) (x:List α):Prop:=∃v,cs= [v]/\SL n R M w v x
theorem SL.keptI {M:Nat->Prop} {w w':World} {v:Value} {l:List Int} (h:SL 1 RI M w v l) (hk:Kp M w w'):SL 1 RI M w' v l:=h.kept hk fun _ _ h=>h
theorem SL.keptO {M:Nat->Prop} {w w':World} {v:Value} {l:List Nat} (h:SL 1 RO M w v l) (hk:Kp M w w'):SL 1 RO M w' v l:=h.kept hk fun _ _ h=>h
theorem SL.keptS {M:Nat->Prop} {w w':World} {v:Value} {l:List ByteArray} (h:SL 1 RS M w v l) (hk:Kp M w w'):SL 1 RS M w' v l:=h.kept hk fun _ _ h=>h
theorem SL.keptT {M:Nat->Prop} {w w':World} {v:Value} {l:List TargD} (h:SL 2 RT M w v l) (hk:Kp M w w'):SL 2 RT M w' v l:=h.kept hk fun _ _ h=>h
theorem SL.keptSl {α:Type} {n:Nat} {R:(Nat->Prop)->World->List Value->α->Prop} {M:Nat->Prop} {w w':World} {v:Value} {l:List (List α)} (h:SL 1 (RSl n R) M w v l) (hk:Kp M w w') (hR:∀cs x,R M w cs x->R M w' cs x):SL 1 (RSl n R) M w' v l:=
 h.kept hk fun _ _ ⟨v,e,hs⟩=>⟨v,e,hs.kept hk hR⟩
theorem SL.monoI {M M':Nat->Prop} {w:World} {v:Value} {l:List Int} (h:SL 1 RI M w v l) (hM:∀b,M b->M' b):SL 1 RI M' w v l:=h.mono hM fun _ _ h=>h
theorem SL.monoO {M M':Nat->Prop} {w:World} {v:Value} {l:List Nat} (h:SL 1 RO M w v l) (hM:∀b,M b->M' b):SL 1 RO M' w v l:=h.mono hM fun _ _ h=>h
theorem SL.monoS {M M':Nat->Prop} {w:World} {v:Value} {l:List ByteArray} (h:SL 1 RS M w v l) (hM:∀b,M b->M' b):SL 1 RS M' w v l:=h.mono hM fun _ _ h=>h
theorem SL.monoT {M M':Nat->Prop} {w:World} {v:Value} {l:List TargD} (h:SL 2 RT M w v l) (hM:∀b,M b->M' b):SL 2 RT M' w v l:=h.mono hM fun _ _ h=>h
theorem SL.monoSl {α:Type} {n:Nat} {R:(Nat->Prop)->World->List Value->α->Prop} {M M':Nat->Prop} {w:World} {v:Value} {l:List (List α)} (h:SL 1 (RSl n R) M w v l) (hM:∀b,M b->M' b) (hR:∀cs x,R M w cs x->R M' w cs x):SL 1 (RSl n R) M' w v l:=
 h.mono hM fun _ _ ⟨v,e,hs⟩=>⟨v,e,hs.mono hM hR⟩
theorem SL.atI {M:Nat->Prop} {w:World} {ao:Option Addr} {len cap:Nat} {l:List Int} (h:SL 1 RI M w (.slice ao len cap) l) (k:Nat) (hk:k<l.length):
 ∃b off,ao=some ⟨b,off,none⟩/\b<w.heap.size/\w.cell? ⟨b,off+k,none⟩=some (.int .i64 l[k]):=by
 obtain ⟨b,off,cs,e,_,hb,_,hc,rfl⟩:=h.at k hk
 exact ⟨b,off,e,hb,by have:=hc 0 (by decide);simpa using this⟩
theorem SL.atO {M:Nat->Prop} {w:World} {ao:Option Addr} {len cap:Nat} {l:List Nat} (h:SL 1 RO M w (.slice ao len cap) l) (k:Nat) (hk:k<l.length):
 ∃b off,ao=some ⟨b,off,none⟩/\b<w.heap.size/\w.cell? ⟨b,off+k,none⟩=some (.int .i64 l[k]):=by
 obtain ⟨b,off,cs,e,_,hb,_,hc,rfl⟩:=h.at k hk
 exact ⟨b,off,e,hb,by have:=hc 0 (by decide);simpa using this⟩
theorem SL.atS {M:Nat->Prop} {w:World} {ao:Option Addr} {len cap:Nat} {l:List ByteArray} (h:SL 1 RS M w (.slice ao len cap) l) (k:Nat) (hk:k<l.length):
 ∃b off,ao=some ⟨b,off,none⟩/\b<w.heap.size/\w.cell? ⟨b,off+k,none⟩=some (.string l[k])/\l[k].size<=maxLen:=by
 obtain ⟨b,off,cs,e,_,hb,_,hc,rfl,hs⟩:=h.at k hk
 exact ⟨b,off,e,hb,(by have:=hc 0 (by decide);simpa using this),hs⟩
theorem SL.atT {M:Nat->Prop} {w:World} {ao:Option Addr} {len cap:Nat} {l:List TargD} (h:SL 2 RT M w (.slice ao len cap) l) (k:Nat) (hk:k<l.length):
 ∃b off,ao=some ⟨b,off,none⟩/\b<w.heap.size/\w.cell? ⟨b,off+k*2,none⟩=some (.int .i64 l[k].cls)/\w.cell? ⟨b,off+k*2+1,none⟩=some (.int .i64 l[k].meth):=by
 obtain ⟨b,off,cs,e,_,hb,_,hc,rfl⟩:=h.at k hk
 exact ⟨b,off,e,hb,hc 0 (by decide),hc 1 (by decide)⟩
theorem SL.atSl {α:Type} {n:Nat} {R:(Nat->Prop)->World->List Value->α->Prop} {M:Nat->Prop} {w:World} {ao:Option Addr} {len cap:Nat} {l:List (List α)} (h:SL 1 (RSl n R) M w (.slice ao len cap) l) (k:Nat) (hk:k<l.length):
 ∃b off a c,ao=some ⟨b,off,none⟩/\b<w.heap.size/\w.cell? ⟨b,off+k,none⟩=some (.slice a l[k].length c)/\SL n R M w (.slice a l[k].length c) l[k]:=by
 obtain ⟨b,off,cs,e,_,hb,_,hc,v,rfl,hs⟩:=h.at k hk
 have hv:=hs
 obtain ⟨a,c,rfl,-⟩:=hv
 exact ⟨b,off,a,c,e,hb,(by have:=hc 0 (by decide);simpa using this),hs⟩
theorem tl_inj {s t:ByteArray} (h:s.toList=t.toList):s=t:=bytes_eq (by rwa [ByteArray.toList_eq,ByteArray.toList_eq]at h)
theorem tl_nil {s:ByteArray} (h:s.toList= []):s=⟨#[]⟩:=tl_inj (h.trans (by rw [ByteArray.toList_eq]))
theorem nil_tl {s:ByteArray} (h:s=⟨#[]⟩):s.toList= []:=by rw [h,ByteArray.toList_eq]
theorem law9:Keyed Tryz.prog 9:=string_keyed Tryz.underlying9
theorem zero3 (w:World):(zeroValue 3).run Tryz.prog w=.ok (.int .i64 0) w:=by kernel_rfl
def key (s:ByteArray):Lit:=.string s.data.toList
theorem isKey (s:ByteArray):WideAt.IsKeyLit (key s):=trivial
theorem key_inj {s t:ByteArray} (h:s≠t):key s≠key t:=fun e=>h (bytes_eq (by injection e))
structure NumD (l:List ClassD) (D:DataW Unit):Prop where
 has:∀s,Maps.has D (key s)=decide (0<=num l s)
 at_:∀s z,0<=num l s->D.atKey (key s) z=.lit (.int .i64 (num l s))
 le:Maps.size D<=l.length
 eq:Maps.size D=l.length↔askNames l=true
theorem numD_nil:NumD [] (.map []):=⟨fun s=>by rw [num_nil];rfl,fun s z h=>by rw [num_nil]at h;omega,Nat.le_refl _,by simp [askNames,differB,Maps.size]⟩
theorem numD_put {l:List ClassD} {D:DataW Unit} (h:NumD l D) (ht:Tidy D) (c:ClassD):NumD (l++ [c]) (D.put (key c.name) (.lit (.int .i64 l.length))):=by
 have hm:=ht.isMap
 refine ⟨fun s=>?_,fun s z hn=>?_,?_,?_⟩
 ·
  rw [num_snoc]
  by_cases e:c.name=s
  ·
   subst e
   rw [has_put_same hm (isKey _),if_pos rfl]
   simp
  rw [has_put_other (key_inj (Ne.symm e)),if_neg e,h.has]
 ·
  rw [num_snoc]at hn ⊢
  by_cases e:c.name=s
  ·
   subst e
   rw [atKey_put_same hm (isKey _),if_pos rfl]
  rw [if_neg e]at hn ⊢
  rw [atKey_put_other (key_inj (Ne.symm e)),h.at_ s z hn]
 ·
  have:=h.le
  rw [size_put ht,List.length_append]
  split<;>simp<;>omega
 have h1:=h.le
 have h2:=h.eq
 have h3:=h.has c.name
 rw [size_put ht,List.length_append,askNames,differ_names_snoc,h3]
 show _↔(askNames l&&_)=true
 by_cases e:0<=num l c.name
 ·
  simp [e]
  omega
 simp [e]
 exact h2
def NumMap (w:World) (b:Nat) (l:List ClassD):Prop:=∃D:DataW Unit,w.ownsMap Tryz.prog 9 (plainElem Tryz.prog 3) b l.length D/\NumD l D
theorem NumMap.lt {w:World} {b:Nat} {l:List ClassD} (h:NumMap w b l):b<w.heap.size:=by
 obtain ⟨D,h,_⟩:=h
 exact h.lt
theorem NumMap.kept {w w':World} {b:Nat} {l:List ClassD} (h:NumMap w b l) {row:Option Nat} (hg:w.grownBy w' row) (hne:some b≠row):NumMap w' b l:=by
 obtain ⟨D,h,hd⟩:=h
 exact ⟨D,h.kept hg hne,hd⟩
theorem NumMap.below {B:Nat} {w w':World} {b:Nat} {l:List ClassD} (h:NumMap w b l) (hb:Below B w w') (hB:b<B):NumMap w' b l:=by
 obtain ⟨D,⟨es,clock,e,h⟩,hd⟩:=h
 exact ⟨D,⟨es,clock,(hb.block b hB).trans e,h⟩,hd⟩
structure Web (B:Nat) (w:World) (b:Nat) (l:List ClassD) (vC vS vF vN vT vL:Value) (Bm:Nat):Prop where
 bB:b<B
 mB:Bm<B
 le:B<=w.heap.size
 blk:w.heap[b]? =some (.cells #[vC,vS,vF,vN,vT,.map (some Bm),vL] 107 (0,0))
 sC:SL 4 RC (· <B) w vC l
 sS:SL 1 RI (· <B) w vS ((List.range l.length).map (supAt l))
 sF:SL 1 (RSl 3 RF) (· <B) w vF ((List.range l.length).map (fieldsOf l))
 sN:SL 1 (RSl 1 RS) (· <B) w vN ((List.range l.length).map (namesOf l))
 sT:SL 1 (RSl 2 RT) (· <B) w vT ((List.range l.length).map (targetsOf l))
 sL:SL 1 (RSl 1 RO) (· <B) w vL ((List.range l.length).map (lineOf l))
 nm:NumMap w Bm l
theorem Web.below {B:Nat} {w w':World} {b:Nat} {l:List ClassD} {vC vS vF vN vT vL:Value} {Bm:Nat} (h:Web B w b l vC vS vF vN vT vL Bm) (hb:Below B w w'):Web B w' b l vC vS vF vN vT vL Bm:=
 ⟨h.bB,h.mB,Nat.le_trans h.le hb.size,(hb.block b h.bB).trans h.blk,h.sC.keptC (Kp.below hb),h.sS.keptI (Kp.below hb),h.sF.keptSl (Kp.below hb) fun _ _ h=>h,h.sN.keptSl (Kp.below hb) fun _ _ h=>h,h.sT.keptSl (Kp.below hb) fun _ _ h=>h,h.sL.keptSl (Kp.below hb) fun _ _ h=>h,h.nm.below hb h.mB⟩
theorem cell_of {W:World} {X t:Nat} {c:Array Value} (h:W.heap[X]? =some (.cells c t (0,0))) (j:Nat) {x:Value} (hx:c[j]? =some x):W.cell? ⟨X,j,none⟩=some x:=by
 simp [World.cell?,h,hx]
theorem frz_of {W:World} {X t:Nat} {c:Array Value} (h:W.heap[X]? =some (.cells c t (0,0))) (j:Nat):W.frozen? ⟨X,j,none⟩=false:=by simp [World.frozen?,h]
theorem lt_of {W:World} {X:Nat} {o:Obj} (h:W.heap[X]? =some o):X<W.heap.size:=(Array.getElem?_eq_some_iff.1 h).1
set_option maxHeartbeats 1000000 in
theorem number_any (w:World) (b Bm:Nat) (l:List ClassD) (s:ByteArray) (hm:w.cell? ⟨b,5,none⟩=some (.map (some Bm))) (hN:NumMap w Bm l) (hs:s.size<=maxLen):
 Calls Tryz.prog 85 #[.pointer (some ⟨b,0,none⟩),.string s] w fun r w'=>r=.returned (.int .i64 (num l s))/\w'=w:=by
 obtain ⟨D,hown,hD⟩:=hN
 have hkey:keyOf Tryz.prog 9 (.string s)=some (key s):=Go.WideMaps.keyOf_string_mk Tryz.underlying9 hs
 have HD:=mkHid hD
 have HK:=mkHid hkey
 clear hD hkey
 go_enter Tryz.func85,Tryz.ntmps85
 go_wp2_with (at_lookup;refine wpList_lookup_own_ok_int _ rfl _ _ 104 rfl 9 3 .i64 law9 Tryz.underlying104 Tryz.underlying3 (zero3 _) Bm l.length D rfl hown _ _ rfl HK.out ?_)
 intro c hat hw
 clear hw
 have HAT:=mkHid hat
 clear hat hown hm hs
 rw [HD.out.has s]
 by_cases h:0<=num l s
 ·
  have hd:decide (0<=num l s)=true:=by simp [h]
  have HE:Hid (c=num l s):=by
   have e:=HAT.out
   rw [HD.out.at_ s _ h]at e
   exact ((Lit.int.inj (DataW.lit.inj e)).2).symm
  rw [hd]
  clear h hd
  go_wp2
  go_ret
  exact ⟨by rw [HE.out];rfl,rfl⟩
 have hd:decide (0<=num l s)=false:=by simp [h]
 have HE:Hid (num l s= -1):=by
  have:=(num_le l s).1
  show num l s= -1
  omega
 rw [hd]
 clear h hd
 go_wp2
 go_ret
 exact ⟨by rw [HE.out];rfl,rfl⟩
end Go.Proofs.YtcddpmappmjilaaGreatDoor
