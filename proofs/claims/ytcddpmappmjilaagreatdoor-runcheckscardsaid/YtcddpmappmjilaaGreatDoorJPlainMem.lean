import Derived.WalkKit
import Derived.Laws.BitsAllLaws
import Derived.Laws.DeepBits32
import Derived.Test.YtcddpmappmjilaaGreatDoorChecked
import Derived.WalkLawsBesides
import Derived.WalkSpells
import Derived.BigQuiet
import Derived.Deep.QuietTactic
import Derived.Defers
import Derived.Recover
import Derived.Deep.LoopGhost
namespace Go.Proofs.YtcddpmappmjilaaGreatDoor
open Go.RowKit
theorem byte_w (x:UInt8):wrap64 (x.toNat:Int)=(x.toNat:Int):=by
 have:=x.toNat_lt
 unfold wrap64
 omega
theorem byte_w8 (x:UInt8):wrap64 ((x.toNat:Int)*256)=(x.toNat:Int)*256:=by
 have:=x.toNat_lt
 unfold wrap64
 omega
theorem or256 (a b:Nat) (hb:b<256):(a*256)|||b=a*256+b:=by
 have:=Nat.two_pow_add_eq_or_of_lt (i:=8) (b:=b) (by simpa using hb) a
 rw [Nat.mul_comm]at this
 simpa using this.symm
theorem wrap_i64_small (n:Int) (h0:0<=n) (h1:n<9223372036854775808):IntKind.i64.wrap n=n:=by
 rw [IntKind.wrap_i64]
 omega
theorem or_i64 (a b:Nat) (ha:a<256) (hb:b<256):bits .or .i64 ((a:Int)*256) (b:Int)=256*(a:Int)+b:=by
 have e:((a:Int)*256)=((a*256:Nat):Int):=by omega
 rw [e]
 show IntKind.i64.wrap ((BitVec.ofInt 64 ((a*256:Nat):Int)|||BitVec.ofInt 64 (b:Int)).toNat:Int)=_
 rw [BitVec.toNat_or,ofInt_u64 (a*256) (by omega),ofInt_u64 b (by omega),or256 a b hb,wrap_i64_small _ (by omega) (by omega)]
 omega
theorem ext_get (s:ByteArray) (p n i:Nat) (h:i<(s.extract p (p+n)).size) (h':p+i<s.size):(s.extract p (p+n))[i]=s[p+i]:=by
 exact ByteArray.getElem_extract h
def bt (s:ByteArray) (i:Nat):Nat:=if h:i<s.size then s[i].toNat else 0
theorem bt_eq (s:ByteArray) (i:Nat) (h:i<s.size):bt s i=s[i].toNat:=by simp [bt,h]
theorem bt_lt (s:ByteArray) (i:Nat):bt s i<256:=by
 unfold bt
 split
 ·
  exact UInt8.toNat_lt _
 omega
def sg (n:Int):Int:=if n<32768 then n else n - 65536
theorem sg_eq (a b:Nat) (ha:a<256) (hb:b<256):wrap64 (IntKind.i16.wrap (256*(a:Int)+b))=sg (256*(a:Int)+b):=by
 have e:IntKind.i16.wrap (256*(a:Int)+b)=sg (256*(a:Int)+b):=by
  simp [IntKind.wrap,IntKind.bits,IntKind.signed,sg]
  split<;>split<;>omega
 rw [e]
 unfold sg wrap64
 split<;>omega
def mOf:Nat->Nat | 1=>2 | 2=>2 | 3=>1 | 4=>2 | _=>0
def argA (k:Nat) (s:ByteArray) (p:Nat):Int:=
 if k=1 then sg (256*bt s (p+1)+bt s (p+2)) else if k=2 then 256*bt s (p+1)+bt s (p+2) else if k=3 then bt s (p+1) else if k=4 then bt s (p+1) else 0
def argB (k:Nat) (s:ByteArray) (p:Nat):Int:=if k=4 then bt s (p+2) else 0
end Go.Proofs.YtcddpmappmjilaaGreatDoor
namespace Go.Proofs.YtcddpmappmjilaaGreatDoor
open Go.RowKit
structure KindD where
 kind:Int
 cls:ByteArray
structure FieldD where
 name:ByteArray
 kind:KindD
structure HandD where
 frm:Int
 upto:Int
 loc:Int
 cls:ByteArray
structure MethD where
 name:ByteArray
 static:Bool
 args:List KindD
 ret:KindD
 stack:Int
 locals:Int
 code:ByteArray
 hands:List HandD
structure ClassD where
 name:ByteArray
 super:ByteArray
 fields:List FieldD
 meths:List MethD
def nameByte (b:Nat):Bool:=(decide (97<=b)&&decide (b<=122))||(decide (65<=b)&&decide (b<=90))||(decide (48<=b)&&decide (b<=57))||decide (b=95)
def nameAll (s:ByteArray):Bool:=(List.range s.size).all fun i=>nameByte (bt s i)
def isNameB (s:ByteArray):Bool:=decide (1<=s.size)&&decide (s.size<=20)&&nameAll s
theorem nameAll_no {s:ByteArray} {i:Nat} (hi:i<s.size) (h:nameByte (bt s i)=false):nameAll s=false:=by
 rw [nameAll,List.all_eq_false]
 exact ⟨i,by simpa using hi,by simp [h]⟩
theorem nameAll_ok {s:ByteArray} (h:∀i,i<s.size->nameByte (bt s i)=true):nameAll s=true:=by
 rw [nameAll,List.all_eq_true]
 intro i hi
 exact h i (by simpa using hi)
def hasCls (n:Int):Bool:=decide (n=3)||decide (n=4)
def rightB (k:KindD):Bool:=if hasCls k.kind then isNameB k.cls else (decide (k.kind=1)||decide (k.kind=2))&&decide (k.cls.size=0)
def returnedB (k:KindD):Bool:=rightB k||(decide (k.kind=0)&&decide (k.cls.size=0))
def win (n most:Int):Bool:=decide (0<=n)&&decide (n<=most)
def dem (b:Bool) (e rest:Int):Int:=if b=true then rest else e
def thenE (e rest:Int):Int:=if e=0 then rest else e
def allE {α:Type} (f:α->Int):List α->Int
 | []=>0
 | x::l=>thenE (f x) (allE f l)
theorem dem_true {e r:Int} :dem true e r=r:=rfl
theorem dem_false {e r:Int} :dem false e r=e:=rfl
theorem allE_no {α:Type} {f:α->Int} {l:List α} {k:Nat} (hk:k<l.length) (h:f l[k]≠0):allE f (l.drop k)=f l[k]:=by
 rw [List.drop_eq_getElem_cons hk,allE,thenE,if_neg h]
theorem allE_ok {α:Type} {f:α->Int} {l:List α} {k:Nat} (hk:k<l.length) (h:f l[k]=0):allE f (l.drop k)=allE f (l.drop (k+1)):=by
 rw [List.drop_eq_getElem_cons hk,allE,thenE,if_pos h]
theorem allE_end {α:Type} {f:α->Int} {l:List α} {k:Nat} (hk:¬k<l.length):allE f (l.drop k)=0:=by
 rw [List.drop_of_length_le (by omega)]
 rfl
def checkField (f:FieldD):Int:=dem (isNameB f.name) 1 (dem (rightB f.kind) 7 0)
def checkHand (h:HandD):Int:=dem (isNameB h.cls) 1 (dem (win h.frm 200) 3 (dem (win h.upto 200) 3 (dem (win h.loc 200) 3 0)))
def checkArg (k:KindD):Int:=dem (rightB k) 7 0
def checkMeth (m:MethD):Int:=
 dem (isNameB m.name) 1 (dem (decide (m.args.length<=4)) 2 (dem (decide (m.code.size<=200)) 2 (dem (decide (m.hands.length<=4)) 2 (dem (win m.stack 10) 3 (dem (win m.locals 10) 3
  (thenE (allE checkArg m.args) (dem (returnedB m.ret) 7 (allE checkHand m.hands))))))))
def checkClass (c:ClassD):Int:=
 dem (isNameB c.name) 1 (dem (decide (c.super.size=0)||isNameB c.super) 1 (dem (decide (c.fields.length<=6)) 2 (dem (decide (c.meths.length<=8)) 2
  (thenE (allE checkField c.fields) (allE checkMeth c.meths)))))
def checkL (l:List ClassD):Int:=dem (decide (l.length<=10)) 2 (allE checkClass l)
end Go.Proofs.YtcddpmappmjilaaGreatDoor
namespace Go.Proofs.YtcddpmappmjilaaGreatDoor
open Go.RowKit
theorem mkHid {p:Prop} (h:p):Hid p:=h
def SL {α:Type} (n:Nat) (R:(Nat->Prop)->World->List Value->α->Prop) (M:Nat->Prop) (w:World) (v:Value) (l:List α):Prop:=
 ∃ao cap,v=.slice ao l.length cap/\l.length<=cap/\l.length<=maxLen/\∀k (hk:k<l.length),∃b off cs,ao=some ⟨b,off,none⟩/\M b/\b<w.heap.size/\cs.length=n/\(∀j,j<n->w.cell? ⟨b,off+k*n+j,none⟩=cs[j]?)/\R M w cs l[k]
def RK (_:Nat->Prop) (_:World) (cs:List Value) (k:KindD):Prop:=cs= [.int .i64 k.kind,.string k.cls]/\k.cls.size<=maxLen
def RF (_:Nat->Prop) (_:World) (cs:List Value) (f:FieldD):Prop:=cs= [.string f.name,.int .i64 f.kind.kind,.string f.kind.cls]/\f.name.size<=maxLen/\f.kind.cls.size<=maxLen
def RH (_:Nat->Prop) (_:World) (cs:List Value) (h:HandD):Prop:=cs= [.int .i64 h.frm,.int .i64 h.upto,.int .i64 h.loc,.string h.cls]/\h.cls.size<=maxLen
def RM (M:Nat->Prop) (w:World) (cs:List Value) (m:MethD):Prop:=
 ∃va vh,cs= [.string m.name,.bool m.static,va,.int .i64 m.ret.kind,.string m.ret.cls,.int .i64 m.stack,.int .i64 m.locals,.string m.code,vh]/\SL 2 RK M w va m.args/\SL 4 RH M w vh m.hands/\
  m.name.size<=maxLen/\m.ret.cls.size<=maxLen/\m.code.size<=maxLen
def RC (M:Nat->Prop) (w:World) (cs:List Value) (c:ClassD):Prop:=
 ∃vf vm,cs= [.string c.name,.string c.super,vf,vm]/\SL 3 RF M w vf c.fields/\SL 9 RM M w vm c.meths/\c.name.size<=maxLen/\c.super.size<=maxLen
structure Kp (M:Nat->Prop) (w w':World):Prop where
 size:w.heap.size<=w'.heap.size
 block:∀b,M b->b<w.heap.size->w'.heap[b]? =w.heap[b]?
theorem Kp.below {B:Nat} {w w':World} (h:Below B w w'):Kp (· <B) w w':=⟨h.size,fun b hb _=>h.block b hb⟩
theorem SL.kept {α:Type} {n:Nat} {R:(Nat->Prop)->World->List Value->α->Prop} {M:Nat->Prop} {w w':World} {v:Value} {l:List α} (h:SL n R M w v l) (hk:Kp M w w')
 (hR:∀cs x,R M w cs x->R M w' cs x):SL n R M w' v l:=by
 obtain ⟨ao,cap,rfl,h1,h2,h3⟩:=h
 refine ⟨ao,cap,rfl,h1,h2,fun k hk'=>?_⟩
 obtain ⟨b,off,cs,e,hM,hb,hn,hc,hr⟩:=h3 k hk'
 exact ⟨b,off,cs,e,hM,Nat.lt_of_lt_of_le hb hk.size,hn,fun j hj=>(World.cell?_of_block (a:=⟨b,_,none⟩) (hk.block b hM hb)).trans (hc j hj),hR _ _ hr⟩
theorem SL.mono {α:Type} {n:Nat} {R:(Nat->Prop)->World->List Value->α->Prop} {M M':Nat->Prop} {w:World} {v:Value} {l:List α} (h:SL n R M w v l) (hM:∀b,M b->M' b)
 (hR:∀cs x,R M w cs x->R M' w cs x):SL n R M' w v l:=by
 obtain ⟨ao,cap,rfl,h1,h2,h3⟩:=h
 refine ⟨ao,cap,rfl,h1,h2,fun k hk'=>?_⟩
 obtain ⟨b,off,cs,e,hMb,hb,hn,hc,hr⟩:=h3 k hk'
 exact ⟨b,off,cs,e,hM b hMb,hb,hn,hc,hR _ _ hr⟩
theorem SL.keptK {M:Nat->Prop} {w w':World} {v:Value} {l:List KindD} (h:SL 2 RK M w v l) (hk:Kp M w w'):SL 2 RK M w' v l:=h.kept hk fun _ _ h=>h
theorem SL.keptF {M:Nat->Prop} {w w':World} {v:Value} {l:List FieldD} (h:SL 3 RF M w v l) (hk:Kp M w w'):SL 3 RF M w' v l:=h.kept hk fun _ _ h=>h
theorem SL.keptH {M:Nat->Prop} {w w':World} {v:Value} {l:List HandD} (h:SL 4 RH M w v l) (hk:Kp M w w'):SL 4 RH M w' v l:=h.kept hk fun _ _ h=>h
theorem RM.kept {M:Nat->Prop} {w w':World} {cs:List Value} {m:MethD} (h:RM M w cs m) (hk:Kp M w w'):RM M w' cs m:=by
 obtain ⟨va,vh,e,ha,hh,r⟩:=h
 exact ⟨va,vh,e,ha.keptK hk,hh.keptH hk,r⟩
theorem SL.keptM {M:Nat->Prop} {w w':World} {v:Value} {l:List MethD} (h:SL 9 RM M w v l) (hk:Kp M w w'):SL 9 RM M w' v l:=h.kept hk fun _ _ h=>h.kept hk
theorem RC.kept {M:Nat->Prop} {w w':World} {cs:List Value} {c:ClassD} (h:RC M w cs c) (hk:Kp M w w'):RC M w' cs c:=by
 obtain ⟨va,vh,e,ha,hh,r⟩:=h
 exact ⟨va,vh,e,ha.keptF hk,hh.keptM hk,r⟩
theorem SL.keptC {M:Nat->Prop} {w w':World} {v:Value} {l:List ClassD} (h:SL 4 RC M w v l) (hk:Kp M w w'):SL 4 RC M w' v l:=h.kept hk fun _ _ h=>h.kept hk
theorem SL.monoK {M M':Nat->Prop} {w:World} {v:Value} {l:List KindD} (h:SL 2 RK M w v l) (hM:∀b,M b->M' b):SL 2 RK M' w v l:=h.mono hM fun _ _ h=>h
theorem SL.monoF {M M':Nat->Prop} {w:World} {v:Value} {l:List FieldD} (h:SL 3 RF M w v l) (hM:∀b,M b->M' b):SL 3 RF M' w v l:=h.mono hM fun _ _ h=>h
theorem SL.monoH {M M':Nat->Prop} {w:World} {v:Value} {l:List HandD} (h:SL 4 RH M w v l) (hM:∀b,M b->M' b):SL 4 RH M' w v l:=h.mono hM fun _ _ h=>h
theorem RM.mono {M M':Nat->Prop} {w:World} {cs:List Value} {m:MethD} (h:RM M w cs m) (hM:∀b,M b->M' b):RM M' w cs m:=by
 obtain ⟨va,vh,e,ha,hh,r⟩:=h
 exact ⟨va,vh,e,ha.monoK hM,hh.monoH hM,r⟩
theorem SL.monoM {M M':Nat->Prop} {w:World} {v:Value} {l:List MethD} (h:SL 9 RM M w v l) (hM:∀b,M b->M' b):SL 9 RM M' w v l:=h.mono hM fun _ _ h=>h.mono hM
theorem RC.mono {M M':Nat->Prop} {w:World} {cs:List Value} {c:ClassD} (h:RC M w cs c) (hM:∀b,M b->M' b):RC M' w cs c:=by
 obtain ⟨va,vh,e,ha,hh,r⟩:=h
 exact ⟨va,vh,e,ha.monoF hM,hh.monoM hM,r⟩
theorem SL.monoC {M M':Nat->Prop} {w:World} {v:Value} {l:List ClassD} (h:SL 4 RC M w v l) (hM:∀b,M b->M' b):SL 4 RC M' w v l:=h.mono hM fun _ _ h=>h.mono hM
end Go.Proofs.YtcddpmappmjilaaGreatDoor
