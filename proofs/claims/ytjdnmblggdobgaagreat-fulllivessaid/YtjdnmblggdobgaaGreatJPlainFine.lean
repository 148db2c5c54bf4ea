import Derived.WalkKit
import Derived.Laws.BitsAllLaws
import Derived.Laws.DeepBits32
namespace Go.Proofs.YtjdnmblggdobgaaGreat
open Go.RowKit
theorem ws0 (n:Int) (h0:0<=n) (h1:n<9223372036854775808):IntKind.i64.wrap n=n:=by
 rw [IntKind.wrap_i64]
 omega
def bt (s:ByteArray) (i:Nat):Nat:=if h:i<s.size then s[i].toNat else 0
theorem bt_eq (s:ByteArray) (i:Nat) (h:i<s.size):bt s i=s[i].toNat:=by simp [bt,h]
structure KindD where
 kind:Int
 cls:ByteArray
structure FieldD where
 name:ByteArray
 kind:KindD
structure HandD where
 frm:Int
 upto:Int
 loc:Int
 cls:ByteArray
structure MethD where
 name:ByteArray
 static:Bool
 args:List KindD
 ret:KindD
 stack:Int
 locals:Int
 code:ByteArray
 hands:List HandD
structure ClassD where
 name:ByteArray
 super:ByteArray
 fields:List FieldD
 meths:List MethD
def nameByte (b:Nat):Bool:=(decide (97<=b)&&decide (b<=122))||(decide (65<=b)&&decide (b<=90))||(decide (48<=b)&&decide (b<=57))||decide (b=95)
def nameAll (s:ByteArray):Bool:=(List.range s.size).all fun i=>nameByte (bt s i)
def isNameB (s:ByteArray):Bool:=decide (1<=s.size)&&decide (s.size<=20)&&nameAll s
theorem zan {s:ByteArray} {i:Nat} (hi:i<s.size) (h:nameByte (bt s i)=false):nameAll s=false:=by
 rw [nameAll,List.all_eq_false]
 exact ⟨i,by simpa using hi,by simp [h]⟩
theorem zao {s:ByteArray} (h:∀i,i<s.size->nameByte (bt s i)=true):nameAll s=true:=by
 rw [nameAll,List.all_eq_true]
 intro i hi
 exact h i (by simpa using hi)
def hasCls (n:Int):Bool:=decide (n=3)||decide (n=4)
def rightB (k:KindD):Bool:=if hasCls k.kind then isNameB k.cls else (decide (k.kind=1)||decide (k.kind=2))&&decide (k.cls.size=0)
def returnedB (k:KindD):Bool:=rightB k||(decide (k.kind=0)&&decide (k.cls.size=0))
def win (n most:Int):Bool:=decide (0<=n)&&decide (n<=most)
def dem (b:Bool) (e rest:Int):Int:=if b=true then rest else e
def thenE (e rest:Int):Int:=if e=0 then rest else e
def allE {α:Type} (f:α->Int):List α->Int
 | []=>0
 | x::l=>thenE (f x) (allE f l)
theorem zap {e r:Int} :dem true e r=r:=rfl
theorem zaq {e r:Int} :dem false e r=e:=rfl
theorem zar {α:Type} {f:α->Int} {l:List α} {k:Nat} (hk:k<l.length) (h:f l[k]≠0):allE f (l.drop k)=f l[k]:=by
 rw [List.drop_eq_getElem_cons hk,allE,thenE,if_neg h]
theorem zas {α:Type} {f:α->Int} {l:List α} {k:Nat} (hk:k<l.length) (h:f l[k]=0):allE f (l.drop k)=allE f (l.drop (k+1)):=by
 rw [List.drop_eq_getElem_cons hk,allE,thenE,if_pos h]
theorem zat {α:Type} {f:α->Int} {l:List α} {k:Nat} (hk:¬k<l.length):allE f (l.drop k)=0:=by
 rw [List.drop_of_length_le (by omega)]
 rfl
def checkField (f:FieldD):Int:=dem (isNameB f.name) 1 (dem (rightB f.kind) 7 0)
def checkHand (h:HandD):Int:=dem (isNameB h.cls) 1 (dem (win h.frm 200) 3 (dem (win h.upto 200) 3 (dem (win h.loc 200) 3 0)))
def checkArg (k:KindD):Int:=dem (rightB k) 7 0
def checkMeth (m:MethD):Int:=
 dem (isNameB m.name) 1 (dem (decide (m.args.length<=4)) 2 (dem (decide (m.code.size<=200)) 2 (dem (decide (m.hands.length<=4)) 2 (dem (win m.stack 10) 3 (dem (win m.locals 10) 3
  (thenE (allE checkArg m.args) (dem (returnedB m.ret) 7 (allE checkHand m.hands))))))))
def checkClass (c:ClassD):Int:=
 dem (isNameB c.name) 1 (dem (decide (c.super.size=0)||isNameB c.super) 1 (dem (decide (c.fields.length<=6)) 2 (dem (decide (c.meths.length<=8)) 2
  (thenE (allE checkField c.fields) (allE checkMeth c.meths)))))
def checkL (l:List ClassD):Int:=dem (decide (l.length<=10)) 2 (allE checkClass l)
structure TargD where
 cls:Int
 meth:Int
def cls0:ClassD:=⟨⟨#[]⟩,⟨#[]⟩,[],[]⟩
def clsAt (l:List ClassD) (n:Nat):ClassD:=l[n]?.getD cls0
theorem zay {l:List ClassD} {n:Nat} (h:n<l.length):clsAt l n=l[n]:=by simp [clsAt,h]
def num (l:List ClassD) (name:ByteArray):Int:=l.zipIdx.foldl (fun acc p=>if p.1.name=name then (p.2:Int) else acc) (-1)
theorem zaz (name:ByteArray):num [] name= -1:=rfl
theorem za0 (l:List ClassD) (c:ClassD) (name:ByteArray):num (l++ [c]) name=if c.name=name then (l.length:Int) else num l name:=by
 unfold num
 rw [List.zipIdx_append,List.foldl_append]
 simp
theorem za1 {α:Type} {P:List α->Prop} (h0:P []) (h1:∀l x,P l->P (l++ [x])) (l:List α):P l:=by
 have h:∀r:List α,P r.reverse:=fun r=>by
  induction r with
  | nil=>exact h0
  | cons x r ih=>rw [List.reverse_cons];exact h1 _ _ ih
 have:=h l.reverse
 rwa [List.reverse_reverse]at this
theorem za2 (l:List ClassD) (name:ByteArray): -1<=num l name/\num l name<l.length:=by
 induction l using za1 with
 | h0=>rw [zaz];simp
 | h1 l c ih=>
   rw [za0,List.length_append]
   split<;>simp<;>omega
def supAt (l:List ClassD) (n:Nat):Int:=num l (clsAt l n).super
def climb (l:List ClassD):Nat->Int->List Nat
 | 0,_=>[]
 | f+1,n=>if 0<=n then n.toNat::climb l f (supAt l n.toNat) else []
def lineOf (l:List ClassD) (n:Nat):List Nat:=(climb l (l.length+1) n).reverse
def fieldsOf (l:List ClassD) (n:Nat):List FieldD:=(lineOf l n).flatMap fun k=>(clsAt l k).fields
def idxS (l:List ByteArray) (s:ByteArray):Int:=match l.findIdx? (fun x=>decide (x=s))with | some i=>i | none=>-1
def tabStep (acc:List ByteArray×List TargD) (x:ByteArray×TargD):List ByteArray×List TargD:=
 if 0<=idxS acc.1 x.1 then (acc.1,acc.2.set (idxS acc.1 x.1).toNat x.2) else (acc.1++ [x.1],acc.2++ [x.2])
def ownT (l:List ClassD) (n:Nat):List (ByteArray×TargD):=(clsAt l n).meths.zipIdx.map fun p=>(p.1.name,⟨n,p.2⟩)
def tableOf (l:List ClassD) (n:Nat):List ByteArray×List TargD:=((lineOf l n).flatMap (ownT l)).foldl tabStep ([],[])
def namesOf (l:List ClassD) (n:Nat):List ByteArray:=(tableOf l n).1
def targetsOf (l:List ClassD) (n:Nat):List TargD:=(tableOf l n).2
def topName:ByteArray:=⟨#[79,98,106,101,99,116]⟩
def errName:ByteArray:=⟨#[69,114,114,111,114]⟩
def hasC (l:List ClassD) (s:ByteArray):Bool:=decide (0<=num l s)
def knowsK (l:List ClassD) (k:KindD):Bool:=decide (k.cls=(⟨#[]⟩:ByteArray))||hasC l k.cls
def knowsM (l:List ClassD) (m:MethD):Bool:=m.args.all (knowsK l)&&knowsK l m.ret&&m.hands.all (fun h=>hasC l h.cls)
def sameK (a b:KindD):Bool:=decide (a.kind=b.kind)&&decide (a.cls=b.cls)
def differF (p:Bool×List ByteArray) (x:ByteArray):Bool×List ByteArray:=(p.1&&p.2.all (fun y=>!decide (x=y)),p.2++ [x])
def differB (l:List ByteArray):Bool:=(l.foldl differF (true,[])).1
theorem za3 (l:List ByteArray):(l.foldl differF (true,[])).2=l:=by
 induction l using za1 with
 | h0=>rfl
 | h1 l x ih=>rw [List.foldl_append];show (l.foldl differF (true,[])).2++ [x]=_;rw [ih]
theorem za4 (l:List ByteArray) (x:ByteArray):differB (l++ [x])=(differB l&&l.all (fun y=>!decide (x=y))):=by
 unfold differB
 rw [List.foldl_append]
 show ((l.foldl differF (true,[])).1&&(l.foldl differF (true,[])).2.all _)=_
 rw [za3]
theorem za5 {s t:ByteArray} (h:s.data.toList=t.data.toList):s=t:=by
 cases s
 cases t
 congr
 exact Array.toList_inj.1 h
theorem za6 (l:List ClassD) (s:ByteArray):decide (0<=num l s)=l.any (fun c=>decide (s=c.name)):=by
 induction l using za1 with
 | h0=>rfl
 | h1 l c ih=>
   rw [za0,List.any_append,<-ih]
   by_cases h:c.name=s
   ·
    simp [h]
   rw [if_neg h]
   simp [Ne.symm h]
theorem za7 (l:List ClassD) (c:ClassD):differB ((l++ [c]).map (·.name))=(differB (l.map (·.name))&& !decide (0<=num l c.name)):=by
 rw [List.map_append,List.map_cons,List.map_nil,za4,za6,List.all_map,List.not_any_eq_all_not]
 rfl
def askNames (l:List ClassD):Bool:=differB (l.map (·.name))
def askTop (l:List ClassD):Bool:=hasC l topName&&hasC l errName
def askUpper (l:List ClassD):Bool:=l.all fun c=>(decide (c.name=topName))==(decide (c.super=(⟨#[]⟩:ByteArray)))
def askSupers (l:List ClassD):Bool:=l.all fun c=>decide (c.super=(⟨#[]⟩:ByteArray))||hasC l c.super
def askNone (l:List ClassD):Bool:=(List.range l.length).all fun i=>decide ((lineOf l i).length<=l.length)
def askError (l:List ClassD):Bool:=
 decide (supAt l (num l errName).toNat=num l topName)&&(match fieldsOf l (num l errName).toNat with | []=>false | f::_=>sameK f.kind ⟨1,⟨#[]⟩⟩)
def askTold (l:List ClassD):Bool:=l.all fun c=>(c.fields.all fun f=>knowsK l f.kind)&&c.meths.all (knowsM l)
def askParts (l:List ClassD):Bool:=((List.range l.length).all fun i=>differB ((fieldsOf l i).map (·.name)))&&l.all fun c=>differB (c.meths.map (·.name))
def askFew (l:List ClassD):Bool:=((List.range l.length).all fun i=>decide ((fieldsOf l i).length<=12))&&((List.range l.length).all fun i=>decide ((namesOf l i).length<=16))
theorem zgb {b:Bool} {e r:Int} (h:dem b e r=0) (he:e≠0):b=true/\r=0:=by
 cases b
 ·
  exact absurd h he
 exact ⟨rfl,h⟩
theorem zgc {e r:Int} (h:thenE e r=0):e=0/\r=0:=by
 unfold thenE at h
 by_cases he:e=0
 ·
  rw [if_pos he]at h
  exact ⟨he,h⟩
 rw [if_neg he]at h
 exact absurd h he
theorem zgd {α:Type} {f:α->Int} :∀ {l:List α},allE f l=0->∀x∈l,f x=0
 | [],_,x,hx=>by cases hx
 | y::l,h,x,hx=>by
   obtain ⟨h1,h2⟩:=zgc h
   rcases List.mem_cons.1 hx with rfl | hx
   ·
    exact h1
   exact zgd h2 x hx
theorem zge {s:ByteArray} (h:isNameB s=true):s.size<=20:=by
 simp [isNameB]at h
 omega
def FineK (k:KindD):Prop:=0<=k.kind/\k.kind<=4/\k.cls.size<=20/\(hasCls k.kind=false->k.cls.size=0)
def FineF (f:FieldD):Prop:=f.name.size<=20/\FineK f.kind
def FineH (h:HandD):Prop:=h.cls.size<=20/\(0<=h.frm/\h.frm<=200)/\(0<=h.upto/\h.upto<=200)/\(0<=h.loc/\h.loc<=200)
def FineM (m:MethD):Prop:=m.name.size<=20/\m.args.length<=4/\(∀k∈m.args,FineK k)/\FineK m.ret/\(0<=m.stack/\m.stack<=10)/\(0<=m.locals/\m.locals<=10)/\m.code.size<=200/\m.hands.length<=4/\∀h∈m.hands,FineH h
def FineC (c:ClassD):Prop:=c.name.size<=20/\c.super.size<=20/\c.fields.length<=6/\(∀f∈c.fields,FineF f)/\c.meths.length<=8/\∀m∈c.meths,FineM m
theorem zgf {n m:Int} (h:win n m=true):0<=n/\n<=m:=by
 simpa [win]using h
theorem zgg {k:KindD} (h:rightB k=true):FineK k:=by
 unfold rightB at h
 split at h
 ·
  rename_i hc
  have h2:=zge h
  refine ⟨?_,?_,h2,fun hn=>by rw [hc]at hn;cases hn⟩<;>simp [hasCls]at hc<;>omega
 rename_i hc
 simp only [Bool.and_eq_true,Bool.or_eq_true,decide_eq_true_eq]at h
 exact ⟨by omega,by omega,by omega,fun _=>h.2⟩
theorem zgh {k:KindD} (h:returnedB k=true):FineK k:=by
 rw [returnedB,Bool.or_eq_true]at h
 rcases h with h | h
 ·
  exact zgg h
 simp only [Bool.and_eq_true,decide_eq_true_eq]at h
 exact ⟨by omega,by omega,by omega,fun _=>h.2⟩
theorem zgi {f:FieldD} (h:checkField f=0):FineF f:=by
 obtain ⟨h1,h⟩:=zgb h (by decide)
 obtain ⟨h2,h⟩:=zgb h (by decide)
 exact ⟨zge h1,zgg h2⟩
theorem zgj {x:HandD} (h:checkHand x=0):FineH x:=by
 obtain ⟨h1,h⟩:=zgb h (by decide)
 obtain ⟨h2,h⟩:=zgb h (by decide)
 obtain ⟨h3,h⟩:=zgb h (by decide)
 obtain ⟨h4,h⟩:=zgb h (by decide)
 exact ⟨zge h1,zgf h2,zgf h3,zgf h4⟩
theorem zgk {m:MethD} (h:checkMeth m=0):FineM m:=by
 obtain ⟨h1,h⟩:=zgb h (by decide)
 obtain ⟨h2,h⟩:=zgb h (by decide)
 obtain ⟨h3,h⟩:=zgb h (by decide)
 obtain ⟨h4,h⟩:=zgb h (by decide)
 obtain ⟨h5,h⟩:=zgb h (by decide)
 obtain ⟨h6,h⟩:=zgb h (by decide)
 obtain ⟨h7,h⟩:=zgc h
 obtain ⟨h8,h⟩:=zgb h (by decide)
 exact ⟨zge h1,of_decide_eq_true h2,fun k hk=>zgg (zgb (zgd h7 k hk) (by decide)).1,zgh h8,zgf h5,zgf h6,of_decide_eq_true h3,of_decide_eq_true h4,fun x hx=>zgj (zgd h x hx)⟩
theorem zgl {c:ClassD} (h:checkClass c=0):FineC c:=by
 obtain ⟨h1,h⟩:=zgb h (by decide)
 obtain ⟨h2,h⟩:=zgb h (by decide)
 obtain ⟨h3,h⟩:=zgb h (by decide)
 obtain ⟨h4,h⟩:=zgb h (by decide)
 obtain ⟨h5,h⟩:=zgc h
 refine ⟨zge h1,?_,of_decide_eq_true h3,fun f hf=>zgi (zgd h5 f hf),of_decide_eq_true h4,fun m hm=>zgk (zgd h m hm)⟩
 rw [Bool.or_eq_true]at h2
 rcases h2 with h2 | h2
 ·
  have:=of_decide_eq_true h2
  omega
 exact zge h2
theorem zgm {l:List ClassD} (h:checkL l=0):l.length<=10/\∀c∈l,FineC c:=by
 obtain ⟨h1,h⟩:=zgb h (by decide)
 exact ⟨of_decide_eq_true h1,fun c hc=>zgl (zgd h c hc)⟩
end Go.Proofs.YtjdnmblggdobgaaGreat
