import Derived.Test.YtjdnmblggdobgaaGreatAl
import Derived.WalkKit
import Derived.Laws.BitsAllLaws
import Derived.Laws.DeepBits32
namespace Go.Proofs.YtjdnmblggdobgaaGreat
open Go.RowKit
theorem ge (n:Int) (h0:0<=n) (h1:n<9223372036854775808):IntKind.i64.wrap n=n:=by rw [IntKind.wrap_i64];omega
def bt (s:ByteArray) (i:Nat):Nat:=if h:i<s.size then s[i].toNat else 0
theorem bt_eq (s:ByteArray) (i:Nat) (h:i<s.size):bt s i=s[i].toNat:=by simp [bt,h]
structure ew where
 kind:Int
 da:ByteArray
structure bo where
 name:ByteArray
 kind:ew
structure ii where
 frm:Int
 upto:Int
 loc:Int
 da:ByteArray
structure dx where
 name:ByteArray
 static:Bool
 args:List ew
 ret:ew
 stack:Int
 locals:Int
 code:ByteArray
 hands:List ii
structure am where
 name:ByteArray
 bq:ByteArray
 fields:List bo
 ar:List dx
def ck (b:Nat):Bool:=(decide (97<=b)&&decide (b<=122))||(decide (65<=b)&&decide (b<=90))||(decide (48<=b)&&decide (b<=57))||decide (b=95)
def jf (s:ByteArray):Bool:=(List.range s.size).all fun i=>ck (bt s i)
def db (s:ByteArray):Bool:=decide (1<=s.size)&&decide (s.size<=20)&&jf s
theorem zan {s:ByteArray} {i:Nat} (hi:i<s.size) (h:ck (bt s i)=false):jf s=false:=by rw [jf,List.all_eq_false];exact ⟨i,by simpa using hi,by simp [h]⟩
theorem zao {s:ByteArray} (h:∀i,i<s.size->ck (bt s i)=true):jf s=true:=by rw [jf,List.all_eq_true];intro i hi;exact h i (by simpa using hi)
def lh (n:Int):Bool:=decide (n=3)||decide (n=4)
def io (k:ew):Bool:=if lh k.kind then db k.da else (decide (k.kind=1)||decide (k.kind=2))&&decide (k.da.size=0)
def returnedB (k:ew):Bool:=io k||(decide (k.kind=0)&&decide (k.da.size=0))
def win (n most:Int):Bool:=decide (0<=n)&&decide (n<=most)
def mg (b:Bool) (e rest:Int):Int:=if b=true then rest else e
def ng (e rest:Int):Int:=if e=0 then rest else e
def gr {α:Type} (f:α->Int):List α->Int
 | []=>0
 | x::l=>ng (f x) (gr f l)
theorem mt {e r:Int} :mg true e r=r:=rfl
theorem oq {e r:Int} :mg false e r=e:=rfl
theorem zar {α:Type} {f:α->Int} {l:List α} {k:Nat} (u:k<l.length) (h:f l[k]≠0):gr f (l.drop k)=f l[k]:=by rw [List.drop_eq_getElem_cons u,gr,ng,if_neg h]
theorem zas {α:Type} {f:α->Int} {l:List α} {k:Nat} (u:k<l.length) (h:f l[k]=0):gr f (l.drop k)=gr f (l.drop (k+1)):=by rw [List.drop_eq_getElem_cons u,gr,ng,if_pos h]
theorem zat {α:Type} {f:α->Int} {l:List α} {k:Nat} (u:¬k<l.length):gr f (l.drop k)=0:=by rw [List.drop_of_length_le (by omega)];rfl
def fb (f:bo):Int:=mg (db f.name) 1 (mg (io f.kind) 7 0)
def ep (h:ii):Int:=mg (db h.da) 1 (mg (win h.frm 200) 3 (mg (win h.upto 200) 3 (mg (win h.loc 200) 3 0)))
def jr (k:ew):Int:=mg (io k) 7 0
def dr (m:dx):Int:=
 mg (db m.name) 1 (mg (decide (m.args.length<=4)) 2 (mg (decide (m.code.size<=200)) 2 (mg (decide (m.hands.length<=4)) 2 (mg (win m.stack 10) 3 (mg (win m.locals 10) 3
  (ng (gr jr m.args) (mg (returnedB m.ret) 7 (gr ep m.hands))))))))
def dy (c:am):Int:=
 mg (db c.name) 1 (mg (decide (c.bq.size=0)||db c.bq) 1 (mg (decide (c.fields.length<=6)) 2 (mg (decide (c.ar.length<=8)) 2
  (ng (gr fb c.fields) (gr dr c.ar)))))
def dt (l:List am):Int:=mg (decide (l.length<=10)) 2 (gr dy l)
structure cd where
 da:Int
 meth:Int
def cls0:am:=⟨⟨#[]⟩,⟨#[]⟩,[],[]⟩
def b8 (l:List am) (n:Nat):am:=l[n]?.getD cls0
theorem zay {l:List am} {n:Nat} (h:n<l.length):b8 l n=l[n]:=by simp [b8,h]
def num (l:List am) (name:ByteArray):Int:=l.zipIdx.foldl (fun acc p=>if p.1.name=name then (p.2:Int) else acc) (-1)
theorem zaz (u:ByteArray):num [] u= -1:=rfl
theorem za0 (l:List am) (c:am) (u:ByteArray):num (l++ [c]) u=if c.name=u then (l.length:Int) else num l u:=by unfold num;rw [List.zipIdx_append,List.foldl_append];simp
theorem za1 {α:Type} {P:List α->Prop} (h0:P []) (h1:∀l x,P l->P (l++ [x])) (l:List α):P l:=by
 have h:∀r:List α,P r.reverse:=fun r=>by
  induction r with
  | nil=>exact h0
  | cons x r ih=>rw [List.reverse_cons];exact h1 _ _ ih
 have:=h l.reverse;rwa [List.reverse_reverse]at this
theorem za2 (l:List am) (u:ByteArray): -1<=num l u/\num l u<l.length:=by
 induction l using za1 with
 | h0=>rw [zaz];simp
 | h1 l c ih=>
   rw [za0,List.length_append];split<;>simp<;>omega
def dj (l:List am) (n:Nat):Int:=num l (b8 l n).bq
def fy (l:List am):Nat->Int->List Nat
 | 0,_=>[]
 | f+1,n=>if 0<=n then n.toNat::fy l f (dj l n.toNat) else []
def di (l:List am) (n:Nat):List Nat:=(fy l (l.length+1) n).reverse
def fieldsOf (l:List am) (n:Nat):List bo:=(di l n).flatMap fun k=>(b8 l k).fields
def iu (l:List ByteArray) (s:ByteArray):Int:=match l.findIdx? (fun x=>decide (x=s))with | some i=>i | none=>-1
def ed (acc:List ByteArray×List cd) (x:ByteArray×cd):List ByteArray×List cd:=
 if 0<=iu acc.1 x.1 then (acc.1,acc.2.set (iu acc.1 x.1).toNat x.2) else (acc.1++ [x.1],acc.2++ [x.2])
def js (l:List am) (n:Nat):List (ByteArray×cd):=(b8 l n).ar.zipIdx.map fun p=>(p.1.name,⟨n,p.2⟩)
def jm (l:List am) (n:Nat):List ByteArray×List cd:=((di l n).flatMap (js l)).foldl ed ([],[])
def d9 (l:List am) (n:Nat):List ByteArray:=(jm l n).1
def d7 (l:List am) (n:Nat):List cd:=(jm l n).2
def fd:ByteArray:=⟨#[79,98,106,101,99,116]⟩
def f9:ByteArray:=⟨#[69,114,114,111,114]⟩
def kw (l:List am) (s:ByteArray):Bool:=decide (0<=num l s)
def gq (l:List am) (k:ew):Bool:=decide (k.da=(⟨#[]⟩:ByteArray))||kw l k.da
def li (l:List am) (m:dx):Bool:=m.args.all (gq l)&&gq l m.ret&&m.hands.all (fun h=>kw l h.da)
def dw (a b:ew):Bool:=decide (a.kind=b.kind)&&decide (a.da=b.da)
def differF (p:Bool×List ByteArray) (x:ByteArray):Bool×List ByteArray:=(p.1&&p.2.all (fun y=>!decide (x=y)),p.2++ [x])
def dc (l:List ByteArray):Bool:=(l.foldl differF (true,[])).1
theorem za3 (l:List ByteArray):(l.foldl differF (true,[])).2=l:=by
 induction l using za1 with
 | h0=>rfl
 | h1 l x ih=>rw [List.foldl_append];show (l.foldl differF (true,[])).2++ [x]=_;rw [ih]
theorem za4 (l:List ByteArray) (x:ByteArray):dc (l++ [x])=(dc l&&l.all (fun y=>!decide (x=y))):=by unfold dc;rw [List.foldl_append];show ((l.foldl differF (true,[])).1&&(l.foldl differF (true,[])).2.all _)=_;rw [za3]
theorem za5 {s t:ByteArray} (h:s.data.toList=t.data.toList):s=t:=by cases s;cases t;congr;exact Array.toList_inj.1 h
theorem za6 (l:List am) (s:ByteArray):decide (0<=num l s)=l.any (fun c=>decide (s=c.name)):=by
 induction l using za1 with
 | h0=>rfl
 | h1 l c ih=>
   rw [za0,List.any_append,<-ih];by_cases h:c.name=s
   ·simp [h]
   rw [if_neg h];simp [Ne.symm h]
theorem za7 (l:List am) (c:am):dc ((l++ [c]).map (·.name))=(dc (l.map (·.name))&& !decide (0<=num l c.name)):=by rw [List.map_append,List.map_cons,List.map_nil,za4,za6,List.all_map,List.not_any_eq_all_not];rfl
def dq (l:List am):Bool:=dc (l.map (·.name))
def ni (l:List am):Bool:=kw l fd&&kw l f9
def askUpper (l:List am):Bool:=l.all fun c=>(decide (c.name=fd))==(decide (c.bq=(⟨#[]⟩:ByteArray)))
def ld (l:List am):Bool:=l.all fun c=>decide (c.bq=(⟨#[]⟩:ByteArray))||kw l c.bq
def ik (l:List am):Bool:=(List.range l.length).all fun i=>decide ((di l i).length<=l.length)
def j9 (l:List am):Bool:=
 decide (dj l (num l f9).toNat=num l fd)&&(match fieldsOf l (num l f9).toNat with | []=>false | f::_=>dw f.kind ⟨1,⟨#[]⟩⟩)
def askTold (l:List am):Bool:=l.all fun c=>(c.fields.all fun f=>gq l f.kind)&&c.ar.all (li l)
def jb (l:List am):Bool:=((List.range l.length).all fun i=>dc ((fieldsOf l i).map (·.name)))&&l.all fun c=>dc (c.ar.map (·.name))
def la (l:List am):Bool:=((List.range l.length).all fun i=>decide ((fieldsOf l i).length<=12))&&((List.range l.length).all fun i=>decide ((d9 l i).length<=16))
theorem zgb {b:Bool} {e r:Int} (h:mg b e r=0) (u:e≠0):b=true/\r=0:=by
 cases b
 ·exact absurd h u
 exact ⟨rfl,h⟩
theorem zgc {e r:Int} (h:ng e r=0):e=0/\r=0:=by
 unfold ng at h;by_cases u:e=0
 ·rw [if_pos u]at h;exact ⟨u,h⟩
 rw [if_neg u]at h;exact absurd h u
theorem zgd {α:Type} {f:α->Int} :∀ {l:List α},gr f l=0->∀x∈l,f x=0
 | [],_,x,u=>by cases u
 | y::l,h,x,u=>by
   obtain ⟨h1,A⟩:=zgc h;rcases List.mem_cons.1 u with rfl | u
   ·exact h1
   exact zgd A x u
theorem zge {s:ByteArray} (h:db s=true):s.size<=20:=by simp [db]at h;omega
def FineK (k:ew):Prop:=0<=k.kind/\k.kind<=4/\k.da.size<=20/\(lh k.kind=false->k.da.size=0)
def FineF (f:bo):Prop:=f.name.size<=20/\FineK f.kind
def FineH (h:ii):Prop:=h.da.size<=20/\(0<=h.frm/\h.frm<=200)/\(0<=h.upto/\h.upto<=200)/\(0<=h.loc/\h.loc<=200)
def FineM (m:dx):Prop:=m.name.size<=20/\m.args.length<=4/\(∀k∈m.args,FineK k)/\FineK m.ret/\(0<=m.stack/\m.stack<=10)/\(0<=m.locals/\m.locals<=10)/\m.code.size<=200/\m.hands.length<=4/\∀h∈m.hands,FineH h
def FineC (c:am):Prop:=c.name.size<=20/\c.bq.size<=20/\c.fields.length<=6/\(∀f∈c.fields,FineF f)/\c.ar.length<=8/\∀m∈c.ar,FineM m
theorem zgf {n m:Int} (h:win n m=true):0<=n/\n<=m:=by simpa [win]using h
theorem zgg {k:ew} (h:io k=true):FineK k:=by
 unfold io at h;split at h
 ·rename_i hc;have A:=zge h;refine ⟨?_,?_,A,fun u=>by rw [hc]at u;cases u⟩<;>simp [lh]at hc<;>omega
 rename_i hc;simp only [Bool.and_eq_true,Bool.or_eq_true,decide_eq_true_eq]at h;exact ⟨by omega,by omega,by omega,fun _=>h.2⟩
theorem zgh {k:ew} (h:returnedB k=true):FineK k:=by
 rw [returnedB,Bool.or_eq_true]at h;rcases h with h | h
 ·exact zgg h
 simp only [Bool.and_eq_true,decide_eq_true_eq]at h;exact ⟨by omega,by omega,by omega,fun _=>h.2⟩
theorem zgi {f:bo} (h:fb f=0):FineF f:=by obtain ⟨h1,h⟩:=zgb h (by decide);obtain ⟨u,h⟩:=zgb h (by decide);exact ⟨zge h1,zgg u⟩
theorem zgj {x:ii} (h:ep x=0):FineH x:=by obtain ⟨h1,h⟩:=zgb h (by decide);obtain ⟨u,h⟩:=zgb h (by decide);obtain ⟨A,h⟩:=zgb h (by decide);obtain ⟨D,h⟩:=zgb h (by decide);exact ⟨zge h1,zgf u,zgf A,zgf D⟩
theorem zgk {m:dx} (h:dr m=0):FineM m:=by obtain ⟨h1,h⟩:=zgb h (by decide);obtain ⟨u,h⟩:=zgb h (by decide);obtain ⟨A,h⟩:=zgb h (by decide);obtain ⟨D,h⟩:=zgb h (by decide);obtain ⟨E,h⟩:=zgb h (by decide);obtain ⟨F,h⟩:=zgb h (by decide);obtain ⟨G,h⟩:=zgc h;obtain ⟨I,h⟩:=zgb h (by decide);exact ⟨zge h1,of_decide_eq_true u,fun k J=>zgg (zgb (zgd G k J) (by decide)).1,zgh I,zgf E,zgf F,of_decide_eq_true A,of_decide_eq_true D,fun x L=>zgj (zgd h x L)⟩
theorem zgl {c:am} (h:dy c=0):FineC c:=by
 obtain ⟨h1,h⟩:=zgb h (by decide);obtain ⟨u,h⟩:=zgb h (by decide);obtain ⟨A,h⟩:=zgb h (by decide);obtain ⟨D,h⟩:=zgb h (by decide);obtain ⟨E,h⟩:=zgc h;refine ⟨zge h1,?_,of_decide_eq_true A,fun f F=>zgi (zgd E f F),of_decide_eq_true D,fun m G=>zgk (zgd h m G)⟩;rw [Bool.or_eq_true]at u;rcases u with u | u
 ·have:=of_decide_eq_true u;omega
 exact zge u
theorem zgm {l:List am} (h:dt l=0):l.length<=10/\∀c∈l,FineC c:=by obtain ⟨h1,h⟩:=zgb h (by decide);exact ⟨of_decide_eq_true h1,fun c hc=>zgl (zgd h c hc)⟩
end Go.Proofs.YtjdnmblggdobgaaGreat
