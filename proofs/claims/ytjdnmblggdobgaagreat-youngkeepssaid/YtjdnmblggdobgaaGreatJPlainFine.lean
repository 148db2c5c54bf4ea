import Derived.Test.YtjdnmblggdobgaaGreatAl
import Derived.WalkKit
import Derived.Laws.BitsAllLaws
import Derived.Laws.DeepBits32
namespace Go.Proofs.YtjdnmblggdobgaaGreat
open Go.RowKit
theorem fy (n:Int) (h0:0<=n) (h1:n<9223372036854775808):IntKind.i64.wrap n=n:=by rw [IntKind.wrap_i64];omega
def bt (s:ByteArray) (i:Nat):Nat:=if h:i<s.size then s[i].toNat else 0
theorem bt_eq (s:ByteArray) (i:Nat) (h:i<s.size):bt s i=s[i].toNat:=by simp [bt,h]
structure ew where
 kind:Int
 da:ByteArray
structure bg where
 name:ByteArray
 kind:ew
structure ic where
 frm:Int
 upto:Int
 loc:Int
 da:ByteArray
structure dx where
 name:ByteArray
 static:Bool
 args:List ew
 ret:ew
 stack:Int
 locals:Int
 code:ByteArray
 hands:List ic
structure ap where
 name:ByteArray
 bo:ByteArray
 fields:List bg
 ba:List dx
def cw (b:Nat):Bool:=(decide (97<=b)&&decide (b<=122))||(decide (65<=b)&&decide (b<=90))||(decide (48<=b)&&decide (b<=57))||decide (b=95)
def i5 (s:ByteArray):Bool:=(List.range s.size).all fun i=>cw (bt s i)
def db (s:ByteArray):Bool:=decide (1<=s.size)&&decide (s.size<=20)&&i5 s
theorem zan {s:ByteArray} {i:Nat} (A:i<s.size) (h:cw (bt s i)=false):i5 s=false:=by rw [i5,List.all_eq_false];exact ⟨i,by simpa using A,by simp [h]⟩
theorem zao {s:ByteArray} (h:∀i,i<s.size->cw (bt s i)=true):i5 s=true:=by rw [i5,List.all_eq_true];intro i A;exact h i (by simpa using A)
def ke (n:Int):Bool:=decide (n=3)||decide (n=4)
def ij (k:ew):Bool:=if ke k.kind then db k.da else (decide (k.kind=1)||decide (k.kind=2))&&decide (k.da.size=0)
def returnedB (k:ew):Bool:=ij k||(decide (k.kind=0)&&decide (k.da.size=0))
def win (n most:Int):Bool:=decide (0<=n)&&decide (n<=most)
def la (b:Bool) (e rest:Int):Int:=if b=true then rest else e
def mh (e rest:Int):Int:=if e=0 then rest else e
def gk {α:Type} (f:α->Int):List α->Int
 | []=>0
 | x::l=>mh (f x) (gk f l)
theorem li {e r:Int} :la true e r=r:=rfl
theorem nf {e r:Int} :la false e r=e:=rfl
theorem zar {α:Type} {f:α->Int} {l:List α} {k:Nat} (A:k<l.length) (h:f l[k]≠0):gk f (l.drop k)=f l[k]:=by rw [List.drop_eq_getElem_cons A,gk,mh,if_neg h]
theorem zas {α:Type} {f:α->Int} {l:List α} {k:Nat} (A:k<l.length) (h:f l[k]=0):gk f (l.drop k)=gk f (l.drop (k+1)):=by rw [List.drop_eq_getElem_cons A,gk,mh,if_pos h]
theorem zat {α:Type} {f:α->Int} {l:List α} {k:Nat} (A:¬k<l.length):gk f (l.drop k)=0:=by rw [List.drop_of_length_le (by omega)];rfl
def fc (f:bg):Int:=la (db f.name) 1 (la (ij f.kind) 7 0)
def et (h:ic):Int:=la (db h.da) 1 (la (win h.frm 200) 3 (la (win h.upto 200) 3 (la (win h.loc 200) 3 0)))
def jj (k:ew):Int:=la (ij k) 7 0
def dq (m:dx):Int:=
 la (db m.name) 1 (la (decide (m.args.length<=4)) 2 (la (decide (m.code.size<=200)) 2 (la (decide (m.hands.length<=4)) 2 (la (win m.stack 10) 3 (la (win m.locals 10) 3
  (mh (gk jj m.args) (la (returnedB m.ret) 7 (gk et m.hands))))))))
def dy (c:ap):Int:=
 la (db c.name) 1 (la (decide (c.bo.size=0)||db c.bo) 1 (la (decide (c.fields.length<=6)) 2 (la (decide (c.ba.length<=8)) 2
  (mh (gk fc c.fields) (gk dq c.ba)))))
def dt (l:List ap):Int:=la (decide (l.length<=10)) 2 (gk dy l)
structure cg where
 da:Int
 meth:Int
def cls0:ap:=⟨⟨#[]⟩,⟨#[]⟩,[],[]⟩
def b9 (l:List ap) (n:Nat):ap:=l[n]?.getD cls0
theorem zay {l:List ap} {n:Nat} (h:n<l.length):b9 l n=l[n]:=by simp [b9,h]
def num (l:List ap) (name:ByteArray):Int:=l.zipIdx.foldl (fun acc p=>if p.1.name=name then (p.2:Int) else acc) (-1)
theorem zaz (A:ByteArray):num [] A= -1:=rfl
theorem za0 (l:List ap) (c:ap) (A:ByteArray):num (l++ [c]) A=if c.name=A then (l.length:Int) else num l A:=by unfold num;rw [List.zipIdx_append,List.foldl_append];simp
theorem za1 {α:Type} {P:List α->Prop} (h0:P []) (h1:∀l x,P l->P (l++ [x])) (l:List α):P l:=by
 have h:∀r:List α,P r.reverse:=fun r=>by
  induction r with
  | nil=>exact h0
  | cons x r ih=>rw [List.reverse_cons];exact h1 _ _ ih
 have:=h l.reverse;rwa [List.reverse_reverse]at this
theorem za2 (l:List ap) (A:ByteArray): -1<=num l A/\num l A<l.length:=by
 induction l using za1 with
 | h0=>rw [zaz];simp
 | h1 l c ih=>
   rw [za0,List.length_append];split<;>simp<;>omega
def df (l:List ap) (n:Nat):Int:=num l (b9 l n).bo
def fw (l:List ap):Nat->Int->List Nat
 | 0,_=>[]
 | f+1,n=>if 0<=n then n.toNat::fw l f (df l n.toNat) else []
def de (l:List ap) (n:Nat):List Nat:=(fw l (l.length+1) n).reverse
def fieldsOf (l:List ap) (n:Nat):List bg:=(de l n).flatMap fun k=>(b9 l k).fields
def iw (l:List ByteArray) (s:ByteArray):Int:=match l.findIdx? (fun x=>decide (x=s))with | some i=>i | none=>-1
def ed (acc:List ByteArray×List cg) (x:ByteArray×cg):List ByteArray×List cg:=
 if 0<=iw acc.1 x.1 then (acc.1,acc.2.set (iw acc.1 x.1).toNat x.2) else (acc.1++ [x.1],acc.2++ [x.2])
def jk (l:List ap) (n:Nat):List (ByteArray×cg):=(b9 l n).ba.zipIdx.map fun p=>(p.1.name,⟨n,p.2⟩)
def jh (l:List ap) (n:Nat):List ByteArray×List cg:=((de l n).flatMap (jk l)).foldl ed ([],[])
def d9 (l:List ap) (n:Nat):List ByteArray:=(jh l n).1
def d7 (l:List ap) (n:Nat):List cg:=(jh l n).2
def fd:ByteArray:=⟨#[79,98,106,101,99,116]⟩
def fx:ByteArray:=⟨#[69,114,114,111,114]⟩
def j8 (l:List ap) (s:ByteArray):Bool:=decide (0<=num l s)
def gj (l:List ap) (k:ew):Bool:=decide (k.da=(⟨#[]⟩:ByteArray))||j8 l k.da
def kf (l:List ap) (m:dx):Bool:=m.args.all (gj l)&&gj l m.ret&&m.hands.all (fun h=>j8 l h.da)
def dv (a b:ew):Bool:=decide (a.kind=b.kind)&&decide (a.da=b.da)
def differF (p:Bool×List ByteArray) (x:ByteArray):Bool×List ByteArray:=(p.1&&p.2.all (fun y=>!decide (x=y)),p.2++ [x])
def dc (l:List ByteArray):Bool:=(l.foldl differF (true,[])).1
theorem za3 (l:List ByteArray):(l.foldl differF (true,[])).2=l:=by
 induction l using za1 with
 | h0=>rfl
 | h1 l x ih=>rw [List.foldl_append];show (l.foldl differF (true,[])).2++ [x]=_;rw [ih]
theorem za4 (l:List ByteArray) (x:ByteArray):dc (l++ [x])=(dc l&&l.all (fun y=>!decide (x=y))):=by unfold dc;rw [List.foldl_append];show ((l.foldl differF (true,[])).1&&(l.foldl differF (true,[])).2.all _)=_;rw [za3]
theorem za5 {s t:ByteArray} (h:s.data.toList=t.data.toList):s=t:=by cases s;cases t;congr;exact Array.toList_inj.1 h
theorem za6 (l:List ap) (s:ByteArray):decide (0<=num l s)=l.any (fun c=>decide (s=c.name)):=by
 induction l using za1 with
 | h0=>rfl
 | h1 l c ih=>
   rw [za0,List.any_append,<-ih];by_cases h:c.name=s
   ·simp [h]
   rw [if_neg h];simp [Ne.symm h]
theorem za7 (l:List ap) (c:ap):dc ((l++ [c]).map (·.name))=(dc (l.map (·.name))&& !decide (0<=num l c.name)):=by rw [List.map_append,List.map_cons,List.map_nil,za4,za6,List.all_map,List.not_any_eq_all_not];rfl
def dm (l:List ap):Bool:=dc (l.map (·.name))
def mi (l:List ap):Bool:=j8 l fd&&j8 l fx
def askUpper (l:List ap):Bool:=l.all fun c=>(decide (c.name=fd))==(decide (c.bo=(⟨#[]⟩:ByteArray)))
def kd (l:List ap):Bool:=l.all fun c=>decide (c.bo=(⟨#[]⟩:ByteArray))||j8 l c.bo
def ig (l:List ap):Bool:=(List.range l.length).all fun i=>decide ((de l i).length<=l.length)
def js (l:List ap):Bool:=
 decide (df l (num l fx).toNat=num l fd)&&(match fieldsOf l (num l fx).toNat with | []=>false | f::_=>dv f.kind ⟨1,⟨#[]⟩⟩)
def askTold (l:List ap):Bool:=l.all fun c=>(c.fields.all fun f=>gj l f.kind)&&c.ba.all (kf l)
def i0 (l:List ap):Bool:=((List.range l.length).all fun i=>dc ((fieldsOf l i).map (·.name)))&&l.all fun c=>dc (c.ba.map (·.name))
def kc (l:List ap):Bool:=((List.range l.length).all fun i=>decide ((fieldsOf l i).length<=12))&&((List.range l.length).all fun i=>decide ((d9 l i).length<=16))
theorem zgb {b:Bool} {e r:Int} (h:la b e r=0) (A:e≠0):b=true/\r=0:=by
 cases b
 ·exact absurd h A
 exact ⟨rfl,h⟩
theorem zgc {e r:Int} (h:mh e r=0):e=0/\r=0:=by
 unfold mh at h;by_cases A:e=0
 ·rw [if_pos A]at h;exact ⟨A,h⟩
 rw [if_neg A]at h;exact absurd h A
theorem zgd {α:Type} {f:α->Int} :∀ {l:List α},gk f l=0->∀x∈l,f x=0
 | [],_,x,A=>by cases A
 | y::l,h,x,A=>by
   obtain ⟨h1,D⟩:=zgc h;rcases List.mem_cons.1 A with rfl | A
   ·exact h1
   exact zgd D x A
theorem zge {s:ByteArray} (h:db s=true):s.size<=20:=by simp [db]at h;omega
def FineK (k:ew):Prop:=0<=k.kind/\k.kind<=4/\k.da.size<=20/\(ke k.kind=false->k.da.size=0)
def FineF (f:bg):Prop:=f.name.size<=20/\FineK f.kind
def FineH (h:ic):Prop:=h.da.size<=20/\(0<=h.frm/\h.frm<=200)/\(0<=h.upto/\h.upto<=200)/\(0<=h.loc/\h.loc<=200)
def FineM (m:dx):Prop:=m.name.size<=20/\m.args.length<=4/\(∀k∈m.args,FineK k)/\FineK m.ret/\(0<=m.stack/\m.stack<=10)/\(0<=m.locals/\m.locals<=10)/\m.code.size<=200/\m.hands.length<=4/\∀h∈m.hands,FineH h
def FineC (c:ap):Prop:=c.name.size<=20/\c.bo.size<=20/\c.fields.length<=6/\(∀f∈c.fields,FineF f)/\c.ba.length<=8/\∀m∈c.ba,FineM m
theorem zgf {n m:Int} (h:win n m=true):0<=n/\n<=m:=by simpa [win]using h
theorem zgg {k:ew} (h:ij k=true):FineK k:=by
 unfold ij at h;split at h
 ·rename_i hc;have D:=zge h;refine ⟨?_,?_,D,fun A=>by rw [hc]at A;cases A⟩<;>simp [ke]at hc<;>omega
 rename_i hc;simp only [Bool.and_eq_true,Bool.or_eq_true,decide_eq_true_eq]at h;exact ⟨by omega,by omega,by omega,fun _=>h.2⟩
theorem zgh {k:ew} (h:returnedB k=true):FineK k:=by
 rw [returnedB,Bool.or_eq_true]at h;rcases h with h | h
 ·exact zgg h
 simp only [Bool.and_eq_true,decide_eq_true_eq]at h;exact ⟨by omega,by omega,by omega,fun _=>h.2⟩
theorem zgi {f:bg} (h:fc f=0):FineF f:=by obtain ⟨h1,h⟩:=zgb h (by decide);obtain ⟨A,h⟩:=zgb h (by decide);exact ⟨zge h1,zgg A⟩
theorem zgj {x:ic} (h:et x=0):FineH x:=by obtain ⟨h1,h⟩:=zgb h (by decide);obtain ⟨A,h⟩:=zgb h (by decide);obtain ⟨D,h⟩:=zgb h (by decide);obtain ⟨E,h⟩:=zgb h (by decide);exact ⟨zge h1,zgf A,zgf D,zgf E⟩
theorem zgk {m:dx} (h:dq m=0):FineM m:=by obtain ⟨h1,h⟩:=zgb h (by decide);obtain ⟨A,h⟩:=zgb h (by decide);obtain ⟨D,h⟩:=zgb h (by decide);obtain ⟨E,h⟩:=zgb h (by decide);obtain ⟨F,h⟩:=zgb h (by decide);obtain ⟨G,h⟩:=zgb h (by decide);obtain ⟨I,h⟩:=zgc h;obtain ⟨J,h⟩:=zgb h (by decide);exact ⟨zge h1,of_decide_eq_true A,fun k L=>zgg (zgb (zgd I k L) (by decide)).1,zgh J,zgf F,zgf G,of_decide_eq_true D,of_decide_eq_true E,fun x N=>zgj (zgd h x N)⟩
theorem zgl {c:ap} (h:dy c=0):FineC c:=by
 obtain ⟨h1,h⟩:=zgb h (by decide);obtain ⟨A,h⟩:=zgb h (by decide);obtain ⟨D,h⟩:=zgb h (by decide);obtain ⟨E,h⟩:=zgb h (by decide);obtain ⟨F,h⟩:=zgc h;refine ⟨zge h1,?_,of_decide_eq_true D,fun f G=>zgi (zgd F f G),of_decide_eq_true E,fun m I=>zgk (zgd h m I)⟩;rw [Bool.or_eq_true]at A;rcases A with A | A
 ·have:=of_decide_eq_true A;omega
 exact zge A
theorem zgm {l:List ap} (h:dt l=0):l.length<=10/\∀c∈l,FineC c:=by obtain ⟨h1,h⟩:=zgb h (by decide);exact ⟨of_decide_eq_true h1,fun c hc=>zgl (zgd h c hc)⟩
end Go.Proofs.YtjdnmblggdobgaaGreat
