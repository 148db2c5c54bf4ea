import Derived.Test.YtjdnmblggdobgaaGreatAl
import Derived.WalkKit
import Derived.Laws.BitsAllLaws
import Derived.Laws.DeepBits32
namespace Go.Proofs.YtjdnmblggdobgaaGreat
open Go.RowKit
theorem fy (n:Int) (h0:0<=n) (h1:n<9223372036854775808):IntKind.i64.wrap n=n:=by rw [IntKind.wrap_i64];omega
def bt (s:ByteArray) (i:Nat):Nat:=if h:i<s.size then s[i].toNat else 0
theorem bt_eq (s:ByteArray) (i:Nat) (h:i<s.size):bt s i=s[i].toNat:=by simp [bt,h]
structure ey where
 kind:Int
 db:ByteArray
structure bk where
 name:ByteArray
 kind:ey
structure ik where
 frm:Int
 upto:Int
 loc:Int
 db:ByteArray
structure d7 where
 name:ByteArray
 static:Bool
 args:List ey
 ret:ey
 stack:Int
 locals:Int
 code:ByteArray
 hands:List ik
structure am where
 name:ByteArray
 bp:ByteArray
 fields:List bk
 ax:List d7
def cw (b:Nat):Bool:=(decide (97<=b)&&decide (b<=122))||(decide (65<=b)&&decide (b<=90))||(decide (48<=b)&&decide (b<=57))||decide (b=95)
def i7 (s:ByteArray):Bool:=(List.range s.size).all fun i=>cw (bt s i)
def dc (s:ByteArray):Bool:=decide (1<=s.size)&&decide (s.size<=20)&&i7 s
theorem zan {s:ByteArray} {i:Nat} (hi:i<s.size) (h:cw (bt s i)=false):i7 s=false:=by rw [i7,List.all_eq_false];exact ⟨i,by simpa using hi,by simp [h]⟩
theorem zao {s:ByteArray} (h:∀i,i<s.size->cw (bt s i)=true):i7 s=true:=by rw [i7,List.all_eq_true];intro i hi;exact h i (by simpa using hi)
def ko (n:Int):Bool:=decide (n=3)||decide (n=4)
def io (k:ey):Bool:=if ko k.kind then dc k.db else (decide (k.kind=1)||decide (k.kind=2))&&decide (k.db.size=0)
def returnedB (k:ey):Bool:=io k||(decide (k.kind=0)&&decide (k.db.size=0))
def win (n most:Int):Bool:=decide (0<=n)&&decide (n<=most)
def lr (b:Bool) (e rest:Int):Int:=if b=true then rest else e
def na (e rest:Int):Int:=if e=0 then rest else e
def gx {α:Type} (f:α->Int):List α->Int
 | []=>0
 | x::l=>na (f x) (gx f l)
theorem mc {e r:Int} :lr true e r=r:=rfl
theorem nw {e r:Int} :lr false e r=e:=rfl
theorem zar {α:Type} {f:α->Int} {l:List α} {k:Nat} (u:k<l.length) (h:f l[k]≠0):gx f (l.drop k)=f l[k]:=by rw [List.drop_eq_getElem_cons u,gx,na,if_neg h]
theorem zas {α:Type} {f:α->Int} {l:List α} {k:Nat} (u:k<l.length) (h:f l[k]=0):gx f (l.drop k)=gx f (l.drop (k+1)):=by rw [List.drop_eq_getElem_cons u,gx,na,if_pos h]
theorem zat {α:Type} {f:α->Int} {l:List α} {k:Nat} (u:¬k<l.length):gx f (l.drop k)=0:=by rw [List.drop_of_length_le (by omega)];rfl
def fc (f:bk):Int:=lr (dc f.name) 1 (lr (io f.kind) 7 0)
def ev (h:ik):Int:=lr (dc h.db) 1 (lr (win h.frm 200) 3 (lr (win h.upto 200) 3 (lr (win h.loc 200) 3 0)))
def jg (k:ey):Int:=lr (io k) 7 0
def dt (m:d7):Int:=
 lr (dc m.name) 1 (lr (decide (m.args.length<=4)) 2 (lr (decide (m.code.size<=200)) 2 (lr (decide (m.hands.length<=4)) 2 (lr (win m.stack 10) 3 (lr (win m.locals 10) 3
  (na (gx jg m.args) (lr (returnedB m.ret) 7 (gx ev m.hands))))))))
def d9 (c:am):Int:=
 lr (dc c.name) 1 (lr (decide (c.bp.size=0)||dc c.bp) 1 (lr (decide (c.fields.length<=6)) 2 (lr (decide (c.ax.length<=8)) 2
  (na (gx fc c.fields) (gx dt c.ax)))))
def dw (l:List am):Int:=lr (decide (l.length<=10)) 2 (gx d9 l)
structure cq where
 db:Int
 meth:Int
def cls0:am:=⟨⟨#[]⟩,⟨#[]⟩,[],[]⟩
def cb (l:List am) (n:Nat):am:=l[n]?.getD cls0
theorem zay {l:List am} {n:Nat} (h:n<l.length):cb l n=l[n]:=by simp [cb,h]
def num (l:List am) (name:ByteArray):Int:=l.zipIdx.foldl (fun acc p=>if p.1.name=name then (p.2:Int) else acc) (-1)
theorem zaz (u:ByteArray):num [] u= -1:=rfl
theorem za0 (l:List am) (c:am) (u:ByteArray):num (l++ [c]) u=if c.name=u then (l.length:Int) else num l u:=by unfold num;rw [List.zipIdx_append,List.foldl_append];simp
theorem za1 {α:Type} {P:List α->Prop} (h0:P []) (h1:∀l x,P l->P (l++ [x])) (l:List α):P l:=by
 have h:∀r:List α,P r.reverse:=fun r=>by
  induction r with
  | nil=>exact h0
  | cons x r ih=>rw [List.reverse_cons];exact h1 _ _ ih
 have:=h l.reverse;rwa [List.reverse_reverse]at this
theorem za2 (l:List am) (u:ByteArray): -1<=num l u/\num l u<l.length:=by
 induction l using za1 with
 | h0=>rw [zaz];simp
 | h1 l c ih=>
   rw [za0,List.length_append];split<;>simp<;>omega
def dm (l:List am) (n:Nat):Int:=num l (cb l n).bp
def fu (l:List am):Nat->Int->List Nat
 | 0,_=>[]
 | f+1,n=>if 0<=n then n.toNat::fu l f (dm l n.toNat) else []
def dj (l:List am) (n:Nat):List Nat:=(fu l (l.length+1) n).reverse
def fieldsOf (l:List am) (n:Nat):List bk:=(dj l n).flatMap fun k=>(cb l k).fields
def iv (l:List ByteArray) (s:ByteArray):Int:=match l.findIdx? (fun x=>decide (x=s))with | some i=>i | none=>-1
def ep (acc:List ByteArray×List cq) (x:ByteArray×cq):List ByteArray×List cq:=
 if 0<=iv acc.1 x.1 then (acc.1,acc.2.set (iv acc.1 x.1).toNat x.2) else (acc.1++ [x.1],acc.2++ [x.2])
def jh (l:List am) (n:Nat):List (ByteArray×cq):=(cb l n).ax.zipIdx.map fun p=>(p.1.name,⟨n,p.2⟩)
def jd (l:List am) (n:Nat):List ByteArray×List cq:=((dj l n).flatMap (jh l)).foldl ep ([],[])
def eo (l:List am) (n:Nat):List ByteArray:=(jd l n).1
def ed (l:List am) (n:Nat):List cq:=(jd l n).2
def fd:ByteArray:=⟨#[79,98,106,101,99,116]⟩
def fw:ByteArray:=⟨#[69,114,114,111,114]⟩
def kf (l:List am) (s:ByteArray):Bool:=decide (0<=num l s)
def gu (l:List am) (k:ey):Bool:=decide (k.db=(⟨#[]⟩:ByteArray))||kf l k.db
def kq (l:List am) (m:d7):Bool:=m.args.all (gu l)&&gu l m.ret&&m.hands.all (fun h=>kf l h.db)
def dy (a b:ey):Bool:=decide (a.kind=b.kind)&&decide (a.db=b.db)
def differF (p:Bool×List ByteArray) (x:ByteArray):Bool×List ByteArray:=(p.1&&p.2.all (fun y=>!decide (x=y)),p.2++ [x])
def de (l:List ByteArray):Bool:=(l.foldl differF (true,[])).1
theorem za3 (l:List ByteArray):(l.foldl differF (true,[])).2=l:=by
 induction l using za1 with
 | h0=>rfl
 | h1 l x ih=>rw [List.foldl_append];show (l.foldl differF (true,[])).2++ [x]=_;rw [ih]
theorem za4 (l:List ByteArray) (x:ByteArray):de (l++ [x])=(de l&&l.all (fun y=>!decide (x=y))):=by unfold de;rw [List.foldl_append];show ((l.foldl differF (true,[])).1&&(l.foldl differF (true,[])).2.all _)=_;rw [za3]
theorem za5 {s t:ByteArray} (h:s.data.toList=t.data.toList):s=t:=by cases s;cases t;congr;exact Array.toList_inj.1 h
theorem za6 (l:List am) (s:ByteArray):decide (0<=num l s)=l.any (fun c=>decide (s=c.name)):=by
 induction l using za1 with
 | h0=>rfl
 | h1 l c ih=>
   rw [za0,List.any_append,<-ih];by_cases h:c.name=s
   ·simp [h]
   rw [if_neg h];simp [Ne.symm h]
theorem za7 (l:List am) (c:am):de ((l++ [c]).map (·.name))=(de (l.map (·.name))&& !decide (0<=num l c.name)):=by rw [List.map_append,List.map_cons,List.map_nil,za4,za6,List.all_map,List.not_any_eq_all_not];rfl
def dq (l:List am):Bool:=de (l.map (·.name))
def nc (l:List am):Bool:=kf l fd&&kf l fw
def askUpper (l:List am):Bool:=l.all fun c=>(decide (c.name=fd))==(decide (c.bp=(⟨#[]⟩:ByteArray)))
def km (l:List am):Bool:=l.all fun c=>decide (c.bp=(⟨#[]⟩:ByteArray))||kf l c.bp
def im (l:List am):Bool:=(List.range l.length).all fun i=>decide ((dj l i).length<=l.length)
def ju (l:List am):Bool:=
 decide (dm l (num l fw).toNat=num l fd)&&(match fieldsOf l (num l fw).toNat with | []=>false | f::_=>dy f.kind ⟨1,⟨#[]⟩⟩)
def askTold (l:List am):Bool:=l.all fun c=>(c.fields.all fun f=>gu l f.kind)&&c.ax.all (kq l)
def i1 (l:List am):Bool:=((List.range l.length).all fun i=>de ((fieldsOf l i).map (·.name)))&&l.all fun c=>de (c.ax.map (·.name))
def kj (l:List am):Bool:=((List.range l.length).all fun i=>decide ((fieldsOf l i).length<=12))&&((List.range l.length).all fun i=>decide ((eo l i).length<=16))
theorem zgb {b:Bool} {e r:Int} (h:lr b e r=0) (u:e≠0):b=true/\r=0:=by
 cases b
 ·exact absurd h u
 exact ⟨rfl,h⟩
theorem zgc {e r:Int} (h:na e r=0):e=0/\r=0:=by
 unfold na at h;by_cases u:e=0
 ·rw [if_pos u]at h;exact ⟨u,h⟩
 rw [if_neg u]at h;exact absurd h u
theorem zgd {α:Type} {f:α->Int} :∀ {l:List α},gx f l=0->∀x∈l,f x=0
 | [],_,x,u=>by cases u
 | y::l,h,x,u=>by
   obtain ⟨h1,A⟩:=zgc h;rcases List.mem_cons.1 u with rfl | u
   ·exact h1
   exact zgd A x u
theorem zge {s:ByteArray} (h:dc s=true):s.size<=20:=by simp [dc]at h;omega
def FineK (k:ey):Prop:=0<=k.kind/\k.kind<=4/\k.db.size<=20/\(ko k.kind=false->k.db.size=0)
def FineF (f:bk):Prop:=f.name.size<=20/\FineK f.kind
def FineH (h:ik):Prop:=h.db.size<=20/\(0<=h.frm/\h.frm<=200)/\(0<=h.upto/\h.upto<=200)/\(0<=h.loc/\h.loc<=200)
def FineM (m:d7):Prop:=m.name.size<=20/\m.args.length<=4/\(∀k∈m.args,FineK k)/\FineK m.ret/\(0<=m.stack/\m.stack<=10)/\(0<=m.locals/\m.locals<=10)/\m.code.size<=200/\m.hands.length<=4/\∀h∈m.hands,FineH h
def FineC (c:am):Prop:=c.name.size<=20/\c.bp.size<=20/\c.fields.length<=6/\(∀f∈c.fields,FineF f)/\c.ax.length<=8/\∀m∈c.ax,FineM m
theorem zgf {n m:Int} (h:win n m=true):0<=n/\n<=m:=by simpa [win]using h
theorem zgg {k:ey} (h:io k=true):FineK k:=by
 unfold io at h;split at h
 ·rename_i hc;have A:=zge h;refine ⟨?_,?_,A,fun u=>by rw [hc]at u;cases u⟩<;>simp [ko]at hc<;>omega
 rename_i hc;simp only [Bool.and_eq_true,Bool.or_eq_true,decide_eq_true_eq]at h;exact ⟨by omega,by omega,by omega,fun _=>h.2⟩
theorem zgh {k:ey} (h:returnedB k=true):FineK k:=by
 rw [returnedB,Bool.or_eq_true]at h;rcases h with h | h
 ·exact zgg h
 simp only [Bool.and_eq_true,decide_eq_true_eq]at h;exact ⟨by omega,by omega,by omega,fun _=>h.2⟩
theorem zgi {f:bk} (h:fc f=0):FineF f:=by obtain ⟨h1,h⟩:=zgb h (by decide);obtain ⟨u,h⟩:=zgb h (by decide);exact ⟨zge h1,zgg u⟩
theorem zgj {x:ik} (h:ev x=0):FineH x:=by obtain ⟨h1,h⟩:=zgb h (by decide);obtain ⟨u,h⟩:=zgb h (by decide);obtain ⟨A,h⟩:=zgb h (by decide);obtain ⟨D,h⟩:=zgb h (by decide);exact ⟨zge h1,zgf u,zgf A,zgf D⟩
theorem zgk {m:d7} (h:dt m=0):FineM m:=by obtain ⟨h1,h⟩:=zgb h (by decide);obtain ⟨u,h⟩:=zgb h (by decide);obtain ⟨A,h⟩:=zgb h (by decide);obtain ⟨D,h⟩:=zgb h (by decide);obtain ⟨E,h⟩:=zgb h (by decide);obtain ⟨F,h⟩:=zgb h (by decide);obtain ⟨G,h⟩:=zgc h;obtain ⟨I,h⟩:=zgb h (by decide);exact ⟨zge h1,of_decide_eq_true u,fun k J=>zgg (zgb (zgd G k J) (by decide)).1,zgh I,zgf E,zgf F,of_decide_eq_true A,of_decide_eq_true D,fun x L=>zgj (zgd h x L)⟩
theorem zgl {c:am} (h:d9 c=0):FineC c:=by
 obtain ⟨h1,h⟩:=zgb h (by decide);obtain ⟨u,h⟩:=zgb h (by decide);obtain ⟨A,h⟩:=zgb h (by decide);obtain ⟨D,h⟩:=zgb h (by decide);obtain ⟨E,h⟩:=zgc h;refine ⟨zge h1,?_,of_decide_eq_true A,fun f F=>zgi (zgd E f F),of_decide_eq_true D,fun m G=>zgk (zgd h m G)⟩;rw [Bool.or_eq_true]at u;rcases u with u | u
 ·have:=of_decide_eq_true u;omega
 exact zge u
theorem zgm {l:List am} (h:dw l=0):l.length<=10/\∀c∈l,FineC c:=by obtain ⟨h1,h⟩:=zgb h (by decide);exact ⟨of_decide_eq_true h1,fun c hc=>zgl (zgd h c hc)⟩
end Go.Proofs.YtjdnmblggdobgaaGreat
