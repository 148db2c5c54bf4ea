import Derived.Test.YtjdnmblggdobgaaGreatAl
import Derived.WalkKit
import Derived.Laws.BitsAllLaws
import Derived.Laws.DeepBits32
namespace Go.Proofs.YtjdnmblggdobgaaGreat
open Go.RowKit
theorem gp (n:Int) (h0:0<=n) (h1:n<9223372036854775808):IntKind.i64.wrap n=n:=by rw [IntKind.wrap_i64];omega
def bt (s:ByteArray) (i:Nat):Nat:=if h:i<s.size then s[i].toNat else 0
theorem D5 (s:ByteArray) (i:Nat) (h:i<s.size):bt s i=s[i].toNat:=by simp [bt,h]
structure fm where
 kind:Int
 de:ByteArray
structure bq where
 name:ByteArray
 kind:fm
structure iz where
 yj:Int
 upto:Int
 loc:Int
 de:ByteArray
structure d9 where
 name:ByteArray
 static:Bool
 args:List fm
 ret:fm
 stack:Int
 locals:Int
 code:ByteArray
 hands:List iz
structure aq where
 name:ByteArray
 bv:ByteArray
 fields:List bq
 be:List d9
def da (b:Nat):Bool:=(decide (97<=b)&&decide (b<=122))||(decide (65<=b)&&decide (b<=90))||(decide (48<=b)&&decide (b<=57))||decide (b=95)
def j5 (s:ByteArray):Bool:=(List.range s.size).all fun i=>da (bt s i)
def dc (s:ByteArray):Bool:=decide (1<=s.size)&&decide (s.size<=20)&&j5 s
theorem zan {s:ByteArray} {i:Nat} (hi:i<s.size) (h:da (bt s i)=false):j5 s=false:=by rw [j5,List.all_eq_false];exact ⟨i,by simpa using hi,by simp [h]⟩
theorem zao {s:ByteArray} (h:∀i,i<s.size->da (bt s i)=true):j5 s=true:=by rw [j5,List.all_eq_true];intro i hi;exact h i (by simpa using hi)
def mx (n:Int):Bool:=decide (n=3)||decide (n=4)
def je (k:fm):Bool:=if mx k.kind then dc k.de else (decide (k.kind=1)||decide (k.kind=2))&&decide (k.de.size=0)
def returnedB (k:fm):Bool:=je k||(decide (k.kind=0)&&decide (k.de.size=0))
def win (n most:Int):Bool:=decide (0<=n)&&decide (n<=most)
def oa (b:Bool) (e rest:Int):Int:=if b=true then rest else e
def pv (e rest:Int):Int:=if e=0 then rest else e
def ik {α:Type} (f:α->Int):List α->Int
 | []=>0
 | x::l=>pv (f x) (ik f l)
theorem oz {e r:Int} :oa true e r=r:=rfl
theorem qt {e r:Int} :oa false e r=e:=rfl
theorem uh {α:Type} {f:α->Int} {l:List α} {k:Nat} (A:k<l.length) (h:f l[k]≠0):ik f (l.drop k)=f l[k]:=by rw [List.drop_eq_getElem_cons A,ik,pv,if_neg h]
theorem zp {α:Type} {f:α->Int} {l:List α} {k:Nat} (A:k<l.length) (h:f l[k]=0):ik f (l.drop k)=ik f (l.drop (k+1)):=by rw [List.drop_eq_getElem_cons A,ik,pv,if_pos h]
theorem zq {α:Type} {f:α->Int} {l:List α} {k:Nat} (A:¬k<l.length):ik f (l.drop k)=0:=by rw [List.drop_of_length_le (by omega)];rfl
def fq (f:bq):Int:=oa (dc f.name) 1 (oa (je f.kind) 7 0)
def fd (h:iz):Int:=oa (dc h.de) 1 (oa (win h.yj 200) 3 (oa (win h.upto 200) 3 (oa (win h.loc 200) 3 0)))
def ki (k:fm):Int:=oa (je k) 7 0
def dw (m:d9):Int:=
 oa (dc m.name) 1 (oa (decide (m.args.length<=4)) 2 (oa (decide (m.code.size<=200)) 2 (oa (decide (m.hands.length<=4)) 2 (oa (win m.stack 10) 3 (oa (win m.locals 10) 3
  (pv (ik ki m.args) (oa (returnedB m.ret) 7 (ik fd m.hands))))))))
def ev (c:aq):Int:=
 oa (dc c.name) 1 (oa (decide (c.bv.size=0)||dc c.bv) 1 (oa (decide (c.fields.length<=6)) 2 (oa (decide (c.be.length<=8)) 2
  (pv (ik fq c.fields) (ik dw c.be)))))
def dy (l:List aq):Int:=oa (decide (l.length<=10)) 2 (ik ev l)
structure cw where
 de:Int
 s9:Int
def cls0:aq:=⟨⟨#[]⟩,⟨#[]⟩,[],[]⟩
def cd (l:List aq) (n:Nat):aq:=l[n]?.getD cls0
theorem sm {l:List aq} {n:Nat} (h:n<l.length):cd l n=l[n]:=by simp [cd,h]
def num (l:List aq) (name:ByteArray):Int:=l.zipIdx.foldl (fun acc p=>if p.1.name=name then (p.2:Int) else acc) (-1)
theorem zaz (A:ByteArray):num [] A= -1:=rfl
theorem za0 (l:List aq) (c:aq) (A:ByteArray):num (l++ [c]) A=if c.name=A then (l.length:Int) else num l A:=by unfold num;rw [List.zipIdx_append,List.foldl_append];simp
theorem Ed {α:Type} {P:List α->Prop} (h0:P []) (h1:∀l x,P l->P (l++ [x])) (l:List α):P l:=by
 have h:∀r:List α,P r.reverse:=fun r=>by
  induction r with
  | nil=>exact h0
  | cons x r ih=>rw [List.reverse_cons];exact h1 _ _ ih
 have:=h l.reverse;rwa [List.reverse_reverse]at this
theorem Ee (l:List aq) (A:ByteArray): -1<=num l A/\num l A<l.length:=by
 induction l using Ed with
 | h0=>rw [zaz];simp
 | h1 l c ih=>
   rw [za0,List.length_append];split<;>simp<;>omega
def dj (l:List aq) (n:Nat):Int:=num l (cd l n).bv
def gj (l:List aq):Nat->Int->List Nat
 | 0,_=>[]
 | f+1,n=>if 0<=n then n.toNat::gj l f (dj l n.toNat) else []
def di (l:List aq) (n:Nat):List Nat:=(gj l (l.length+1) n).reverse
def fieldsOf (l:List aq) (n:Nat):List bq:=(di l n).flatMap fun k=>(cd l k).fields
def jl (l:List ByteArray) (s:ByteArray):Int:=match l.findIdx? (fun x=>decide (x=s))with | some i=>i | none=>-1
def fc (acc:List ByteArray×List cw) (x:ByteArray×cw):List ByteArray×List cw:=
 if 0<=jl acc.1 x.1 then (acc.1,acc.2.set (jl acc.1 x.1).toNat x.2) else (acc.1++ [x.1],acc.2++ [x.2])
def kj (l:List aq) (n:Nat):List (ByteArray×cw):=(cd l n).be.zipIdx.map fun p=>(p.1.name,⟨n,p.2⟩)
def ke (l:List aq) (n:Nat):List ByteArray×List cw:=((di l n).flatMap (kj l)).foldl fc ([],[])
def fb (l:List aq) (n:Nat):List ByteArray:=(ke l n).1
def ew (l:List aq) (n:Nat):List cw:=(ke l n).2
def fw:ByteArray:=⟨#[79,98,106,101,99,116]⟩
def gn:ByteArray:=⟨#[69,114,114,111,114]⟩
def mm (l:List aq) (s:ByteArray):Bool:=decide (0<=num l s)
def ig (l:List aq) (k:fm):Bool:=decide (k.de=(⟨#[]⟩:ByteArray))||mm l k.de
def my (l:List aq) (m:d9):Bool:=m.args.all (ig l)&&ig l m.ret&&m.hands.all (fun h=>mm l h.de)
def d7 (a b:fm):Bool:=decide (a.kind=b.kind)&&decide (a.de=b.de)
def sr (p:Bool×List ByteArray) (x:ByteArray):Bool×List ByteArray:=(p.1&&p.2.all (fun y=>!decide (x=y)),p.2++ [x])
def dh (l:List ByteArray):Bool:=(l.foldl sr (true,[])).1
theorem za3 (l:List ByteArray):(l.foldl sr (true,[])).2=l:=by
 induction l using Ed with
 | h0=>rfl
 | h1 l x ih=>rw [List.foldl_append];show (l.foldl sr (true,[])).2++ [x]=_;rw [ih]
theorem za4 (l:List ByteArray) (x:ByteArray):dh (l++ [x])=(dh l&&l.all (fun y=>!decide (x=y))):=by unfold dh;rw [List.foldl_append];show ((l.foldl sr (true,[])).1&&(l.foldl sr (true,[])).2.all _)=_;rw [za3]
theorem za5 {s t:ByteArray} (h:s.data.toList=t.data.toList):s=t:=by cases s;cases t;congr;exact Array.toList_inj.1 h
theorem za6 (l:List aq) (s:ByteArray):decide (0<=num l s)=l.any (fun c=>decide (s=c.name)):=by
 induction l using Ed with
 | h0=>rfl
 | h1 l c ih=>
   rw [za0,List.any_append,<-ih];by_cases h:c.name=s
   ·simp [h]
   rw [if_neg h];simp [Ne.symm h]
theorem za7 (l:List aq) (c:aq):dh ((l++ [c]).map (·.name))=(dh (l.map (·.name))&& !decide (0<=num l c.name)):=by rw [List.map_append,List.map_cons,List.map_nil,za4,za6,List.all_map,List.not_any_eq_all_not];rfl
def dr (l:List aq):Bool:=dh (l.map (·.name))
def qb (l:List aq):Bool:=mm l fw&&mm l gn
def ri (l:List aq):Bool:=l.all fun c=>(decide (c.name=fw))==(decide (c.bv=(⟨#[]⟩:ByteArray)))
def mw (l:List aq):Bool:=l.all fun c=>decide (c.bv=(⟨#[]⟩:ByteArray))||mm l c.bv
def jc (l:List aq):Bool:=(List.range l.length).all fun i=>decide ((di l i).length<=l.length)
def lq (l:List aq):Bool:=
 decide (dj l (num l gn).toNat=num l fw)&&(match fieldsOf l (num l gn).toNat with | []=>false | f::_=>d7 f.kind ⟨1,⟨#[]⟩⟩)
def sq (l:List aq):Bool:=l.all fun c=>(c.fields.all fun f=>ig l f.kind)&&c.be.all (my l)
def ju (l:List aq):Bool:=((List.range l.length).all fun i=>dh ((fieldsOf l i).map (·.name)))&&l.all fun c=>dh (c.be.map (·.name))
def mu (l:List aq):Bool:=((List.range l.length).all fun i=>decide ((fieldsOf l i).length<=12))&&((List.range l.length).all fun i=>decide ((fb l i).length<=16))
theorem wb {b:Bool} {e r:Int} (h:oa b e r=0) (A:e≠0):b=true/\r=0:=by
 cases b
 ·exact absurd h A
 exact ⟨rfl,h⟩
theorem zgc {e r:Int} (h:pv e r=0):e=0/\r=0:=by
 unfold pv at h;by_cases A:e=0
 ·rw [if_pos A]at h;exact ⟨A,h⟩
 rw [if_neg A]at h;exact absurd h A
theorem Fj {α:Type} {f:α->Int} :∀ {l:List α},ik f l=0->∀x∈l,f x=0
 | [],_,x,A=>by cases A
 | y::l,h,x,A=>by
   obtain ⟨h1,D⟩:=zgc h;rcases List.mem_cons.1 A with rfl | A
   ·exact h1
   exact Fj D x A
theorem zge {s:ByteArray} (h:dc s=true):s.size<=20:=by simp [dc]at h;omega
def yc (k:fm):Prop:=0<=k.kind/\k.kind<=4/\k.de.size<=20/\(mx k.kind=false->k.de.size=0)
def Dy (f:bq):Prop:=f.name.size<=20/\yc f.kind
def Dz (h:iz):Prop:=h.de.size<=20/\(0<=h.yj/\h.yj<=200)/\(0<=h.upto/\h.upto<=200)/\(0<=h.loc/\h.loc<=200)
def D0 (m:d9):Prop:=m.name.size<=20/\m.args.length<=4/\(∀k∈m.args,yc k)/\yc m.ret/\(0<=m.stack/\m.stack<=10)/\(0<=m.locals/\m.locals<=10)/\m.code.size<=200/\m.hands.length<=4/\∀h∈m.hands,Dz h
def Bc (c:aq):Prop:=c.name.size<=20/\c.bv.size<=20/\c.fields.length<=6/\(∀f∈c.fields,Dy f)/\c.be.length<=8/\∀m∈c.be,D0 m
theorem zgf {n m:Int} (h:win n m=true):0<=n/\n<=m:=by simpa [win]using h
theorem zgg {k:fm} (h:je k=true):yc k:=by
 unfold je at h;split at h
 ·rename_i hc;have D:=zge h;refine ⟨?_,?_,D,fun A=>by rw [hc]at A;cases A⟩<;>simp [mx]at hc<;>omega
 rename_i hc;simp only [Bool.and_eq_true,Bool.or_eq_true,decide_eq_true_eq]at h;exact ⟨by omega,by omega,by omega,fun _=>h.2⟩
theorem zgh {k:fm} (h:returnedB k=true):yc k:=by
 rw [returnedB,Bool.or_eq_true]at h;rcases h with h | h
 ·exact zgg h
 simp only [Bool.and_eq_true,decide_eq_true_eq]at h;exact ⟨by omega,by omega,by omega,fun _=>h.2⟩
theorem zgi {f:bq} (h:fq f=0):Dy f:=by obtain ⟨h1,h⟩:=wb h (by decide);obtain ⟨A,h⟩:=wb h (by decide);exact ⟨zge h1,zgg A⟩
theorem zgj {x:iz} (h:fd x=0):Dz x:=by obtain ⟨h1,h⟩:=wb h (by decide);obtain ⟨A,h⟩:=wb h (by decide);obtain ⟨D,h⟩:=wb h (by decide);obtain ⟨E,h⟩:=wb h (by decide);exact ⟨zge h1,zgf A,zgf D,zgf E⟩
theorem zgk {m:d9} (h:dw m=0):D0 m:=by obtain ⟨h1,h⟩:=wb h (by decide);obtain ⟨A,h⟩:=wb h (by decide);obtain ⟨D,h⟩:=wb h (by decide);obtain ⟨E,h⟩:=wb h (by decide);obtain ⟨F,h⟩:=wb h (by decide);obtain ⟨G,h⟩:=wb h (by decide);obtain ⟨I,h⟩:=zgc h;obtain ⟨J,h⟩:=wb h (by decide);exact ⟨zge h1,of_decide_eq_true A,fun k L=>zgg (wb (Fj I k L) (by decide)).1,zgh J,zgf F,zgf G,of_decide_eq_true D,of_decide_eq_true E,fun x N=>zgj (Fj h x N)⟩
theorem zgl {c:aq} (h:ev c=0):Bc c:=by
 obtain ⟨h1,h⟩:=wb h (by decide);obtain ⟨A,h⟩:=wb h (by decide);obtain ⟨D,h⟩:=wb h (by decide);obtain ⟨E,h⟩:=wb h (by decide);obtain ⟨F,h⟩:=zgc h;refine ⟨zge h1,?_,of_decide_eq_true D,fun f G=>zgi (Fj F f G),of_decide_eq_true E,fun m I=>zgk (Fj h m I)⟩;rw [Bool.or_eq_true]at A;rcases A with A | A
 ·have:=of_decide_eq_true A;omega
 exact zge A
theorem zgm {l:List aq} (h:dy l=0):l.length<=10/\∀c∈l,Bc c:=by obtain ⟨h1,h⟩:=wb h (by decide);exact ⟨of_decide_eq_true h1,fun c hc=>zgl (Fj h c hc)⟩
end Go.Proofs.YtjdnmblggdobgaaGreat
