import Derived.Test.YtjdnmblggdobgaaGreatAl
import Derived.WalkKit
import Derived.Laws.DeepBits32
namespace Go.Proofs.YtjdnmblggdobgaaGreat
open Go.RowKit List
variable {b:Bool} {e r:Int} {s:ByteArray} {α:Type} {f:α->Int} {l:List α} {k i:Nat}
theorem gw (n:Int) (h0:0<=n) (h1:n<9223372036854775808):IntKind.i64.wrap n=n:=by rw [IntKind.wrap_i64];omega
def bt (s:ByteArray) (i:Nat):Nat:=if h:i<s.size then s[i].toNat else 0
theorem D9 (s:ByteArray) (i:Nat) (h:i<s.size):bt s i=s[i].toNat:=by simp [bt,h]
structure fw where
 kind:Int
 dj:ByteArray
structure bv where
 name:ByteArray
 kind:fw
structure jg where
 zp:Int
 upto:Int
 loc:Int
 dj:ByteArray
structure ew where
 name:ByteArray
 static:Bool
 args:List fw
 ret:fw
 stack:Int
 locals:Int
 code:ByteArray
 hands:List jg
structure aq where
 name:ByteArray
 b9:ByteArray
 fields:List bv
 bd:List ew
def dh (b:Nat):Bool:=(decide (97<=b)&&decide (b<=122))||(decide (65<=b)&&decide (b<=90))||(decide (48<=b)&&decide (b<=57))||decide (b=95)
def ki (s:ByteArray):Bool:=(range s.size).all fun i=>dh (bt s i)
def dm (s:ByteArray):Bool:=decide (1<=s.size)&&decide (s.size<=20)&&ki s
theorem zan (hi:i<s.size) (h:dh (bt s i)=false):ki s=false:=by rw [ki,all_eq_false];exact ⟨i,by simpa using hi,by simp [h]⟩
theorem zao (h:∀i,i<s.size->dh (bt s i)=true):ki s=true:=by rw [ki,all_eq_true];intro i hi;exact h i (by simpa using hi)
def nr (n:Int):Bool:=decide (n=3)||decide (n=4)
def ji (k:fw):Bool:=if nr k.kind then dm k.dj else (decide (k.kind=1)||decide (k.kind=2))&&decide (k.dj.size=0)
def returnedB (k:fw):Bool:=ji k||(decide (k.kind=0)&&decide (k.dj.size=0))
def win (n most:Int):Bool:=decide (0<=n)&&decide (n<=most)
def pd (b:Bool) (e rest:Int):Int:=if b=true then rest else e
def ql (e rest:Int):Int:=if e=0 then rest else e
def ip {α:Type} (f:α->Int):List α->Int
 | []=>0
 | x::l=>ql (f x) (ip f l)
theorem pj:pd true e r=r:=rfl
theorem rj:pd false e r=e:=rfl
theorem vg (A:k<l.length) (h:f l[k]≠0):ip f (l.drop k)=f l[k]:=by rw [drop_eq_getElem_cons A,ip,ql,if_neg h]
theorem At (A:k<l.length) (h:f l[k]=0):ip f (l.drop k)=ip f (l.drop (k+1)):=by rw [drop_eq_getElem_cons A,ip,ql,if_pos h]
theorem Au (A:¬k<l.length):ip f (l.drop k)=0:=by rw [drop_of_length_le (by omega)];rfl
def fu (f:bv):Int:=pd (dm f.name) 1 (pd (ji f.kind) 7 0)
def fm (h:jg):Int:=pd (dm h.dj) 1 (pd (win h.zp 200) 3 (pd (win h.upto 200) 3 (pd (win h.loc 200) 3 0)))
def lh (k:fw):Int:=pd (ji k) 7 0
def d7 (m:ew):Int:=
 pd (dm m.name) 1 (pd (decide (m.args.length<=4)) 2 (pd (decide (m.code.size<=200)) 2 (pd (decide (m.hands.length<=4)) 2 (pd (win m.stack 10) 3 (pd (win m.locals 10) 3
  (ql (ip lh m.args) (pd (returnedB m.ret) 7 (ip fm m.hands))))))))
def fb (c:aq):Int:=
 pd (dm c.name) 1 (pd (decide (c.b9.size=0)||dm c.b9) 1 (pd (decide (c.fields.length<=6)) 2 (pd (decide (c.bd.length<=8)) 2
  (ql (ip fu c.fields) (ip d7 c.bd)))))
def ed (l:List aq):Int:=pd (decide (l.length<=10)) 2 (ip fb l)
structure dc where
 dj:Int
 uf:Int
def cls0:aq:=⟨⟨#[]⟩,⟨#[]⟩,[],[]⟩
def cz (l:List aq) (n:Nat):aq:=l[n]?.getD cls0
theorem tu {l:List aq} {n:Nat} (h:n<l.length):cz l n=l[n]:=by simp [cz,h]
def num (l:List aq) (name:ByteArray):Int:=l.zipIdx.foldl (fun acc p=>if p.1.name=name then (p.2:Int) else acc) (-1)
theorem zaz (A:ByteArray):num [] A= -1:=rfl
theorem za0 (l:List aq) (c:aq) (A:ByteArray):num (l++ [c]) A=if c.name=A then (l.length:Int) else num l A:=by unfold num;rw [zipIdx_append,foldl_append];simp
theorem Ei {P:List α->Prop} (h0:P []) (h1:∀l x,P l->P (l++ [x])) (l:List α):P l:=by
 have h:∀r:List α,P r.reverse:=fun r=>by
  induction r with
  | nil=>exact h0
  | cons x r ih=>rw [reverse_cons];exact h1 _ _ ih
 have:=h l.reverse;rwa [reverse_reverse]at this
theorem Ej (l:List aq) (A:ByteArray): -1<=num l A/\num l A<l.length:=by
 induction l using Ei with
 | h0=>rw [zaz];simp
 | h1 l c ih=>
   rw [za0,length_append];split<;>simp<;>omega
def dv (l:List aq) (n:Nat):Int:=num l (cz l n).b9
def gq (l:List aq):Nat->Int->List Nat
 | 0,_=>[]
 | f+1,n=>if 0<=n then n.toNat::gq l f (dv l n.toNat) else []
def dt (l:List aq) (n:Nat):List Nat:=(gq l (l.length+1) n).reverse
def fieldsOf (l:List aq) (n:Nat):List bv:=(dt l n).flatMap fun k=>(cz l k).fields
def js (l:List ByteArray) (s:ByteArray):Int:=match l.findIdx? (fun x=>decide (x=s))with | some i=>i | none=>-1
def fh (acc:List ByteArray×List dc) (x:ByteArray×dc):List ByteArray×List dc:=
 if 0<=js acc.1 x.1 then (acc.1,acc.2.set (js acc.1 x.1).toNat x.2) else (acc.1++ [x.1],acc.2++ [x.2])
def li (l:List aq) (n:Nat):List (ByteArray×dc):=(cz l n).bd.zipIdx.map fun p=>(p.1.name,⟨n,p.2⟩)
def kr (l:List aq) (n:Nat):List ByteArray×List dc:=((dt l n).flatMap (li l)).foldl fh ([],[])
def fg (l:List aq) (n:Nat):List ByteArray:=(kr l n).1
def fd (l:List aq) (n:Nat):List dc:=(kr l n).2
def f9:ByteArray:=⟨#[79,98,106,101,99,116]⟩
def gr:ByteArray:=⟨#[69,114,114,111,114]⟩
def ng (l:List aq) (s:ByteArray):Bool:=decide (0<=num l s)
def im (l:List aq) (k:fw):Bool:=decide (k.dj=(⟨#[]⟩:ByteArray))||ng l k.dj
def nt (l:List aq) (m:ew):Bool:=m.args.all (im l)&&im l m.ret&&m.hands.all (fun h=>ng l h.dj)
def ep (a b:fw):Bool:=decide (a.kind=b.kind)&&decide (a.dj=b.dj)
def uc (p:Bool×List ByteArray) (x:ByteArray):Bool×List ByteArray:=(p.1&&p.2.all (fun y=>!decide (x=y)),p.2++ [x])
def dp (l:List ByteArray):Bool:=(l.foldl uc (true,[])).1
theorem za3 (l:List ByteArray):(l.foldl uc (true,[])).2=l:=by
 induction l using Ei with
 | h0=>rfl
 | h1 l x ih=>rw [foldl_append];show (l.foldl uc (true,[])).2++ [x]=_;rw [ih]
theorem za4 (l:List ByteArray) (x:ByteArray):dp (l++ [x])=(dp l&&l.all (fun y=>!decide (x=y))):=by unfold dp;rw [foldl_append];show ((l.foldl uc (true,[])).1&&(l.foldl uc (true,[])).2.all _)=_;rw [za3]
theorem za5 {t:ByteArray} (h:s.data.toList=t.data.toList):s=t:=by cases s;cases t;congr;exact Array.toList_inj.1 h
theorem za6 (l:List aq) (s:ByteArray):decide (0<=num l s)=l.any (fun c=>decide (s=c.name)):=by
 induction l using Ei with
 | h0=>rfl
 | h1 l c ih=>
   rw [za0,any_append,<-ih];by_cases h:c.name=s
   ·simp [h]
   rw [if_neg h];simp [Ne.symm h]
theorem za7 (l:List aq) (c:aq):dp ((l++ [c]).map (·.name))=(dp (l.map (·.name))&& !decide (0<=num l c.name)):=by rw [map_append,map_cons,map_nil,za4,za6,all_map,not_any_eq_all_not];rfl
def dy (l:List aq):Bool:=dp (l.map (·.name))
def qn (l:List aq):Bool:=ng l f9&&ng l gr
def sp (l:List aq):Bool:=l.all fun c=>(decide (c.name=f9))==(decide (c.b9=(⟨#[]⟩:ByteArray)))
def np (l:List aq):Bool:=l.all fun c=>decide (c.b9=(⟨#[]⟩:ByteArray))||ng l c.b9
def jf (l:List aq):Bool:=(range l.length).all fun i=>decide ((dt l i).length<=l.length)
def mt (l:List aq):Bool:=
 decide (dv l (num l gr).toNat=num l f9)&&(match fieldsOf l (num l gr).toNat with | []=>false | f::_=>ep f.kind ⟨1,⟨#[]⟩⟩)
def ub (l:List aq):Bool:=l.all fun c=>(c.fields.all fun f=>im l f.kind)&&c.bd.all (nt l)
def kd (l:List aq):Bool:=((range l.length).all fun i=>dp ((fieldsOf l i).map (·.name)))&&l.all fun c=>dp (c.bd.map (·.name))
def nk (l:List aq):Bool:=((range l.length).all fun i=>decide ((fieldsOf l i).length<=12))&&((range l.length).all fun i=>decide ((fg l i).length<=16))
theorem xt (h:pd b e r=0) (A:e≠0):b=true/\r=0:=by
 cases b
 ·exact absurd h A
 exact ⟨rfl,h⟩
theorem zf3 (h:ql e r=0):e=0/\r=0:=by
 unfold ql at h;by_cases A:e=0
 ·rw [if_pos A]at h;exact ⟨A,h⟩
 rw [if_neg A]at h;exact absurd h A
theorem Fq {α:Type} {f:α->Int} :∀ {l:List α},ip f l=0->∀x∈l,f x=0
 | [],_,x,A=>by cases A
 | y::l,h,x,A=>by
   obtain ⟨h1,D⟩:=zf3 h;rcases mem_cons.1 A with rfl | A
   ·exact h1
   exact Fq D x A
theorem zf5 (h:dm s=true):s.size<=20:=by simp [dm]at h;omega
def zj (k:fw):Prop:=0<=k.kind/\k.kind<=4/\k.dj.size<=20/\(nr k.kind=false->k.dj.size=0)
def D4 (f:bv):Prop:=f.name.size<=20/\zj f.kind
def D5 (h:jg):Prop:=h.dj.size<=20/\(0<=h.zp/\h.zp<=200)/\(0<=h.upto/\h.upto<=200)/\(0<=h.loc/\h.loc<=200)
def D6 (m:ew):Prop:=m.name.size<=20/\m.args.length<=4/\(∀k∈m.args,zj k)/\zj m.ret/\(0<=m.stack/\m.stack<=10)/\(0<=m.locals/\m.locals<=10)/\m.code.size<=200/\m.hands.length<=4/\∀h∈m.hands,D5 h
def Ca (c:aq):Prop:=c.name.size<=20/\c.b9.size<=20/\c.fields.length<=6/\(∀f∈c.fields,D4 f)/\c.bd.length<=8/\∀m∈c.bd,D6 m
theorem zf6 {n m:Int} (h:win n m=true):0<=n/\n<=m:=by simpa [win]using h
theorem zf7 {k:fw} (h:ji k=true):zj k:=by
 unfold ji at h;split at h
 ·rename_i hc;have D:=zf5 h;refine ⟨?_,?_,D,fun A=>by rw [hc]at A;cases A⟩<;>simp [nr]at hc<;>omega
 rename_i hc;simp only [Bool.and_eq_true,Bool.or_eq_true,decide_eq_true_eq]at h;exact ⟨by omega,by omega,by omega,fun _=>h.2⟩
theorem zf8 {k:fw} (h:returnedB k=true):zj k:=by
 rw [returnedB,Bool.or_eq_true]at h;rcases h with h | h
 ·exact zf7 h
 simp only [Bool.and_eq_true,decide_eq_true_eq]at h;exact ⟨by omega,by omega,by omega,fun _=>h.2⟩
theorem zf9 {f:bv} (h:fu f=0):D4 f:=by obtain ⟨h1,h⟩:=xt h (by decide);obtain ⟨A,h⟩:=xt h (by decide);exact ⟨zf5 h1,zf7 A⟩
theorem zga {x:jg} (h:fm x=0):D5 x:=by obtain ⟨h1,h⟩:=xt h (by decide);obtain ⟨A,h⟩:=xt h (by decide);obtain ⟨D,h⟩:=xt h (by decide);obtain ⟨E,h⟩:=xt h (by decide);exact ⟨zf5 h1,zf6 A,zf6 D,zf6 E⟩
theorem zgb {m:ew} (h:d7 m=0):D6 m:=by obtain ⟨h1,h⟩:=xt h (by decide);obtain ⟨A,h⟩:=xt h (by decide);obtain ⟨D,h⟩:=xt h (by decide);obtain ⟨E,h⟩:=xt h (by decide);obtain ⟨F,h⟩:=xt h (by decide);obtain ⟨G,h⟩:=xt h (by decide);obtain ⟨I,h⟩:=zf3 h;obtain ⟨J,h⟩:=xt h (by decide);exact ⟨zf5 h1,of_decide_eq_true A,fun k L=>zf7 (xt (Fq I k L) (by decide)).1,zf8 J,zf6 F,zf6 G,of_decide_eq_true D,of_decide_eq_true E,fun x N=>zga (Fq h x N)⟩
theorem zgc {c:aq} (h:fb c=0):Ca c:=by
 obtain ⟨h1,h⟩:=xt h (by decide);obtain ⟨A,h⟩:=xt h (by decide);obtain ⟨D,h⟩:=xt h (by decide);obtain ⟨E,h⟩:=xt h (by decide);obtain ⟨F,h⟩:=zf3 h;refine ⟨zf5 h1,?_,of_decide_eq_true D,fun f G=>zf9 (Fq F f G),of_decide_eq_true E,fun m I=>zgb (Fq h m I)⟩;rw [Bool.or_eq_true]at A;rcases A with A | A
 ·have:=of_decide_eq_true A;omega
 exact zf5 A
theorem zgd {l:List aq} (h:ed l=0):l.length<=10/\∀c∈l,Ca c:=by obtain ⟨h1,h⟩:=xt h (by decide);exact ⟨of_decide_eq_true h1,fun c hc=>zgc (Fq h c hc)⟩
end Go.Proofs.YtjdnmblggdobgaaGreat
