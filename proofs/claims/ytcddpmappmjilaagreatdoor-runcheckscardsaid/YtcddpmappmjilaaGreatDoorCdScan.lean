import Derived.Test.YtcddpmappmjilaaGreatDoorCdPlain
namespace Go.Proofs.YtcddpmappmjilaaGreatDoor.Cd
open Go.RowKit
def tab:List Nat:=[0,1,0,3,3,0,0,0,0,0,0,0,0,2,2,2,2,2,3,4,4,0,3,0,0,0,4,0,0,3,3,0,0,0,4,0,0]
def kOf (o:Nat):Nat:=tab.getD o 0
theorem kOf_lt (o:Nat):kOf o<5:=by
 unfold kOf
 by_cases h:o<37
 ·
  have:∀o:Fin 37,tab.getD o.val 0<5:=by decide
  exact this ⟨o,h⟩
 rw [List.getD_eq_getElem?_getD,List.getElem?_eq_none (by simp [tab];omega)]
 simp
structure Op4 where
 loc:Int
 op:Int
 a:Int
 b:Int
def Op4.cells (x:Op4):List Value:=[.int .i64 x.loc,.int .i64 x.op,.int .i64 x.a,.int .i64 x.b]
def cellsOf (l:List Op4):List Value:=l.flatMap Op4.cells
theorem cellsOf_snoc (l:List Op4) (x:Op4):cellsOf (l++ [x])=cellsOf l++x.cells:=by simp [cellsOf]
def oneAt (s:ByteArray) (p:Nat):Op4:=⟨p,bt s p,argA (kOf (bt s p)) s p,argB (kOf (bt s p)) s p⟩
def nextAt (s:ByteArray) (p:Nat):Nat:=p+1+mOf (kOf (bt s p))
def scan (s:ByteArray):Nat->Nat->List Op4->Except (Int×Int) (List Op4)
 | 0,_,acc=>.ok acc
 | f+1,p,acc=>
   if p<s.size then
    if 37<=bt s p then .error (7,p)
    else if s.size<nextAt s p then .error (1,p)
    else scan s f (nextAt s p) (acc++ [oneAt s p])
   else .ok acc
theorem scan_end (s:ByteArray) (f p:Nat) (acc:List Op4) (h:¬p<s.size):scan s f p acc=.ok acc:=by
 cases f with
 | zero=>rfl
 | succ f=>simp [scan,h]
theorem scan_kind (s:ByteArray) (f p:Nat) (acc:List Op4) (h:p<s.size) (hf:s.size - p<=f) (ho:37<=bt s p):scan s f p acc=.error (7,p):=by
 cases f with
 | zero=>omega
 | succ f=>simp [scan,h,ho]
theorem scan_short (s:ByteArray) (f p:Nat) (acc:List Op4) (h:p<s.size) (hf:s.size - p<=f) (ho:¬ 37<=bt s p) (hn:s.size<nextAt s p):scan s f p acc=.error (1,p):=by
 cases f with
 | zero=>omega
 | succ f=>simp only [scan,h,ho,hn,if_true,if_false]
theorem scan_step (s:ByteArray) (f p:Nat) (acc:List Op4) (h:p<s.size) (hf:s.size - p<=f) (ho:¬ 37<=bt s p) (hn:¬s.size<nextAt s p):
 ∃f',s.size - nextAt s p<=f'/\scan s f p acc=scan s f' (nextAt s p) (acc++ [oneAt s p]):=by
 cases f with
 | zero=>omega
 | succ f=>exact ⟨f,by unfold nextAt;omega,by simp only [scan,h,ho,hn,if_true,if_false]⟩
def place:List Op4->Int->Nat->Option Nat
 | [],_,_=>none
 | x::r,n,k=>if x.loc=n then some k else place r n (k+1)
def get4 (l:List Op4) (k:Nat):Op4:=l.getD k ⟨0,0,0,0⟩
theorem place_hit (l:List Op4) (n:Int) (k:Nat) (hk:k<l.length) (h:(get4 l k).loc=n):place (l.drop k) n k=some k:=by
 rw [List.drop_eq_getElem_cons hk,place,if_pos]
 simpa [get4,hk]using h
theorem place_miss (l:List Op4) (n:Int) (k:Nat) (hk:k<l.length) (h:¬(get4 l k).loc=n):place (l.drop k) n k=place (l.drop (k+1)) n (k+1):=by
 rw [List.drop_eq_getElem_cons hk,place,if_neg]
 simpa [get4,hk]using h
theorem place_none (l:List Op4) (n:Int) (k:Nat) (hk:¬k<l.length):place (l.drop k) n k=none:=by
 rw [List.drop_of_length_le (by omega)]
 rfl
def placeN (l:List Op4) (n:Int):Int:=match place l n 0 with | some k=>k | none=>0
def placeE (l:List Op4) (n:Int):Int:=match place l n 0 with | some _=>0 | none=>5
theorem placeN_some {l:List Op4} {n:Int} {k:Nat} (h:place l n 0=some k):placeN l n=k:=by simp [placeN,h]
theorem placeE_some {l:List Op4} {n:Int} {k:Nat} (h:place l n 0=some k):placeE l n=0:=by simp [placeE,h]
theorem placeN_none {l:List Op4} {n:Int} (h:place l n 0=none):placeN l n=0:=by simp [placeN,h]
theorem placeE_none {l:List Op4} {n:Int} (h:place l n 0=none):placeE l n=5:=by simp [placeE,h]
theorem cellsOf_get (l:List Op4):∀k,k<l.length->∀j,j<4->(cellsOf l)[k*4+j]? =(get4 l k).cells[j]? :=by
 induction l with
 | nil=>intro k hk;simp at hk
 | cons x l ih=>
   intro k hk j hj
   have e:cellsOf (x::l)=x.cells++cellsOf l:=by simp [cellsOf]
   have ex:x.cells.length=4:=rfl
   cases k with
   | zero=>
     rw [e,List.getElem?_append_left (by omega)]
     simp [get4]
   | succ k=>
     rw [e,List.getElem?_append_right (by omega),ex,show (k+1)*4+j - 4=k*4+j by omega,ih k (by simpa using hk) j hj]
     simp [get4]
def Okay (l:List Op4):Prop:=∀x∈l,∃o:Nat,o<37/\x.op=o
theorem scan_okay (s:ByteArray):∀(f p:Nat) (acc l:List Op4),Okay acc->scan s f p acc=.ok l->Okay l
 | 0,_,acc,l,h,e=>by simp only [scan,Except.ok.injEq]at e;rwa [<-e]
 | f+1,p,acc,l,h,e=>by
   unfold scan at e
   split at e
   ·
    split at e
    ·
     cases e
    split at e
    ·
     cases e
    refine scan_okay s f _ _ l ?_ e
    intro x hx
    rcases List.mem_append.1 hx with hx | hx
    ·
     exact h x hx
    rw [List.mem_singleton]at hx
    subst hx
    exact ⟨bt s p,by omega,rfl⟩
   simp only [Except.ok.injEq]at e;rwa [<-e]
def bad (l:List Op4) (x:Op4):Bool:=kOf x.op.toNat==2&&(place l x.a 0).isNone
def firstBad (l:List Op4):List Op4->Option Int
 | []=>none
 | x::r=>if bad l x then some x.loc else firstBad l r
theorem firstBad_hit (l:List Op4) (k:Nat) (hk:k<l.length) (h:bad l (get4 l k)=true):firstBad l (l.drop k)=some (get4 l k).loc:=by
 have e:l[k]=get4 l k:=by simp [get4,hk]
 rw [List.drop_eq_getElem_cons hk,firstBad,e,if_pos h]
theorem firstBad_miss (l:List Op4) (k:Nat) (hk:k<l.length) (h:¬bad l (get4 l k)=true):firstBad l (l.drop k)=firstBad l (l.drop (k+1)):=by
 have e:l[k]=get4 l k:=by simp [get4,hk]
 rw [List.drop_eq_getElem_cons hk,firstBad,e,if_neg h]
theorem firstBad_end (l:List Op4) (k:Nat) (hk:¬k<l.length):firstBad l (l.drop k)=none:=by
 rw [List.drop_of_length_le (by omega)]
 rfl
theorem get4_mem (l:List Op4) (k:Nat) (hk:k<l.length):get4 l k∈l:=by
 have e:l[k]=get4 l k:=by simp [get4,hk]
 rw [<-e]
 exact List.getElem_mem hk
def dec (s:ByteArray):Except (Int×Int) (List Op4):=
 match scan s s.size 0 []with
 | .error e=>.error e
 | .ok l=>match firstBad l l with
   | some n=>.error (3,n)
   | none=>.ok l
theorem dec_err {s:ByteArray} {e p:Int} (h:scan s s.size 0 []=.error (e,p)):dec s=.error (e,p):=by simp [dec,h]
theorem dec_bad {s:ByteArray} {l:List Op4} {n:Int} (h:scan s s.size 0 []=.ok l) (hb:firstBad l l=some n):dec s=.error (3,n):=by simp [dec,h,hb]
theorem dec_ok {s:ByteArray} {l:List Op4} (h:scan s s.size 0 []=.ok l) (hb:firstBad l l=none):dec s=.ok l:=by simp [dec,h,hb]
end Go.Proofs.YtcddpmappmjilaaGreatDoor.Cd
