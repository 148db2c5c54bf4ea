import Derived.Test.YtjdnmblggdobgaaGreatJHzBHzD
set_option maxHeartbeats 2000000
set_option maxRecDepth 100000
namespace Go.Proofs.YtjdnmblggdobgaaGreat
open Go.RowKit Go.Maps
def j5 (l:List Int) (n:Int):Int:=idx (fun x=>decide (x=n)) l
theorem zwa (w:World) (M:Nat->Prop) (v:Value) (l:List Int) (I:SL 1 RI M w v l) (n:Int):
 Calls Tryz.prog 47 #[v,.int .i64 n] w fun r w'=>r=.returned (.int .i64 (j5 l n))/\w'=w:=by
 have J:=ag I;obtain ⟨L,W,rfl,-,F,-⟩:=I;unfold maxLen at F;go_enter Tryz.func47,Tryz.ntmps47;go_wp2_with fail;go_loopw [5] (fun i wr=>∃k:Nat,k<=l.length/\i=.int .i64 k/\wr=w/\Hid (∀x∈l.take k,decide (x=n)=false)) (fun i _=>l.length - (intOf i).toNat)
 case atStart=>exact ⟨0,n0q _,rfl,rfl,fun x O=>by cases O⟩
 case round=>
  obtain ⟨k,Y,rfl,rfl,E⟩:=hrel;by_cases u:k<l.length
  ·obtain ⟨V,off,rfl,N,X⟩:=J.o.atI k u;by_cases D:l[k]=n
   ·have A:=ag (zch u E.o (decide_eq_true D));have G:(l[k]==n)=true:=by simpa using D
    go_wp2_with fail;go_ret;exact ⟨by unfold j5;rw [A.o];rfl,rfl⟩
   have A:=ag (zck u E.o (decide_eq_false D));have G:(l[k]==n)=false:=by simpa using D
   go_wp2_with fail;go_roundw
   case rel=>exact ⟨k+1,by omega,by go_num,by trivial,A.o⟩
   case measure=>simp [intOf];omega
  have A:Hid (j5 l n= -1):=zci (by have:=E.o;rwa [List.take_of_length_le (by omega)]at this);go_wp2_with fail;go_ret;exact ⟨by rw [A.o];rfl,rfl⟩
def mm (order news:List Int) (v:Int):Int:=if v=0\/j5 order v<0 then v else wd news (j5 order v)
def putW (d:be) (ge order news:List Int) (loc i:Nat):Int:=if decide (3<=i)&&jh d.fields (bj ge loc) (i - 3) then mm order news (wd ge (loc+i:Nat)) else wd ge (loc+i:Nat)
def putN (d:be) (ge order news:List Int) (loc new:Nat):Nat->List Int->List Int
 | 0,ws=>ws
 | n+1,ws=>(putN d ge order news loc new n ws).set (new+n) (putW d ge order news loc n)
theorem zwd (d:be) (ge order news:List Int) (u new:Nat):∀(n:Nat) (ws:List Int),(putN d ge order news u new n ws).length=ws.length
 | 0,_=>rfl
 | n+1,ws=>by unfold putN;rw [List.length_set,zwd]

def toR (ge:List Int) (lo:Int) (order:List Int):Int:=order.foldl (fun lo a=>lo+(3+wd ge (a+1))) lo
def gz (ge:List Int):Int->List Int->List Int
 | _,[]=>[]
 | lo,a::l=>lo::gz ge (lo+(3+wd ge (a+1))) l
theorem zwh (ge:List Int):∀(l:List Int) (lo:Int),(gz ge lo l).length=l.length
 | [],_=>rfl
 | b::l,lo=>by show (gz ge _ l).length+1=_;rw [zwh ge l];rfl
def putT (d:be) (ge order news:List Int) (ws:List Int) (loc new:Int):List Int:=putN d ge order news loc.toNat new.toNat (3+(bj ge loc).len).toNat ws
theorem zwi (d:be) (ge order news ws:List Int) (u new:Int):(putT d ge order news ws u new).length=ws.length:=zwd _ _ _ _ _ _ _ _
def stayR (d:be) (ge order news:List Int) (ts:List bp) (ws:List Int):List Int:=ts.foldl (fun ws t=>putT d ge order news ws t.loc t.loc) ws
def mi (d:be) (ge order news:List Int) (l:List (Int×Int)) (ws:List Int):List Int:=l.foldl (fun ws p=>putT d ge order news ws p.1 p.2) ws
theorem zwl (d:be) (ge order news:List Int):∀(ts:List bp) (ws:List Int),(stayR d ge order news ts ws).length=ws.length
 | [],_=>rfl
 | t::ts,ws=>by show (stayR d ge order news ts _).length=_;rw [zwl d ge order news ts,zwi]
theorem zwm (d:be) (ge order news:List Int):∀(l:List (Int×Int)) (ws:List Int),(mi d ge order news l ws).length=ws.length
 | [],_=>rfl
 | p::l,ws=>by show (mi d ge order news l _).length=_;rw [zwm d ge order news l,zwi]
def rebD (d:be) (h:bd) (stay:List bp) (order:List Int) (lo:Int):bd:=
 { h with ab:=mi d h.ab order (gz h.ab lo order) (order.zip (gz h.ab lo order)) (stayR d h.ab order (gz h.ab lo order) stay (List.replicate h.ab.length 0)),bg:=1,bk:=toR h.ab lo order,ap:=[] }
def rebR (h:bd) (order:List Int) (lo:Int) (rs:List Int):List Int:=rs.map (mm order (gz h.ab lo order))
end Go.Proofs.YtjdnmblggdobgaaGreat
