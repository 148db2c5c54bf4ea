import Derived.Test.YtjdnmblggdobgaaGreatJArgCArgL
import Derived.Test.YtjdnmblggdobgaaGreatJHpKHtA
namespace Go.Proofs.YtjdnmblggdobgaaGreat
open Go.ChangeShapes Go.WideShapes Go.ChangeAt Go.RowKit Go.Deep
theorem cHp:Tryz.prog.cellsOf 24=7:=by kernel_rfl
theorem len7 {α:Type} {l:List α} (h:l.length=7):∃c0 c1 c2 c3 c4 c5 c6,l= [c0,c1,c2,c3,c4,c5,c6]:=by
 match l,h with
 | [c0,c1,c2,c3,c4,c5,c6],_=>exact ⟨_,_,_,_,_,_,_,rfl⟩
def RIW (M:Nat->Prop) (w:World) (cs:List Value) (y:Int):Prop:=RI M w cs y/\(Lit.int .i64 y).wf=true
theorem zs6 {H:Type} {enc:TypeId×Value->H} {w:World} (fuel:Nat) (cs:List Value) (x:DataW H×List MemPlace) (h:DataW.trod enc Tryz.prog w 0 (fun _=>true) true fuel 3 cs=some x):∃y:Int,RIW (· <w.heap.size) w cs y:=by
 obtain ⟨a,ea,_,hw⟩:=DataW.trod_int Tryz.underlying3 h
 exact ⟨a,ea,hw⟩
theorem SL.riw {M:Nat->Prop} {w:World} {v:Value} {l:List Int} (h:SL 1 RIW M w v l):SL 1 RI M w v l/\∀x∈l,(Lit.int .i64 x).wf=true:=by
 obtain ⟨ao,cap,e,h1,h2,h3⟩:=h
 refine ⟨⟨ao,cap,e,h1,h2,fun k hk=>?_⟩,fun x hx=>?_⟩
 ·obtain ⟨b,off,cs,e1,e2,e3,e4,e5,e6⟩:=h3 k hk
  exact ⟨b,off,cs,e1,e2,e3,e4,e5,e6.1⟩
 obtain ⟨k,hk,rfl⟩:=List.getElem_of_mem hx
 obtain ⟨b,off,cs,e1,e2,e3,e4,e5,e6⟩:=h3 k hk
 exact e6.2
theorem heap_reads {H:Type} {enc:TypeId×Value->H} {w:World} {fuel:Nat} {cs:List Value} {x:DataW H×List MemPlace} (h:DataW.trod enc Tryz.prog w 0 (fun _=>true) true fuel 24 cs=some x):
 ∃(vW vO:Value) (hp:HeapD),cs= [vW,.int .i64 hp.young,.int .i64 hp.old,.int .i64 hp.ytop,.int .i64 hp.otop,vO,.int .i64 hp.next]/\SL 1 RI (· <w.heap.size) w vW hp.words/\SL 1 RI (· <w.heap.size) w vO hp.noted/\(∀x∈hp.words,(Lit.int .i64 x).wf=true)/\(∀x∈hp.noted,(Lit.int .i64 x).wf=true)/\(Lit.int .i64 hp.next).wf=true:=by
 obtain ⟨ys,m,rfl,_,hl,hn,hel⟩:=DataW.trod_struct Tryz.underlying24 h
 rw [cHp]at hl
 clear h
 obtain ⟨c0,c1,c2,c3,c4,c5,c6,rfl⟩:=len7 hl
 have g0:=hel 0 _ rfl
 have g1:=hel 1 _ rfl
 have g2:=hel 2 _ rfl
 have g3:=hel 3 _ rfl
 have g4:=hel 4 _ rfl
 have g5:=hel 5 _ rfl
 have g6:=hel 6 _ rfl
 simp [cInts,cInt]at g0 g1 g2 g3 g4 g5 g6
 have hn2:ys.length=7:=hn
 obtain ⟨y0,y1,y2,y3,y4,y5,y6,rfl⟩:=len7 hn2
 obtain ⟨l0,h0⟩:=zsu Tryz.underlying22 cInt (by omega) zs6 g0
 obtain ⟨a1,e1,_⟩:=DataW.trod_int Tryz.underlying3 g1
 obtain ⟨a2,e2,_⟩:=DataW.trod_int Tryz.underlying3 g2
 obtain ⟨a3,e3,_⟩:=DataW.trod_int Tryz.underlying3 g3
 obtain ⟨a4,e4,_⟩:=DataW.trod_int Tryz.underlying3 g4
 obtain ⟨l5,h5⟩:=zsu Tryz.underlying22 cInt (by omega) zs6 g5
 obtain ⟨a6,e6,_,w6⟩:=DataW.trod_int Tryz.underlying3 g6
 simp at e1 e2 e3 e4 e6
 subst e1 e2 e3 e4 e6
 exact ⟨_,_,⟨l0,a1,a2,a3,a4,l5,a6⟩,rfl,h0.riw.1,h5.riw.1,h0.riw.2,h5.riw.2,w6⟩
end Go.Proofs.YtjdnmblggdobgaaGreat
