import Derived.Test.YtjdnmblggdobgaaGreatArgH
namespace Go.Proofs.YtjdnmblggdobgaaGreat
open Go.ChangeShapes Go.WideShapes Go.ChangeAt Go.RowKit Go.Deep
theorem cWh:Tryz.prog.cellsOf 59=6:=by kernel_rfl
theorem cBo:Tryz.prog.cellsOf 4=1:=by kernel_rfl
theorem len6 {α:Type} {l:List α} (h:l.length=6):∃c0 c1 c2 c3 c4 c5,l= [c0,c1,c2,c3,c4,c5]:=by
 match l,h with
 | [c0,c1,c2,c3,c4,c5],_=>exact ⟨_,_,_,_,_,_,rfl⟩
theorem what_reads {H:Type} {enc:TypeId×Value->H} {w:World} {fuel:Nat} {cs:List Value} {x:DataW H×List MemPlace} (h:DataW.trod enc Tryz.prog w 0 (fun _=>true) true fuel 59 cs=some x):
 ∃(a b c t l:Int) (o:Bool),cs= [.int .i64 a,.int .i64 b,.int .i64 c,.int .i64 t,.int .i64 l,.bool o]/\(Lit.int .i64 a).wf=true/\(Lit.int .i64 b).wf=true/\(Lit.int .i64 c).wf=true/\(Lit.int .i64 t).wf=true/\(Lit.int .i64 l).wf=true:=by
 obtain ⟨ys,m,rfl,_,hl,hn,hel⟩:=DataW.trod_struct Tryz.underlying59 h
 rw [cWh]at hl
 clear h
 obtain ⟨c0,c1,c2,c3,c4,c5,rfl⟩:=len6 hl
 have g0:=hel 0 _ rfl
 have g1:=hel 1 _ rfl
 have g2:=hel 2 _ rfl
 have g3:=hel 3 _ rfl
 have g4:=hel 4 _ rfl
 have g5:=hel 5 _ rfl
 simp [cInt,cBo]at g0 g1 g2 g3 g4 g5
 have hn2:ys.length=6:=hn
 obtain ⟨y0,y1,y2,y3,y4,y5,rfl⟩:=len6 hn2
 obtain ⟨a0,e0,_,w0⟩:=DataW.trod_int Tryz.underlying3 g0
 obtain ⟨a1,e1,_,w1⟩:=DataW.trod_int Tryz.underlying3 g1
 obtain ⟨a2,e2,_,w2⟩:=DataW.trod_int Tryz.underlying3 g2
 obtain ⟨a3,e3,_,w3⟩:=DataW.trod_int Tryz.underlying3 g3
 obtain ⟨a4,e4,_,w4⟩:=DataW.trod_int Tryz.underlying3 g4
 obtain ⟨o,e5,_⟩:=DataW.trod_bool Tryz.underlying4 g5
 simp at e0 e1 e2 e3 e4 e5
 subst e0 e1 e2 e3 e4 e5
 exact ⟨_,_,_,_,_,_,rfl,w0,w1,w2,w3,w4⟩
end Go.Proofs.YtjdnmblggdobgaaGreat
