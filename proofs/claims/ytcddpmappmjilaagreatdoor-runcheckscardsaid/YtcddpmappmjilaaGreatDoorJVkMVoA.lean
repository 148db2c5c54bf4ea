import Derived.Test.YtcddpmappmjilaaGreatDoorJLErrLEq
import Derived.Test.YtcddpmappmjilaaGreatDoorJLDatVkP
import Derived.Test.YtcddpmappmjilaaGreatDoorArgC
import Derived.Test.YtcddpmappmjilaaGreatDoorJCdInsCdDecode
namespace Go.Proofs.YtcddpmappmjilaaGreatDoor
open Go.RowKit Go.Maps
abbrev kv (x:KindD):Value:=.agg #[.int .i64 x.kind,.string x.cls]
structure GlK (w:World):Prop where
 t0:w.cell? ⟨6,0,none⟩=some (.int .i64 3)
 t1:w.cell? ⟨6,1,none⟩=some (.string topName)
 a0:w.cell? ⟨3,0,none⟩=some (.int .i64 6)
 a1:w.cell? ⟨3,1,none⟩=some (.string noNm)
 u0:w.cell? ⟨2,0,none⟩=some (.int .i64 5)
 u1:w.cell? ⟨2,1,none⟩=some (.string noNm)
 n0:w.cell? ⟨0,0,none⟩=some (.int .i64 1)
 n1:w.cell? ⟨0,1,none⟩=some (.string noNm)
 r0:w.cell? ⟨1,0,none⟩=some (.int .i64 2)
 r1:w.cell? ⟨1,1,none⟩=some (.string noNm)
 big:6<w.heap.size
theorem GlK.below {w w':World} (h:GlK w) (hb:Below w.heap.size w w'):GlK w':=by
 have hz:=h.big
 have hc:∀g j,g<=6->w'.cell? ⟨g,j,none⟩=w.cell? ⟨g,j,none⟩:=fun g j hg=>hb.cell (p:=⟨g,j,none⟩) (by simp;omega)
 exact ⟨(hc _ _ (by decide)).trans h.t0,(hc _ _ (by decide)).trans h.t1,(hc _ _ (by decide)).trans h.a0,(hc _ _ (by decide)).trans h.a1,(hc _ _ (by decide)).trans h.u0,(hc _ _ (by decide)).trans h.u1,(hc _ _ (by decide)).trans h.n0,(hc _ _ (by decide)).trans h.n1,(hc _ _ (by decide)).trans h.r0,(hc _ _ (by decide)).trans h.r1,Nat.lt_of_lt_of_le hz hb.size⟩
theorem kindEq (x y:KindD) (w:World):(binOp BinOp.eql 80 (kv x) (kv y)).run Tryz.prog w=.ok (.bool (sameK x y)) w:=by
 rw [kindEql,sameK_eq]
def isTh (x:KindD):Bool:=!sameK x numK&& !sameK x anyK
set_option maxHeartbeats 1000000 in
theorem isThing_any (w:World) (x:KindD) (hg:GlK w):Calls Tryz.prog 335 #[kv x] w fun r w'=>r=.returned (.bool (isTh x))/\Below w.heap.size w w':=by
 have HB:=mkHid ((Below.refl w.heap.size w).alloc (Nat.le_refl _) (.cells #[.int .i64 x.kind,.string x.cls] 80))
 obtain ⟨-,-,a0,a1,-,-,n0,n1,-,-,-⟩:=hg.below HB.out
 have e1:∀W,(binOp BinOp.neq 80 (kv x) (.agg #[.int .i64 1,.string noNm])).run Tryz.prog W=.ok (.bool (!sameK x numK)) W:=kindNeq x numK
 have e2:∀W,(binOp BinOp.neq 80 (kv x) (.agg #[.int .i64 6,.string noNm])).run Tryz.prog W=.ok (.bool (!sameK x anyK)) W:=kindNeq x anyK
 have eg:=kindNeqG
 have HR:Hid (isTh x=(!sameK x numK&& !sameK x anyK)):=rfl
 cases h1:sameK x numK<;>cases h2:sameK x anyK
 all_goals
  rw [h1]at e1 HR
  rw [h2]at e2 HR
  go_enter Tryz.func335,Tryz.ntmps335
  go_wp2_with fail
  go_ret
  exact ⟨by rw [HR.out];rfl,HB.out⟩
end Go.Proofs.YtcddpmappmjilaaGreatDoor
namespace Go.Proofs.YtcddpmappmjilaaGreatDoor
open Go.ChangeShapes Go.WideShapes Go.ChangeAt Go.RowKit Go.Deep
theorem kcells {W:World} {n:String} {g:Nat} {k:Int} {s:List UInt8} {r:List (String×DataW Unit)} (h:laidMet Tryz.prog ((n,.agg [.lit (.int .i64 k),.lit (.string s)])::r) W)
 (hg:Tryz.prog.globalNamed n=some g) (ht:(Tryz.prog.globals[g]?).map (·.type)=some 80):
 W.cell? ⟨g,0,none⟩=some (.int .i64 k)/\W.cell? ⟨g,1,none⟩=some (.string ⟨s.toArray⟩):=by
 obtain ⟨ps,⟨g0,t0,cs0,f0,p0,q0,hg0,ht0,hv0,hd0,_⟩,_⟩:=h
 obtain rfl:=Option.some.inj (hg.symm.trans hg0)
 obtain rfl:=Option.some.inj (ht.symm.trans ht0)
 obtain ⟨ys,m,-,hx,hl,hn,hel⟩:=DataW.trod_struct Tryz.underlying80 hd0
 rw [cKind]at hl
 have hn2:ys.length=2:=hn
 obtain ⟨c0,c1,hcs⟩:=len2 hl
 rw [hcs]at hel
 have g0:=hel 0 _ rfl
 have g1:=hel 1 _ rfl
 simp [cInt,cStr]at g0 g1
 obtain ⟨y0,y1,rfl⟩:=len2 hn2
 obtain ⟨a,ea,ex,_⟩:=DataW.trod_int Tryz.underlying3 g0
 obtain ⟨b,eb,ey,_⟩:=DataW.trod_string Tryz.underlying9 g1
 simp at ea eb ex ey
 subst ea eb
 have hz:=DataW.agg.inj (Prod.mk.inj hx).1
 simp [ex,ey]at hz
 obtain ⟨h1,h2⟩:=hz
 obtain rfl:cs0=#[.int .i64 a,.string b]:=Array.toList_inj.1 hcs
 refine ⟨(World.var?_cell hg0 hv0 0).trans ?_,(World.var?_cell hg0 hv0 1).trans ?_⟩
 ·
  subst h1
  rfl
 subst h2
 rfl
theorem glk_of {W:World} (h:laidMetH Tryz.prog Cd.laidL W):GlK W:=by
 have h':laidMet Tryz.prog Cd.laidL W:=h
 have n:=kcells h'.tail.tail (g:=0) (by kernel_rfl) (by kernel_rfl)
 have r:=kcells h'.tail.tail.tail (g:=1) (by kernel_rfl) (by kernel_rfl)
 have u:=kcells h'.tail.tail.tail.tail (g:=2) (by kernel_rfl) (by kernel_rfl)
 have a:=kcells h'.tail.tail.tail.tail.tail (g:=3) (by kernel_rfl) (by kernel_rfl)
 have t:=kcells h'.tail.tail.tail.tail.tail.tail (g:=6) (by kernel_rfl) (by kernel_rfl)
 have hT:=(Cd.tabs_of h).two
 have h1:6<W.heap.size:=World.block_lt_of_cell? W _ t.1
 exact ⟨t.1,t.2,a.1,a.2,u.1,u.2,n.1,n.2,r.1,r.2,by omega⟩
def layK (k:Int) (s:ByteArray):Obj->Obj
 | .cells _ t frozen=>.cells #[.int .i64 k,.string s] t frozen
 | o=>o
def layKs (w:World):World:={ Cd.layWorld w with heap:=(((((Cd.layWorld w).heap.modify 0 (layK 1 noNm)).modify 1 (layK 2 noNm)).modify 2 (layK 5 noNm)).modify 3 (layK 6 noNm)).modify 6 (layK 3 topName) }
end Go.Proofs.YtcddpmappmjilaaGreatDoor
