import Derived.Test.YtjdnmblggdobgaaGreatJTk2Dies
import Derived.Test.YtjdnmblggdobgaaGreatJHuAHuC
import Derived.Test.YtjdnmblggdobgaaGreatHuI
import Derived.Test.YtjdnmblggdobgaaGreatJHsMHuM
import Derived.Test.YtjdnmblggdobgaaGreatHqB
import Derived.Test.YtjdnmblggdobgaaGreatJHmCBx
import Derived.Deep.RegionLawGrows
set_option maxHeartbeats 1000000
set_option maxRecDepth 100000
namespace Go.Proofs.YtjdnmblggdobgaaGreat
open Go.RowKit Go.Maps
theorem zld (w:World) (B P Q:Nat) (vW vO kC kS kF kN kT:Value) (h:HeapD) (d:LinkD) (g:Hd B w vW vO kC kS kF kN kT h d) (hP:w.heap[P]? =some (.cells #[vW,.int .i64 h.young,.int .i64 h.old,.int .i64 h.ytop,.int .i64 h.otop,vO,.int .i64 h.next] 24 (0,0))) (hQ:w.heap[Q]? =some (.cells #[kC,kS,kF,kN,kT] 36 (0,0))):
 Calls Tryz.prog 52 #[.pointer (some ⟨P,0,none⟩),.pointer (some ⟨Q,0,none⟩)] w fun r w'=>ChkOut (heapErr d h) r/\Below w.heap.size w w':=by
 have HCK:=mk0 (zlc g)
 have hPl:=lt0 hP
 have hQl:=lt0 hQ
 have c0:=cl0 hP 0 (x:=vW) rfl
 have c1:=cl0 hP 1 (x:=.int .i64 h.young) rfl
 have c2:=cl0 hP 2 (x:=.int .i64 h.old) rfl
 have c3:=cl0 hP 3 (x:=.int .i64 h.ytop) rfl
 have c4:=cl0 hP 4 (x:=.int .i64 h.otop) rfl
 have c5:=cl0 hP 5 (x:=vO) rfl
 have c6:=cl0 hP 6 (x:=.int .i64 h.next) rfl
 have e0:=cl0 hQ 0 (x:=kC) rfl
 have e1:=cl0 hQ 1 (x:=kS) rfl
 have e2:=cl0 hQ 2 (x:=kF) rfl
 have e3:=cl0 hQ 3 (x:=kN) rfl
 have e4:=cl0 hQ 4 (x:=kT) rfl
 obtain ⟨aW,cW,aO,cO,aC,cC,aS,cS,aF,cF,aN,cN,aT,cT,rfl,rfl,rfl,rfl,rfl,rfl,rfl⟩:=g.agg
 clear g hP hQ
 go_enter Tryz.func52,Tryz.ntmps52
 go_wp2_with fail
 refine HCK.out.mono ?_
 rintro r w1 ⟨hb,⟨h0,X,vA,ts,rfl,-⟩ | ⟨h0,rfl⟩⟩
 ·have HC:=mk0 h0
  have HB:=mk0 hb
  clear h0 hb c0 c1 c2 c3 c4 c5 c6 e0 e1 e2 e3 e4
  go_wp2_with fail
  go_end0
  exact ⟨Or.inr ⟨HC.out,rfl⟩,HB.out⟩
 exact ⟨rfl,Or.inl ⟨h0,rfl⟩,hb⟩
theorem callHCheck1 (args:Array Value) (w:World):(callFunc 52 args).run Tryz.prog w=.ok (.enter 52 args) w:=by kernel_rfl
theorem zle (w:World) (B:Nat) (vW vO kC kS kF kN kT:Value) (h:HeapD) (d:LinkD) (g:Hd B w vW vO kC kS kF kN kT h d):
 Calls Tryz.prog 20 #[.agg #[vW,.int .i64 h.young,.int .i64 h.old,.int .i64 h.ytop,.int .i64 h.otop,vO,.int .i64 h.next],.agg #[kC,kS,kF,kN,kT]] w fun r w'=>r=.returned (.int .i64 (heapErr d h))/\Below w.heap.size w w':=by
 have hmf:=mkf Tryz.prog
 have HG:=mk0 g
 obtain ⟨aW,cW,aO,cO,aC,cC,aS,cS,aF,cF,aN,cN,aT,cT,rfl,rfl,rfl,rfl,rfl,rfl,rfl⟩:=g.agg
 clear g
 have hB0:=(Below.refl w.heap.size w).alloc (Nat.le_refl _) (.cells #[.slice aW h.words.length cW,.int .i64 h.young,.int .i64 h.old,.int .i64 h.ytop,.int .i64 h.otop,.slice aO h.noted.length cO,.int .i64 h.next] 24)
 have hB1:=hB0.alloc hB0.size (.cells #[.slice aC d.classes.length cC,.slice aS d.supers.length cS,.slice aF d.fields.length cF,.slice aN d.names.length cN,.slice aT d.targets.length cT] 36)
 have hB2:=hB1.alloc hB1.size (.cells #[.int .i64 0,.int .i64 0] 84)
 have hp0:(((w.alloc (.cells #[.slice aW h.words.length cW,.int .i64 h.young,.int .i64 h.old,.int .i64 h.ytop,.int .i64 h.otop,.slice aO h.noted.length cO,.int .i64 h.next] 24)).alloc (.cells #[.slice aC d.classes.length cC,.slice aS d.supers.length cS,.slice aF d.fields.length cF,.slice aN d.names.length cN,.slice aT d.targets.length cT] 36)).alloc (.cells #[.int .i64 0,.int .i64 0] 84)).heap[w.heap.size]? =some (.cells #[.slice aW h.words.length cW,.int .i64 h.young,.int .i64 h.old,.int .i64 h.ytop,.int .i64 h.otop,.slice aO h.noted.length cO,.int .i64 h.next] 24 (0,0)):=(Below.heap_alloc _ _ _ (by simp;omega)).trans ((Below.heap_alloc _ _ _ (by simp)).trans (heap_alloc_new w _))
 have hp1:(((w.alloc (.cells #[.slice aW h.words.length cW,.int .i64 h.young,.int .i64 h.old,.int .i64 h.ytop,.int .i64 h.otop,.slice aO h.noted.length cO,.int .i64 h.next] 24)).alloc (.cells #[.slice aC d.classes.length cC,.slice aS d.supers.length cS,.slice aF d.fields.length cF,.slice aN d.names.length cN,.slice aT d.targets.length cT] 36)).alloc (.cells #[.int .i64 0,.int .i64 0] 84)).heap[w.heap.size+1]? =some (.cells #[.slice aC d.classes.length cC,.slice aS d.supers.length cS,.slice aF d.fields.length cF,.slice aN d.names.length cN,.slice aT d.targets.length cT] 36 (0,0)):=(Below.heap_alloc _ _ _ (by simp)).trans (by
  have:=heap_alloc_new (w.alloc (.cells #[.slice aW h.words.length cW,.int .i64 h.young,.int .i64 h.old,.int .i64 h.ytop,.int .i64 h.otop,.slice aO h.noted.length cO,.int .i64 h.next] 24)) (.cells #[.slice aC d.classes.length cC,.slice aS d.supers.length cS,.slice aF d.fields.length cF,.slice aN d.names.length cN,.slice aT d.targets.length cT] 36)
  simpa using this)
 have HP0:=mk0 hp0
 have HP1:=mk0 hp1
 clear hp0 hp1
 go_enter Tryz.func20,Tryz.ntmps20
 go_wp2_with fail
 refine (zb6 52 _ _ (fun w1=>heapErr d h=0/\Below w.heap.size w w1) (fun e p w1=>heapErr d h=e/\Below w.heap.size w w1) (callHCheck1 _) ?hc).mono ?_
 case hc=>
  refine (zld _ B w.heap.size (w.heap.size+1) _ _ _ _ _ _ _ h d (HG.out.below (hB2.mono HG.out.le)) HP0.out HP1.out).mono ?_
  rintro r w1 ⟨hr,hb⟩
  have hb':=hB2.trans (hb.mono hB2.size)
  refine ⟨?_,?_⟩
  ·rw [hb.block ((w.alloc (.cells #[.slice aW h.words.length cW,.int .i64 h.young,.int .i64 h.old,.int .i64 h.ytop,.int .i64 h.otop,.slice aO h.noted.length cO,.int .i64 h.next] 24)).alloc (.cells #[.slice aC d.classes.length cC,.slice aS d.supers.length cS,.slice aF d.fields.length cF,.slice aN d.names.length cN,.slice aT d.targets.length cT] 36)).heap.size (by simp)]
   exact heap_alloc_new _ _
  rcases hr with ⟨hc,rfl⟩ | ⟨hc,rfl⟩
  ·exact Or.inr ⟨_,_,rfl,rfl,hb'⟩
  exact Or.inl ⟨rfl,hc,hb'⟩
 rintro r w2 ⟨w1,hg,hr⟩
 have hz:((w.alloc (.cells #[.slice aW h.words.length cW,.int .i64 h.young,.int .i64 h.old,.int .i64 h.ytop,.int .i64 h.otop,.slice aO h.noted.length cO,.int .i64 h.next] 24)).alloc (.cells #[.slice aC d.classes.length cC,.slice aS d.supers.length cS,.slice aF d.fields.length cF,.slice aN d.names.length cN,.slice aT d.targets.length cT] 36)).heap.size=w.heap.size+2:=by simp
 rw [hz]at hg
 clear hB0 hB1 hB2 hz HP0 HP1
 rcases hr with ⟨rfl,hc,hB⟩ | ⟨e,p,rfl,hc,hB⟩
 ·have HC:=mk0 hc
  have HB:=mk0 (bg0 hB hg (by omega))
  clear hc hg hB hmf HG
  have hfd:=fieldErr
  go_wp2
  go_ret
  exact ⟨by rw [HC.out];rfl,HB.out⟩
 have HC:=mk0 hc
 have HB:=mk0 (bg0 hB hg (by omega))
 clear hc hg hB hmf HG
 have hfd:=fieldErr
 go_wp2
 go_ret
 exact ⟨by rw [HC.out];rfl,HB.out⟩
def formErr (d:LinkD) (tag len:Int):Int:=if isTagB d.classes.length tag then (if mayHaveB d.fields tag len then 0 else 3) else 7
theorem zry (x y z:Int):∀(m:Nat) (ws:List Int),m+2<ws.length->((ws.set m x).set (m+1) y).set (m+2) z=put3 ws m x y z
 | 0,_::_::_::_,_=>by simp [put3]
 | m+1,a::r,h=>by
   have:=zry x y z m r (by simp at h;omega)
   simp only [put3]at this
   simp [put3,this]
theorem zt2 {d:LinkD} {h:HeapD} {tag len:Int} {old:Bool} (hz:makeRes d h tag len old=0):heapErr d h=0/\formErr d tag len=0/\roomB h old len=true:=by
 unfold makeRes at hz
 by_cases h0:heapErr d h=0
 ·rw [if_pos h0]at hz
  unfold makeErr at hz
  unfold formErr
  refine ⟨h0,?_⟩
  cases h1:isTagB d.classes.length tag<;>cases h2:mayHaveB d.fields tag len<;>cases h3:roomB h old len<;>simp_all
 rw [if_neg h0]at hz
 exact absurd hz h0
theorem zt4 {d:LinkD} {tag len:Int} (hd:Few d) (hf:formErr d tag len=0):0<=len/\len<=500:=by
 unfold formErr at hf
 refine zl4 hd (tag:=tag) ?_
 cases h1:isTagB d.classes.length tag<;>cases h2:mayHaveB d.fields tag len<;>simp_all
theorem OwnV.sets {b:Nat} {w:World} {g cap:Nat} {nO:Value} {h:HeapD} (o:OwnV b w (.slice (some ⟨g,0,none⟩) h.words.length cap) nO h) (m:Nat) (v:Int):OwnV b (w.setCell ⟨g,m,none⟩ (.int .i64 v)) (.slice (some ⟨g,0,none⟩) h.words.length cap) nO (setW h m v):=by
 have hg:w.grownBy (w.setCell ⟨g,m,none⟩ (.int .i64 v)) (some g):=za8 (World.grownBy.refl _ _) _ _ (Or.inl rfl)
 refine ⟨?_,o.rO.kept hg (Or.inr (o.ne g rfl)),o.ne⟩
 show World.ownsRow _ _ _ _ _ (h.words.set m v).length (intV (h.words.set m v))
 rw [List.length_set,show intV (h.words.set m v)=(intV h.words).set m (.int .i64 v) by simp [intV,List.map_set]]
 exact zg7 o.rW m _
theorem zso {d:LinkD} {h:HeapD} {t:ThD} {k:Nat} {v:Int} (hn:noteB d h t k v=true):setD d h t k v=noteH (setW h (t.loc+3+k).toNat v) t.loc:=by
 unfold setD noteH
 rw [hn]
 rfl
theorem zsq {d:LinkD} {h:HeapD} {ts:List ThD} (h0:heapErr d h=0) (hts:bothT d h=some ts):riseB h.noted=true/\h.noted.any (badNote d h ts)=false:=by
 unfold heapErr heapRes at h0
 rw [hts]at h0
 have h1:thingsErr d h ts=0:=by
  revert h0
  cases okLk d<;>cases partsB h<;>cases wordsB h<;>cases topsB h<;>simp
 unfold thingsErr at h1
 revert h1
 cases ts.any (badHash h)<;>cases decide ((ts.map ThD.hash).Nodup)<;>cases (ts.any fun x=>hasRefB d.fields h.words x fun n=>!leadB ts n)<;>cases (restL h).any (· != 0)<;>cases riseB h.noted<;>cases h.noted.any (badNote d h ts)<;>simp
theorem zst {d:LinkD} {h:HeapD} (h0:heapErr d h=0):∃ts,bothT d h=some ts:=by
 cases hb:bothT d h with
 | some ts=>exact ⟨ts,rfl⟩
 | none=>
   unfold heapErr heapRes at h0
   rw [hb]at h0
   revert h0
   cases okLk d<;>cases partsB h<;>cases wordsB h<;>cases topsB h<;>simp
end Go.Proofs.YtjdnmblggdobgaaGreat
