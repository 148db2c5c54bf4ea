import Derived.Test.YtjdnmblggdobgaaGreatJTk2Dies
import Derived.Test.YtjdnmblggdobgaaGreatJHtBHtF
import Derived.Laws.CopyOwn
namespace Go.Proofs.YtjdnmblggdobgaaGreat
open Go.RowKit Go.Maps
def put3 (ws:List Int) (off:Nat) (x y z:Int):List Int:=ws.take off++([x,y,z]++ws.drop (off+3))
theorem zmn {ws:List Int} {off:Nat} (x y z:Int) (h:off+3<=ws.length):(put3 ws off x y z).length=ws.length:=by
 simp [put3]
 omega
theorem zmo {cur:List Value} {ws:List Int} {off:Nat} (x y z:Int) (hc:cur.take ws.length=intV ws) (h:off+3<=ws.length):
 (cur.take off++([Value.int .i64 x,.int .i64 y,.int .i64 z]++cur.drop (off+3))).take ws.length=intV (put3 ws off x y z):=by
 have hl:ws.length<=cur.length:=by
  have:=congrArg List.length hc
  rw [List.length_take,ziq]at this
  omega
 have e1:cur.take off=intV (ws.take off):=by
  have:(cur.take ws.length).take off=(intV ws).take off:=by rw [hc]
  rw [List.take_take,Nat.min_eq_left (by omega)]at this
  rw [this,intV,intV,List.map_take]
 have e2:(cur.drop (off+3)).take (ws.length - (off+3))=intV (ws.drop (off+3)):=by
  have:(cur.take ws.length).drop (off+3)=(intV ws).drop (off+3):=by rw [hc]
  rw [List.drop_take]at this
  rw [this,intV,intV,List.map_drop]
 rw [List.take_append,List.take_append,List.length_take,Nat.min_eq_left (by omega),List.take_of_length_le (by rw [List.length_take];omega)]
 rw [List.take_of_length_le (l:=[Value.int .i64 x,.int .i64 y,.int .i64 z]) (by simp;omega)]
 rw [show ws.length - off - [Value.int .i64 x,.int .i64 y,.int .i64 z].length=ws.length - (off+3) by simp;omega,e1,e2,put3,zip,zip]
 rfl
theorem zmp {ops:Array Oper} {o:Oper} {a:Act} {w:World} {K:Act->World->Prop} {Q:Exit->Act->World->Prop} {E:Prop} (hgd:o.guard=none) (dd s:Operand)
 (ho:o.op=.call { callee:=.builtin .copy,args:=#[dd,s],argTypes:=#[22,22] }) (b g off dLen dCap cap:Nat) (ws:List Int) (hown:w.ownsRow b 3 1 (.slice (some ⟨g,0,none⟩) ws.length cap) ws.length (intV ws))
 (hd:a.eval dd=.slice (some ⟨g,off,none⟩) dLen dCap) (sb:Nat) (hs:a.eval s=.slice (some ⟨sb,0,none⟩) 3 3) (x y z:Int) (hsrc:w.heap[sb]? =some (.cells #[.int .i64 x,.int .i64 y,.int .i64 z] 3 (0,0))) (hfit:off+3<=ws.length) (hdl:3<=dLen)
 (h:∀w',w.grownBy w' (some g)->w'.ownsRow b 3 1 (.slice (some ⟨g,0,none⟩) ws.length cap) ws.length (intV (put3 ws off x y z))->K (a.put o.dst (goInt 3)) w'):
 if Region.wanted o (yielded ops a.tmps)=true then Oper.wp Tryz.prog o a w K Q else E:=by
 have hw:Region.wanted o (yielded ops a.tmps)=true:=by simp [Region.wanted,hgd]
 rw [if_pos hw]
 obtain ⟨h1,h2⟩:=hown
 rcases h2 with ⟨e,h0⟩ | ⟨g',cap',cur,e,hbg,hg,hnc,hcm,hcs,hct⟩
 ·
  cases e
 cases e
 rw [Nat.mul_one]at hct hcs
 have hcl:ws.length<=cur.size:=by omega
 have hrun:=run_copy_row (P:=Tryz.prog) w 22 22 o.type 3 g off dLen dCap ⟨sb,0,none⟩ 3 3 cur 3 [.int .i64 x,.int .i64 y,.int .i64 z] Tryz.underlying22 (by kernel_rfl) hg (by show 3=Nat.min 3 dLen;exact (Nat.min_eq_left hdl).symm) (World.news_of_block hsrc) (by show off+3<=_;omega) (by
  intro v hv
  simp at hv
  rcases hv with rfl | rfl | rfl<;>rfl)
 unfold Oper.wp
 simp [execOp,ho,resolve,invoke,builtin,hd,hs,hrun,Result.andThen]
 refine h _ ⟨rfl,rfl,rfl,by simp [World.setRow],fun k _ hk=>setRow_other w g k _ (fun e=>hk (by rw [e]))⟩ ⟨by rw [ziq,zmn _ _ _ hfit];simp,Or.inr ⟨g,cap,_,rfl,hbg,setRow_heap w g cur _ 3 _ hg,hnc,hcm,?_,?_⟩⟩
 ·
  simp
  omega
 rw [Nat.mul_one]
 exact zmo x y z hct hfit
structure Og (b B:Nat) (w:World) (G:Nat) (nW nO kC kS kF kN kT:Value) (h:HeapD) (d:LinkD):Prop where
 blk:w.heap[G]? =some (.cells #[nW,.int .i64 h.young,.int .i64 h.old,.int .i64 h.ytop,.int .i64 h.otop,nO,.int .i64 h.next,kC,kS,kF,kN,kT] 129 (0,0))
 ov:OwnV b w nW nO h
 lk:RLk (· <B) w kC kS kF kN kT d
 le:B<=b
 gb:b<=G
 neW:nW.ownBlock≠some G
 neO:nO.ownBlock≠some G
theorem Og.below {b B G:Nat} {w w':World} {nW nO kC kS kF kN kT:Value} {h:HeapD} {d:LinkD} (o:Og b B w G nW nO kC kS kF kN kT h d) (hb:Below w.heap.size w w'):Og b B w' G nW nO kC kS kF kN kT h d:=
 have hl:=lt0 o.blk
 ⟨(hb.block _ hl).trans o.blk,o.ov.below hb,o.lk.kept (Kp.below (hb.mono (by have:=o.le;have:=o.gb;omega))),o.le,o.gb,o.neW,o.neO⟩
theorem Og.gd {b B G:Nat} {w:World} {nW nO kC kS kF kN kT:Value} {h:HeapD} {d:LinkD} (o:Og b B w G nW nO kC kS kF kN kT h d) (h1:h.words.length<=1000000) (h2:h.noted.length<=1000000):Gd w.heap.size w G nW nO kC kS kF kN kT h d:=
 have hl:=lt0 o.blk
 have hm:∀k,k<B->k<w.heap.size:=fun k hk=>by have:=o.le;have:=o.gb;omega
 ⟨hl,Nat.le_refl _,cl0 o.blk 0 rfl,cl0 o.blk 1 rfl,cl0 o.blk 2 rfl,cl0 o.blk 3 rfl,cl0 o.blk 4 rfl,cl0 o.blk 5 rfl,cl0 o.blk 6 rfl,cl0 o.blk 7 rfl,cl0 o.blk 8 rfl,cl0 o.blk 9 rfl,cl0 o.blk 10 rfl,cl0 o.blk 11 rfl,(zfb o.ov.rW h1).monoI fun k hk=>hk.lt,(zfb o.ov.rO h2).monoI fun k hk=>hk.lt,o.lk.mono hm⟩
def makeD (h:HeapD) (tag len:Int) (old:Bool):HeapD:=⟨put3 h.words (topOf h old).toNat tag len h.next,h.young,h.old,if old then h.ytop else h.ytop+3+len,if old then h.otop+3+len else h.otop,h.noted,IntKind.i64.wrap (h.next+1)⟩
end Go.Proofs.YtjdnmblggdobgaaGreat
