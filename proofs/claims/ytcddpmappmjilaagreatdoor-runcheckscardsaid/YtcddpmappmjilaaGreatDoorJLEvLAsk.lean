import Derived.Test.YtcddpmappmjilaaGreatDoorJCatchLMem
import Derived.Deep.WholeRow
import Derived.Deep.MidRow
namespace Go.Proofs.YtcddpmappmjilaaGreatDoor
open Go.RowKit
def idx {α:Type} (p:α->Bool) (l:List α):Int:=match l.findIdx? p with | some i=>(i:Int) | none=>-1
theorem idx_hit {α:Type} {p:α->Bool} {l:List α} {k:Nat} (hk:k<l.length) (h:∀x∈l.take k,p x=false) (hp:p l[k]=true):idx p l=k:=by
 have:l.findIdx? p=some k:=by
  rw [List.findIdx?_eq_some_iff_getElem]
  refine ⟨hk,hp,fun j hj=>?_⟩
  have:=h l[j] (by rw [List.mem_take_iff_getElem];exact ⟨j,by omega,rfl⟩)
  simp [this]
 simp [idx,this]
theorem idx_none {α:Type} {p:α->Bool} {l:List α} (h:∀x∈l,p x=false):idx p l= -1:=by
 have:l.findIdx? p=none:=by
  rw [List.findIdx?_eq_none_iff]
  exact h
 simp [idx,this]
theorem idx_any {α:Type} (p:α->Bool) (l:List α):decide (0<=idx p l)=l.any p:=by
 unfold idx
 cases h:l.findIdx? p with
 | none=>
   rw [List.findIdx?_eq_none_iff]at h
   have:l.any p=false:=by rw [List.any_eq_false];intro x hx;simp [h x hx]
   rw [this]
   rfl
 | some i=>
   have hs:=List.findIdx?_eq_some_iff_getElem.1 h
   obtain ⟨hi,hp,_⟩:=hs
   have:l.any p=true:=List.any_eq_true.2 ⟨_,List.getElem_mem hi,hp⟩
   rw [this]
   simp
theorem take_more {α:Type} {p:α->Bool} {l:List α} {k:Nat} (hk:k<l.length) (h:∀x∈l.take k,p x=false) (hp:p l[k]=false):∀x∈l.take (k+1),p x=false:=by
 intro x hx
 rw [List.take_succ_eq_append_getElem hk]at hx
 rcases List.mem_append.1 hx with hx | hx
 ·
  exact h x hx
 rw [List.mem_singleton]at hx
 rw [hx,hp]
theorem all_not {α:Type} (p:α->Bool) (l:List α):(!l.any fun x=>!p x)=l.all p:=by
 induction l with
 | nil=>rfl
 | cons x l ih=>rw [List.any_cons,List.all_cons,<-ih];cases p x<;>simp
set_option maxHeartbeats 1000000 in
theorem containsG {α:Type} {fc fi a b:Nat} {F:Func} {q0 q1 q2 q3 q4 q5:String} {x1 x2 x3 x4 x5 x6:Array Edge} (hf:Tryz.prog.funcs[fc]? =some F) (hn:F.ntmps=9) (hr:F.results=#[.tmp 4])
 (hb:F.body=some ((Code.region 0 #[⟨some 4,.assign (.const (.bool false)),4,q0,x1,none⟩] false).seq ((Code.region 1 #[⟨some 5,.move (.tmp 0),a,q1,x2,none⟩,⟨some 6,.move (.tmp 1),b,q2,x3,none⟩,⟨some 7,.call { callee:=.value (.func fi),args:=#[.tmp 5,.tmp 6],argTypes:=#[a,b] },3,q3,x4,none⟩,⟨some 8,.binOp .geq 3 (.tmp 7) (.const (.int .i64 0)) 3,4,q4,x5,none⟩,⟨some 4,.assign (.tmp 8),4,q5,x6,none⟩] false).seq Code.ret)))
 (hcf:∀args w,(callFunc fi args).run Tryz.prog w=.ok (.enter fi args) w) (w:World) (ao:Option Addr) (m c:Nat) (g:Nat) (cap:Array Value) (p:α->Bool) (l:List α)
 (hi:Calls Tryz.prog fi #[.slice ao m c,.func (.func g) #[] cap] w fun r w'=>r=.returned (.int .i64 (idx p l))/\Below w.heap.size w w'):
 Calls Tryz.prog fc #[.slice ao m c,.func (.func g) #[] cap] w fun r w'=>r=.returned (.bool (l.any p))/\Below w.heap.size w w':=by
 have HC:=mkHid hi
 clear hi
 have HI:=mkHid (idx_any p l)
 refine calls_of_wp hf hb ?_
 simp only [hn,List.size_toArray,List.length_cons,List.length_nil,Nat.reduceAdd,Nat.reduceSub,Array.replicate_succ,Array.replicate_zero,List.push_toArray,List.append_toArray,List.nil_append,List.cons_append]
 go_wp2_with fail
 refine HC.out.mono ?_
 rintro r w1 ⟨rfl,hb⟩
 go_wp2_with fail
 refine bodyPost_ret (results_tmp hr _ _ _) rfl ?_
 exact ⟨by rw [<-HI.out];rfl,hb⟩
theorem idxAt {a e n:Nat} (hu:∀V,(underlying a).run Tryz.prog V=.ok (.slice e) V) (hs:∀V,(sizeOf e).run Tryz.prog V=.ok n V) {b off k len cl:Nat} (hk:k<len) (V:World):
 (Instr.indexAt a (.slice (some ⟨b,off,none⟩) len cl) (.int .i64 k)).run Tryz.prog V=.ok (.pointer (some ⟨b,off+k*n,none⟩)) V:=by
 simp [Instr.indexAt,asIntOf,hu,hs,Sem.run_bind,Addr.add,hk]
theorem lenAt {a e:Nat} (hu:∀V,(underlying a).run Tryz.prog V=.ok (.slice e) V) {ao:Option Addr} {len cl:Nat} (V:World):
 (Builtin.len_ #[a] 3 #[.slice ao len cl]).run Tryz.prog V=.ok (.int .i64 len) V:=by
 simp [Builtin.len_,hu,Sem.run_bind,goInt]
def ElG {α:Type} (ag:Bool) (R:(Nat->Prop)->World->List Value->α->Prop) (B:Nat) (W:World) (u:Value) (x:α):Prop:=∃cs,(if ag then u=.agg cs.toArray else cs= [u])/\R (· <B) W cs x
theorem elAt {α:Type} {R:(Nat->Prop)->World->List Value->α->Prop} {a e n B:Nat} {ag:Bool} (hu:∀V,(underlying a).run Tryz.prog V=.ok (.slice e) V) (hs:∀V,(sizeOf e).run Tryz.prog V=.ok n V) (h1:ag=false->n=1)
 {W:World} {ao:Option Addr} {cl:Nat} {l:List α} (h:SL n R (· <B) W (.slice ao l.length cl) l) (k:Nat) (hk:k<l.length):
 ∃P u,(∀V,(Instr.indexAt a (.slice ao l.length cl) (.int .i64 k)).run Tryz.prog V=.ok (.pointer (some P)) V)/\(if ag then ∃cs,u=.agg cs/\(loadCellsFrom P 0 n #[]).run Tryz.prog W=.ok cs W else W.cell? P=some u)/\ElG ag R B W u l[k]:=by
 obtain ⟨b,off,cs,rfl,-,-,hn,hc,hr⟩:=h.at k hk
 cases ag
 ·
  obtain rfl:=h1 rfl
  match cs,hn with
  | [u],_=>exact ⟨_,u,idxAt hu hs hk,by simpa using hc 0 (by omega),[u],rfl,hr⟩
 refine ⟨_,.agg cs.toArray,idxAt hu hs hk,⟨cs.toArray,rfl,?_⟩,cs,rfl,hr⟩
 have:=run_loadCells_list (P:=Tryz.prog) W ⟨b,off+k*n,none⟩ cs (fun j v hv=>by rw [Addr.add_mid,hc j (by have:=(List.getElem?_eq_some_iff.1 hv).1;omega),hv])
 rw [hn]at this
 exact this
set_option maxRecDepth 100000 in
set_option maxHeartbeats 1000000 in
theorem indexG {α:Type} {f a b e:Nat} {F:Func} {q0 q1 q2 q3 q4 q5 q6 q7 q8 q9 q10 q11 q12 q13 q14 q15 q16 q17:String} {x0 x1 x2 x3 x4 x5 x6 x7 x8 x9 x10 x11 x12 x13 x14 x15 x16 x17:Array Edge} (hf:Tryz.prog.funcs[f]? =some F) (hn:F.ntmps=19) (hr:F.results=#[ResultVar.tmp 4])
 (hb:F.body=some ((Code.region 0 #[⟨some 4,Op.assign (Operand.const (Value.int IntKind.i64 0)),3,q0,x0,none⟩] false).seq (((Code.region 1 #[⟨some 6,Op.move (Operand.tmp 0),a,q1,x1,none⟩,⟨some 7,Op.call { callee:=Callee.builtin Builtin.len,args:=#[Operand.tmp 6],argTypes:=#[a] },3,q2,x2,none⟩,⟨some 8,Op.move (Operand.const (Value.int IntKind.i64 0)),3,q3,x3,none⟩] false).seq (Code.block 0 ((Code.region 2 #[⟨some 9,Op.binOp BinOp.lss 3 (Operand.tmp 8) (Operand.tmp 7) 3,0,q4,x4,none⟩] false).seq ((Code.cond (Operand.tmp 9) Code.skip (Code.exit 0)).seq ((Code.block 1 ((Code.region 3 #[⟨some 10,Op.move (Operand.tmp 8),3,q5,x5,none⟩,⟨some 5,Op.assign (Operand.tmp 10),3,q6,x6,none⟩] false).seq ((Code.region 4 #[⟨some 11,Op.move (Operand.tmp 1),b,q7,x7,none⟩,⟨some 12,Op.move (Operand.tmp 0),a,q8,x8,none⟩,⟨some 13,Op.move (Operand.tmp 5),3,q9,x9,none⟩,⟨some 14,Op.indexAddr a (Operand.tmp 12) (Operand.tmp 13),0,q10,x10,none⟩,⟨some 15,Op.load e (Operand.tmp 14),e,q11,x11,none⟩,⟨some 16,Op.call { callee:=Callee.value (Operand.tmp 11),args:=#[Operand.tmp 15],argTypes:=#[e] },4,q12,x12,none⟩] false).seq (Code.cond (Operand.tmp 16) ((Code.region 5 #[⟨some 17,Op.move (Operand.tmp 5),3,q13,x13,none⟩,⟨some 4,Op.assign (Operand.tmp 17),3,q14,x14,none⟩] false).seq Code.ret) Code.skip)))).seq (Code.region 6 #[⟨some 18,Op.binOp BinOp.add 3 (Operand.tmp 8) (Operand.const (Value.int IntKind.i64 1)) 3,3,q15,x15,none⟩,⟨some 8,Op.move (Operand.tmp 18),3,q16,x16,none⟩] false)))).loop)).seq ((Code.region 7 #[⟨some 4,Op.assign (Operand.const (Value.int IntKind.i64 (-1))),3,q17,x17,none⟩] false).seq Code.ret))))
 (El:Nat->World->Value->α->Prop) (w:World) (B:Nat) (ao:Option Addr) (cl:Nat) (l:List α) (hll:l.length<=maxLen) (g:Nat) (cap:Array Value) (p:α->Bool) (hcf:∀args w,(callFunc g args).run Tryz.prog w=.ok (.enter g args) w)
 (R:(Nat->Prop)->World->List Value->α->Prop) (ag:Bool) (n:Nat) (hu:∀V,(underlying a).run Tryz.prog V=.ok (.slice e) V) (hag:∀W,(isAgg e).run Tryz.prog W=.ok ag W) (hsz:∀W,(sizeOf e).run Tryz.prog W=.ok n W) (h1:ag=false->n=1)
 (hsl:∀W,Below w.heap.size w W->SL n R (· <B) W (.slice ao l.length cl) l) (hto:∀ {W u x},ElG ag R B W u x->El B W u x)
 (hc:∀x∈l,∀u W,Below w.heap.size w W->El B W u x->Calls Tryz.prog g (#[u]++cap) W fun r W'=>r=.returned (.bool (p x))/\Below W.heap.size W W'):
 Calls Tryz.prog f #[.slice ao l.length cl,.func (.func g) #[] cap] w fun r w'=>r=.returned (.int .i64 (idx p l))/\Below w.heap.size w w':=by
 unfold maxLen at hll
 have HC:=mkHid hc
 have HE:=mkHid (fun k hk W hb=>elAt (ag:=ag) hu hsz h1 (hsl W hb) k hk)
 have hlen:=fun W=>lenAt hu (ao:=ao) (len:=l.length) (cl:=cl) W
 clear hc hu hsl h1
 refine calls_of_wp hf hb ?_
 simp only [hn,List.size_toArray,List.length_cons,List.length_nil,Nat.reduceAdd,Nat.reduceSub,Array.replicate_succ,Array.replicate_zero,List.push_toArray,List.append_toArray,List.nil_append,List.cons_append]
 go_wp2_with fail
 go_loopw [8] (fun i wr=>∃k:Nat,k<=l.length/\i=.int .i64 k/\Hid (∀x∈l.take k,p x=false)/\Below w.heap.size w wr) (fun i _=>l.length - (intOf i).toNat)
 case atStart=>exact ⟨0,Nat.zero_le _,rfl,(fun x hx=>by cases hx),Below.refl _ _⟩
 case round=>
  obtain ⟨k,hk,rfl,HP,hBr⟩:=hrel
  by_cases hlt:k<l.length
  ·
   obtain ⟨P,u,h1,h2,h3⟩:=HE.out k hlt _ hBr
   have HCALL:=mkHid (HC.out l[k] (List.getElem_mem hlt) _ _ hBr (hto h3))
   clear h3
   cases ag
   ·
    replace h2:wr.cell? P=some u:=h2
    go_wp2_with fail
    refine HCALL.out.mono ?_
    rintro r w2 ⟨rfl,hb2⟩
    have hB2:=hBr.trans (hb2.mono hBr.size)
    clear hb2 HCALL
    cases hp:p l[k]
    ·
     have HX:=mkHid (take_more hlt HP.out hp)
     clear hp
     go_wp2_with fail
     go_roundw
     case rel=>exact ⟨k+1,by omega,by go_num,HX.out,hB2⟩
     case measure=>simp [intOf];omega
    have HX:=mkHid (idx_hit hlt HP.out hp)
    clear hp
    go_wp2_with fail
    refine bodyPost_ret (results_tmp hr _ _ _) rfl ?_
    exact ⟨by rw [HX.out];rfl,hB2⟩
   obtain ⟨cs,rfl,h4⟩:∃cs,u=.agg cs/\(loadCellsFrom P 0 n #[]).run Tryz.prog wr=.ok cs wr:=h2
   go_wp2_with fail
   refine HCALL.out.mono ?_
   rintro r w2 ⟨rfl,hb2⟩
   have hB2:=hBr.trans (hb2.mono hBr.size)
   clear hb2 HCALL
   cases hp:p l[k]
   ·
    have HX:=mkHid (take_more hlt HP.out hp)
    clear hp
    go_wp2_with fail
    go_roundw
    case rel=>exact ⟨k+1,by omega,by go_num,HX.out,hB2⟩
    case measure=>simp [intOf];omega
   have HX:=mkHid (idx_hit hlt HP.out hp)
   clear hp
   go_wp2_with fail
   refine bodyPost_ret (results_tmp hr _ _ _) rfl ?_
   exact ⟨by rw [HX.out];rfl,hB2⟩
  have HX:Hid (idx p l= -1):=idx_none (by have:=HP.out;rwa [List.take_of_length_le (by omega)]at this)
  go_wp2_with fail
  refine bodyPost_ret (results_tmp hr _ _ _) rfl ?_
  exact ⟨by rw [HX.out];rfl,hBr⟩
set_option maxRecDepth 100000 in
set_option maxHeartbeats 1000000 in
theorem everyP1 {f b e:Nat} {F:Func} {q0 q1 q2 q3 q4 q5:String} {x0 x1 x2 x3 x4 x5:Array Edge} (hf:Tryz.prog.funcs[f]? =some F) (hn:F.ntmps=8) (hr:F.results=#[ResultVar.tmp 3])
 (hb:F.body=some (((Code.region 0 #[⟨some 3,Op.assign (Operand.const (Value.bool false)),4,q0,x0,none⟩] false).seq ((Code.region 1 #[⟨some 4,Op.load b (Operand.tmp 1),b,q1,x1,none⟩,⟨some 5,Op.move (Operand.tmp 0),e,q2,x2,none⟩,⟨some 6,Op.call { callee:=Callee.value (Operand.tmp 4),args:=#[Operand.tmp 5],argTypes:=#[e] },4,q3,x3,none⟩,⟨some 7,Op.unOp UnOp.not 4 (Operand.tmp 6),4,q4,x4,none⟩,⟨some 3,Op.assign (Operand.tmp 7),4,q5,x5,none⟩] false).seq Code.ret))))
 (hlb:∀W,(isAgg b).run Tryz.prog W=.ok false W) (W:World) (P:Nat) (g:Nat) (first cap:Array Value) (u:Value) (bo:Bool) (hP:W.cell? ⟨P,0,none⟩=some (.func (.func g) first cap)) (hcf:∀args w,(callFunc g args).run Tryz.prog w=.ok (.enter g args) w)
 (hc:∀W',Below W.heap.size W W'->Calls Tryz.prog g (first++#[u]++cap) W' fun r W2=>r=.returned (.bool bo)/\Below W'.heap.size W' W2):
 Calls Tryz.prog f #[u,.pointer (some ⟨P,0,none⟩)] W fun r W'=>r=.returned (.bool (!bo))/\Below W.heap.size W W':=by
 have HC:=mkHid hc
 clear hc
 refine calls_of_wp hf hb ?_
 simp only [hn,List.size_toArray,List.length_cons,List.length_nil,Nat.reduceAdd,Nat.reduceSub,Array.replicate_succ,Array.replicate_zero,List.push_toArray,List.append_toArray,List.nil_append,List.cons_append]
 go_wp2_with fail
 refine (HC.out _ (Below.refl _ _)).mono ?_
 rintro r W2 ⟨rfl,hb⟩
 go_wp2_with fail
 refine bodyPost_ret (results_tmp hr _ _ _) rfl ?_
 exact ⟨rfl,hb⟩
set_option maxRecDepth 100000 in
set_option maxHeartbeats 1000000 in
theorem everyA1 {f b e:Nat} {F:Func} {q0 q1 q2 q3 q4 q5 q6:String} {x0 x1 x2 x3 x4 x5 x6:Array Edge} (hf:Tryz.prog.funcs[f]? =some F) (hn:F.ntmps=8) (hr:F.results=#[ResultVar.tmp 3])
 (hb:F.body=some (((Code.region 0 #[⟨some 2,Op.box e (Operand.tmp 0),0,q0,x0,none⟩,⟨some 3,Op.assign (Operand.const (Value.bool false)),4,q1,x1,none⟩] false).seq ((Code.region 1 #[⟨some 4,Op.load b (Operand.tmp 1),b,q2,x2,none⟩,⟨some 5,Op.load e (Operand.tmp 2),e,q3,x3,none⟩,⟨some 6,Op.call { callee:=Callee.value (Operand.tmp 4),args:=#[Operand.tmp 5],argTypes:=#[e] },4,q4,x4,none⟩,⟨some 7,Op.unOp UnOp.not 4 (Operand.tmp 6),4,q5,x5,none⟩,⟨some 3,Op.assign (Operand.tmp 7),4,q6,x6,none⟩] false).seq Code.ret))))
 (hlb:∀W,(isAgg b).run Tryz.prog W=.ok false W) (n:Nat) (hag:∀W,(isAgg e).run Tryz.prog W=.ok true W) (hsz:∀W,(sizeOf e).run Tryz.prog W=.ok n W) (W:World) (P:Nat) (g:Nat) (first cap:Array Value) (cs:Array Value) (hcs:cs.size=n) (bo:Bool) (hP:W.cell? ⟨P,0,none⟩=some (.func (.func g) first cap)) (hcf:∀args w,(callFunc g args).run Tryz.prog w=.ok (.enter g args) w)
 (hc:∀W',Below W.heap.size W W'->Calls Tryz.prog g (first++#[.agg cs]++cap) W' fun r W2=>r=.returned (.bool bo)/\Below W'.heap.size W' W2):
 Calls Tryz.prog f #[.agg cs,.pointer (some ⟨P,0,none⟩)] W fun r W'=>r=.returned (.bool (!bo))/\Below W.heap.size W W':=by
 have hPl:=World.block_lt_of_cell? W _ hP
 have hld:=run_loadCellsFrom_new (P:=Tryz.prog) W e cs n hcs
 have HC:=mkHid hc
 clear hc
 refine calls_of_wp hf hb ?_
 simp only [hn,List.size_toArray,List.length_cons,List.length_nil,Nat.reduceAdd,Nat.reduceSub,Array.replicate_succ,Array.replicate_zero,List.push_toArray,List.append_toArray,List.nil_append,List.cons_append]
 go_wp2_with fail
 have hB0:∀o,Below W.heap.size W (W.alloc o):=fun o=>(Below.refl _ _).alloc (Nat.le_refl _) o
 refine (HC.out _ (hB0 _)).mono ?_
 rintro r W2 ⟨rfl,hb⟩
 have hb2:Below W.heap.size W W2:=(hB0 _).trans (hb.mono (by simp))
 clear hb hB0
 go_wp2_with fail
 refine bodyPost_ret (results_tmp hr _ _ _) rfl ?_
 exact ⟨rfl,hb2⟩
set_option maxRecDepth 100000 in
set_option maxHeartbeats 1000000 in
theorem everyG {α:Type} {f a b fc f1:Nat} {F:Func} {q0 q1 q2 q3 q4 q5 q6:String} {x0 x1 x2 x3 x4 x5 x6:Array Edge} (hf:Tryz.prog.funcs[f]? =some F) (hn:F.ntmps=9) (hr:F.results=#[ResultVar.tmp 4])
 (hb:F.body=some (((Code.region 0 #[⟨some 3,Op.box b (Operand.tmp 1),0,q0,x0,none⟩,⟨some 4,Op.assign (Operand.const (Value.bool false)),4,q1,x1,none⟩] false).seq ((Code.region 1 #[⟨some 5,Op.move (Operand.tmp 0),a,q2,x2,none⟩,⟨some 6,Op.makeFunc (Fn.func f1) #[] #[Operand.tmp 3],b,q3,x3,none⟩,⟨some 7,Op.call { callee:=Callee.value (Operand.func fc),args:=#[Operand.tmp 5,Operand.tmp 6],argTypes:=#[a,b] },4,q4,x4,none⟩,⟨some 8,Op.unOp UnOp.not 4 (Operand.tmp 7),4,q5,x5,none⟩,⟨some 4,Op.assign (Operand.tmp 8),4,q6,x6,none⟩] false).seq Code.ret))))
 (hcf:∀args w,(callFunc fc args).run Tryz.prog w=.ok (.enter fc args) w) (w:World) (v:Value) (g:Nat) (first cap:Array Value) (p:α->Bool) (l:List α)
 (hc:∀W,Below w.heap.size w W->W.cell? ⟨w.heap.size,0,none⟩=some (.func (.func g) first cap)->Calls Tryz.prog fc #[v,.func (.func f1) #[] #[.pointer (some ⟨w.heap.size,0,none⟩)]] W fun r W'=>r=.returned (.bool (l.any fun x=>!p x))/\Below W.heap.size W W'):
 Calls Tryz.prog f #[v,.func (.func g) first cap] w fun r w'=>r=.returned (.bool (l.all p))/\Below w.heap.size w w':=by
 have hmf:∀(fn:Fn) (first cap:Array Value) (w:World),(Instr.makeFunc fn first cap).run Tryz.prog w=.ok (.func fn first cap) w:=fun _ _ _ _=>rfl
 have HC:=mkHid hc
 clear hc
 have hB0:∀o,Below w.heap.size w (w.alloc o):=fun o=>(Below.refl _ _).alloc (Nat.le_refl _) o
 have HB0:=mkHid hB0
 clear hB0
 refine calls_of_wp hf hb ?_
 simp only [hn,List.size_toArray,List.length_cons,List.length_nil,Nat.reduceAdd,Nat.reduceSub,Array.replicate_succ,Array.replicate_zero,List.push_toArray,List.append_toArray,List.nil_append,List.cons_append]
 go_wp2_with fail
 refine (HC.out _ (HB0.out _) (by simp [go_sem])).mono ?_
 rintro r w1 ⟨rfl,hb⟩
 have hb2:Below w.heap.size w w1:=(HB0.out _).trans (hb.mono (by simp))
 have HA:=mkHid (all_not p l)
 clear hb
 go_wp2_with fail
 refine bodyPost_ret (results_tmp hr _ _ _) rfl ?_
 exact ⟨by rw [<-HA.out];rfl,hb2⟩
abbrev Ent (g:Nat):Prop:=∀args w,(callFunc g args).run Tryz.prog w=.ok (.enter g args) w
abbrev Ask1 {α:Type} (El:Nat->World->Value->α->Prop) (B:Nat) (w:World) (g:Nat) (cap:Array Value) (p:α->Bool) (l:List α):Prop:=∀x∈l,∀u W,Below w.heap.size w W->El B W u x->Calls Tryz.prog g (#[u]++cap) W fun r W'=>r=.returned (.bool (p x))/\Below W.heap.size W W'
abbrev Ask {α:Type} (El:Nat->World->Value->α->Prop) (B:Nat) (w:World) (g:Nat) (first cap:Array Value) (p:α->Bool) (l:List α):Prop:=∀x∈l,∀u W,Below w.heap.size w W->El B W u x->Calls Tryz.prog g (first++#[u]++cap) W fun r W'=>r=.returned (.bool (p x))/\Below W.heap.size W W'
def ElC (B:Nat) (w:World) (u:Value) (x:ClassD):Prop:=∃fo cf mo cm,u=.agg #[.string x.name,.string x.super,.slice fo x.fields.length cf,.slice mo x.meths.length cm]/\SL 3 RF (· <B) w (.slice fo x.fields.length cf) x.fields/\SL 9 RM (· <B) w (.slice mo x.meths.length cm) x.meths/\x.name.size<=maxLen/\x.super.size<=maxLen
theorem ElC.below {B:Nat} {w w':World} {u:Value} {x:ClassD} (h:ElC B w u x) (hb:Below B w w'):ElC B w' u x:=by
 obtain ⟨fo,cf,mo,cm,rfl,ef,em,es1,es2⟩:=h
 exact ⟨fo,cf,mo,cm,rfl,ef.keptF (Kp.below hb),em.keptM (Kp.below hb),es1,es2⟩
theorem indexC_any (w:World) (B:Nat) (v:Value) (l:List (ClassD)) (hv:SL 4 RC (· <B) w v l) (hB:B<=w.heap.size) (g:Nat) (cap:Array Value) (p:ClassD->Bool) (hcf:Ent g)
 (hc:Ask1 ElC B w g cap p l):
 Calls Tryz.prog 297 #[v,.func (.func g) #[] cap] w fun r w'=>r=.returned (.int .i64 (idx p l))/\Below w.heap.size w w':=by
 have HV:=hv
 obtain ⟨ao,cl,rfl,-,hll,-⟩:=hv
 refine indexG Tryz.func297 rfl rfl rfl ElC w B ao cl l hll g cap p hcf RC true 4 (fun _=>by kernel_rfl) (fun _=>by kernel_rfl) (fun _=>by kernel_rfl) nofun (fun W hb=>HV.keptC (Kp.below (hb.mono hB))) ?_ hc
 rintro W u x ⟨cs,e,vf,vm,rfl,⟨fo,cf,rfl,hf⟩,⟨mo,cm,rfl,hm⟩,es⟩
 exact ⟨fo,cf,mo,cm,e,⟨_,_,rfl,hf⟩,⟨_,_,rfl,hm⟩,es⟩
theorem containsC_any (w:World) (B:Nat) (v:Value) (l:List (ClassD)) (hv:SL 4 RC (· <B) w v l) (hB:B<=w.heap.size) (g:Nat) (cap:Array Value) (p:ClassD->Bool) (hcf:Ent g)
 (hc:Ask1 ElC B w g cap p l):
 Calls Tryz.prog 220 #[v,.func (.func g) #[] cap] w fun r w'=>r=.returned (.bool (l.any p))/\Below w.heap.size w w':=by
 have h:=indexC_any w B v l hv hB g cap p hcf hc
 obtain ⟨ao,cl,rfl,-⟩:=hv
 exact containsG Tryz.func220 rfl rfl rfl (fun _ _=>by kernel_rfl) w ao _ cl g cap p l h
theorem everyC_any (w:World) (B:Nat) (v:Value) (l:List (ClassD)) (hv:SL 4 RC (· <B) w v l) (hB:B<=w.heap.size) (g:Nat) (first cap:Array Value) (p:ClassD->Bool) (hcf:Ent g)
 (hc:Ask ElC B w g first cap p l):
 Calls Tryz.prog 144 #[v,.func (.func g) first cap] w fun r w'=>r=.returned (.bool (l.all p))/\Below w.heap.size w w':=by
 refine everyG Tryz.func144 rfl rfl rfl (fun _ _=>by kernel_rfl) w v g first cap p l fun W hW hP=>?_
 refine containsC_any W B v l (hv.keptC (Kp.below (hW.mono hB))) (Nat.le_trans hB hW.size) 221 _ (fun x=>!p x) (fun _ _=>by kernel_rfl) fun x hx u W2 hW2 hu=>?_
 have hb:=hW.trans (hW2.mono hW.size)
 obtain ⟨cs,rfl,hz⟩:∃cs,u=.agg cs/\cs.size=4:=by
  obtain ⟨_,_,_,_,rfl,-⟩:=hu
  exact ⟨_,rfl,rfl⟩
 exact everyA1 Tryz.func221 rfl rfl rfl (fun _=>by kernel_rfl) 4 (fun _=>by kernel_rfl) (fun _=>by kernel_rfl) W2 w.heap.size g first cap cs hz (p x) ((hW2.cell (World.block_lt_of_cell? W _ hP)).trans hP) hcf fun W' hW'=>hc x hx _ W' (hb.trans (hW'.mono hb.size)) (hu.below (hW'.mono (Nat.le_trans hB hb.size)))
def ElF (_:Nat) (_:World) (u:Value) (x:FieldD):Prop:=u=.agg #[.string x.name,.int .i64 x.kind.kind,.string x.kind.cls]/\x.name.size<=maxLen/\x.kind.cls.size<=maxLen
theorem ElF.below {B:Nat} {w w':World} {u:Value} {x:FieldD} (h:ElF B w u x) (_:Below B w w'):ElF B w' u x:=by
 obtain ⟨rfl,es1,es2⟩:=h
 exact ⟨rfl,es1,es2⟩
theorem indexF_any (w:World) (B:Nat) (v:Value) (l:List (FieldD)) (hv:SL 3 RF (· <B) w v l) (hB:B<=w.heap.size) (g:Nat) (cap:Array Value) (p:FieldD->Bool) (hcf:Ent g)
 (hc:Ask1 ElF B w g cap p l):
 Calls Tryz.prog 299 #[v,.func (.func g) #[] cap] w fun r w'=>r=.returned (.int .i64 (idx p l))/\Below w.heap.size w w':=by
 have HV:=hv
 obtain ⟨ao,cl,rfl,-,hll,-⟩:=hv
 refine indexG Tryz.func299 rfl rfl rfl ElF w B ao cl l hll g cap p hcf RF true 3 (fun _=>by kernel_rfl) (fun _=>by kernel_rfl) (fun _=>by kernel_rfl) nofun (fun W hb=>HV.keptF (Kp.below (hb.mono hB))) ?_ hc
 rintro W u x ⟨cs,e,rfl,es⟩
 exact ⟨e,es⟩
theorem containsF_any (w:World) (B:Nat) (v:Value) (l:List (FieldD)) (hv:SL 3 RF (· <B) w v l) (hB:B<=w.heap.size) (g:Nat) (cap:Array Value) (p:FieldD->Bool) (hcf:Ent g)
 (hc:Ask1 ElF B w g cap p l):
 Calls Tryz.prog 224 #[v,.func (.func g) #[] cap] w fun r w'=>r=.returned (.bool (l.any p))/\Below w.heap.size w w':=by
 have h:=indexF_any w B v l hv hB g cap p hcf hc
 obtain ⟨ao,cl,rfl,-⟩:=hv
 exact containsG Tryz.func224 rfl rfl rfl (fun _ _=>by kernel_rfl) w ao _ cl g cap p l h
theorem everyF_any (w:World) (B:Nat) (v:Value) (l:List (FieldD)) (hv:SL 3 RF (· <B) w v l) (hB:B<=w.heap.size) (g:Nat) (first cap:Array Value) (p:FieldD->Bool) (hcf:Ent g)
 (hc:Ask ElF B w g first cap p l):
 Calls Tryz.prog 150 #[v,.func (.func g) first cap] w fun r w'=>r=.returned (.bool (l.all p))/\Below w.heap.size w w':=by
 refine everyG Tryz.func150 rfl rfl rfl (fun _ _=>by kernel_rfl) w v g first cap p l fun W hW hP=>?_
 refine containsF_any W B v l (hv.keptF (Kp.below (hW.mono hB))) (Nat.le_trans hB hW.size) 225 _ (fun x=>!p x) (fun _ _=>by kernel_rfl) fun x hx u W2 hW2 hu=>?_
 have hb:=hW.trans (hW2.mono hW.size)
 obtain ⟨cs,rfl,hz⟩:∃cs,u=.agg cs/\cs.size=3:=by
  obtain ⟨rfl,-⟩:=hu
  exact ⟨_,rfl,rfl⟩
 exact everyA1 Tryz.func225 rfl rfl rfl (fun _=>by kernel_rfl) 3 (fun _=>by kernel_rfl) (fun _=>by kernel_rfl) W2 w.heap.size g first cap cs hz (p x) ((hW2.cell (World.block_lt_of_cell? W _ hP)).trans hP) hcf fun W' hW'=>hc x hx _ W' (hb.trans (hW'.mono hb.size)) (hu.below (hW'.mono (Nat.le_trans hB hb.size)))
def ElK (_:Nat) (_:World) (u:Value) (x:KindD):Prop:=u=.agg #[.int .i64 x.kind,.string x.cls]/\x.cls.size<=maxLen
theorem ElK.below {B:Nat} {w w':World} {u:Value} {x:KindD} (h:ElK B w u x) (_:Below B w w'):ElK B w' u x:=by
 obtain ⟨rfl,es1⟩:=h
 exact ⟨rfl,es1⟩
theorem indexK_any (w:World) (B:Nat) (v:Value) (l:List (KindD)) (hv:SL 2 RK (· <B) w v l) (hB:B<=w.heap.size) (g:Nat) (cap:Array Value) (p:KindD->Bool) (hcf:Ent g)
 (hc:Ask1 ElK B w g cap p l):
 Calls Tryz.prog 331 #[v,.func (.func g) #[] cap] w fun r w'=>r=.returned (.int .i64 (idx p l))/\Below w.heap.size w w':=by
 have HV:=hv
 obtain ⟨ao,cl,rfl,-,hll,-⟩:=hv
 refine indexG Tryz.func331 rfl rfl rfl ElK w B ao cl l hll g cap p hcf RK true 2 (fun _=>by kernel_rfl) (fun _=>by kernel_rfl) (fun _=>by kernel_rfl) nofun (fun W hb=>HV.keptK (Kp.below (hb.mono hB))) ?_ hc
 rintro W u x ⟨cs,e,rfl,es⟩
 exact ⟨e,es⟩
theorem containsK_any (w:World) (B:Nat) (v:Value) (l:List (KindD)) (hv:SL 2 RK (· <B) w v l) (hB:B<=w.heap.size) (g:Nat) (cap:Array Value) (p:KindD->Bool) (hcf:Ent g)
 (hc:Ask1 ElK B w g cap p l):
 Calls Tryz.prog 300 #[v,.func (.func g) #[] cap] w fun r w'=>r=.returned (.bool (l.any p))/\Below w.heap.size w w':=by
 have h:=indexK_any w B v l hv hB g cap p hcf hc
 obtain ⟨ao,cl,rfl,-⟩:=hv
 exact containsG Tryz.func300 rfl rfl rfl (fun _ _=>by kernel_rfl) w ao _ cl g cap p l h
theorem everyK_any (w:World) (B:Nat) (v:Value) (l:List (KindD)) (hv:SL 2 RK (· <B) w v l) (hB:B<=w.heap.size) (g:Nat) (first cap:Array Value) (p:KindD->Bool) (hcf:Ent g)
 (hc:Ask ElK B w g first cap p l):
 Calls Tryz.prog 226 #[v,.func (.func g) first cap] w fun r w'=>r=.returned (.bool (l.all p))/\Below w.heap.size w w':=by
 refine everyG Tryz.func226 rfl rfl rfl (fun _ _=>by kernel_rfl) w v g first cap p l fun W hW hP=>?_
 refine containsK_any W B v l (hv.keptK (Kp.below (hW.mono hB))) (Nat.le_trans hB hW.size) 301 _ (fun x=>!p x) (fun _ _=>by kernel_rfl) fun x hx u W2 hW2 hu=>?_
 have hb:=hW.trans (hW2.mono hW.size)
 obtain ⟨cs,rfl,hz⟩:∃cs,u=.agg cs/\cs.size=2:=by
  obtain ⟨rfl,-⟩:=hu
  exact ⟨_,rfl,rfl⟩
 exact everyA1 Tryz.func301 rfl rfl rfl (fun _=>by kernel_rfl) 2 (fun _=>by kernel_rfl) (fun _=>by kernel_rfl) W2 w.heap.size g first cap cs hz (p x) ((hW2.cell (World.block_lt_of_cell? W _ hP)).trans hP) hcf fun W' hW'=>hc x hx _ W' (hb.trans (hW'.mono hb.size)) (hu.below (hW'.mono (Nat.le_trans hB hb.size)))
def ElH (_:Nat) (_:World) (u:Value) (x:HandD):Prop:=u=.agg #[.int .i64 x.frm,.int .i64 x.upto,.int .i64 x.loc,.string x.cls]/\x.cls.size<=maxLen
theorem ElH.below {B:Nat} {w w':World} {u:Value} {x:HandD} (h:ElH B w u x) (_:Below B w w'):ElH B w' u x:=by
 obtain ⟨rfl,es1⟩:=h
 exact ⟨rfl,es1⟩
theorem indexH_any (w:World) (B:Nat) (v:Value) (l:List (HandD)) (hv:SL 4 RH (· <B) w v l) (hB:B<=w.heap.size) (g:Nat) (cap:Array Value) (p:HandD->Bool) (hcf:Ent g)
 (hc:Ask1 ElH B w g cap p l):
 Calls Tryz.prog 283 #[v,.func (.func g) #[] cap] w fun r w'=>r=.returned (.int .i64 (idx p l))/\Below w.heap.size w w':=by
 have HV:=hv
 obtain ⟨ao,cl,rfl,-,hll,-⟩:=hv
 refine indexG Tryz.func283 rfl rfl rfl ElH w B ao cl l hll g cap p hcf RH true 4 (fun _=>by kernel_rfl) (fun _=>by kernel_rfl) (fun _=>by kernel_rfl) nofun (fun W hb=>HV.keptH (Kp.below (hb.mono hB))) ?_ hc
 rintro W u x ⟨cs,e,rfl,es⟩
 exact ⟨e,es⟩
theorem containsH_any (w:World) (B:Nat) (v:Value) (l:List (HandD)) (hv:SL 4 RH (· <B) w v l) (hB:B<=w.heap.size) (g:Nat) (cap:Array Value) (p:HandD->Bool) (hcf:Ent g)
 (hc:Ask1 ElH B w g cap p l):
 Calls Tryz.prog 303 #[v,.func (.func g) #[] cap] w fun r w'=>r=.returned (.bool (l.any p))/\Below w.heap.size w w':=by
 have h:=indexH_any w B v l hv hB g cap p hcf hc
 obtain ⟨ao,cl,rfl,-⟩:=hv
 exact containsG Tryz.func303 rfl rfl rfl (fun _ _=>by kernel_rfl) w ao _ cl g cap p l h
theorem everyH_any (w:World) (B:Nat) (v:Value) (l:List (HandD)) (hv:SL 4 RH (· <B) w v l) (hB:B<=w.heap.size) (g:Nat) (first cap:Array Value) (p:HandD->Bool) (hcf:Ent g)
 (hc:Ask ElH B w g first cap p l):
 Calls Tryz.prog 230 #[v,.func (.func g) first cap] w fun r w'=>r=.returned (.bool (l.all p))/\Below w.heap.size w w':=by
 refine everyG Tryz.func230 rfl rfl rfl (fun _ _=>by kernel_rfl) w v g first cap p l fun W hW hP=>?_
 refine containsH_any W B v l (hv.keptH (Kp.below (hW.mono hB))) (Nat.le_trans hB hW.size) 304 _ (fun x=>!p x) (fun _ _=>by kernel_rfl) fun x hx u W2 hW2 hu=>?_
 have hb:=hW.trans (hW2.mono hW.size)
 obtain ⟨cs,rfl,hz⟩:∃cs,u=.agg cs/\cs.size=4:=by
  obtain ⟨rfl,-⟩:=hu
  exact ⟨_,rfl,rfl⟩
 exact everyA1 Tryz.func304 rfl rfl rfl (fun _=>by kernel_rfl) 4 (fun _=>by kernel_rfl) (fun _=>by kernel_rfl) W2 w.heap.size g first cap cs hz (p x) ((hW2.cell (World.block_lt_of_cell? W _ hP)).trans hP) hcf fun W' hW'=>hc x hx _ W' (hb.trans (hW'.mono hb.size)) (hu.below (hW'.mono (Nat.le_trans hB hb.size)))
def ElM (B:Nat) (w:World) (u:Value) (x:MethD):Prop:=∃ao ca ho ch,u=.agg #[.string x.name,.bool x.static,.slice ao x.args.length ca,.int .i64 x.ret.kind,.string x.ret.cls,.int .i64 x.stack,.int .i64 x.locals,.string x.code,.slice ho x.hands.length ch]/\SL 2 RK (· <B) w (.slice ao x.args.length ca) x.args/\SL 4 RH (· <B) w (.slice ho x.hands.length ch) x.hands/\x.name.size<=maxLen/\x.ret.cls.size<=maxLen/\x.code.size<=maxLen
theorem ElM.below {B:Nat} {w w':World} {u:Value} {x:MethD} (h:ElM B w u x) (hb:Below B w w'):ElM B w' u x:=by
 obtain ⟨ao,ca,ho,ch,rfl,ea,eh,es1,es2,es3⟩:=h
 exact ⟨ao,ca,ho,ch,rfl,ea.keptK (Kp.below hb),eh.keptH (Kp.below hb),es1,es2,es3⟩
theorem indexM_any (w:World) (B:Nat) (v:Value) (l:List (MethD)) (hv:SL 9 RM (· <B) w v l) (hB:B<=w.heap.size) (g:Nat) (cap:Array Value) (p:MethD->Bool) (hcf:Ent g)
 (hc:Ask1 ElM B w g cap p l):
 Calls Tryz.prog 302 #[v,.func (.func g) #[] cap] w fun r w'=>r=.returned (.int .i64 (idx p l))/\Below w.heap.size w w':=by
 have HV:=hv
 obtain ⟨ao,cl,rfl,-,hll,-⟩:=hv
 refine indexG Tryz.func302 rfl rfl rfl ElM w B ao cl l hll g cap p hcf RM true 9 (fun _=>by kernel_rfl) (fun _=>by kernel_rfl) (fun _=>by kernel_rfl) nofun (fun W hb=>HV.keptM (Kp.below (hb.mono hB))) ?_ hc
 rintro W u x ⟨cs,e,va,vh,rfl,⟨fo,cf,rfl,hf⟩,⟨mo,cm,rfl,hm⟩,es⟩
 exact ⟨fo,cf,mo,cm,e,⟨_,_,rfl,hf⟩,⟨_,_,rfl,hm⟩,es⟩
theorem containsM_any (w:World) (B:Nat) (v:Value) (l:List (MethD)) (hv:SL 9 RM (· <B) w v l) (hB:B<=w.heap.size) (g:Nat) (cap:Array Value) (p:MethD->Bool) (hcf:Ent g)
 (hc:Ask1 ElM B w g cap p l):
 Calls Tryz.prog 228 #[v,.func (.func g) #[] cap] w fun r w'=>r=.returned (.bool (l.any p))/\Below w.heap.size w w':=by
 have h:=indexM_any w B v l hv hB g cap p hcf hc
 obtain ⟨ao,cl,rfl,-⟩:=hv
 exact containsG Tryz.func228 rfl rfl rfl (fun _ _=>by kernel_rfl) w ao _ cl g cap p l h
theorem everyM_any (w:World) (B:Nat) (v:Value) (l:List (MethD)) (hv:SL 9 RM (· <B) w v l) (hB:B<=w.heap.size) (g:Nat) (first cap:Array Value) (p:MethD->Bool) (hcf:Ent g)
 (hc:Ask ElM B w g first cap p l):
 Calls Tryz.prog 153 #[v,.func (.func g) first cap] w fun r w'=>r=.returned (.bool (l.all p))/\Below w.heap.size w w':=by
 refine everyG Tryz.func153 rfl rfl rfl (fun _ _=>by kernel_rfl) w v g first cap p l fun W hW hP=>?_
 refine containsM_any W B v l (hv.keptM (Kp.below (hW.mono hB))) (Nat.le_trans hB hW.size) 229 _ (fun x=>!p x) (fun _ _=>by kernel_rfl) fun x hx u W2 hW2 hu=>?_
 have hb:=hW.trans (hW2.mono hW.size)
 obtain ⟨cs,rfl,hz⟩:∃cs,u=.agg cs/\cs.size=9:=by
  obtain ⟨_,_,_,_,rfl,-⟩:=hu
  exact ⟨_,rfl,rfl⟩
 exact everyA1 Tryz.func229 rfl rfl rfl (fun _=>by kernel_rfl) 9 (fun _=>by kernel_rfl) (fun _=>by kernel_rfl) W2 w.heap.size g first cap cs hz (p x) ((hW2.cell (World.block_lt_of_cell? W _ hP)).trans hP) hcf fun W' hW'=>hc x hx _ W' (hb.trans (hW'.mono hb.size)) (hu.below (hW'.mono (Nat.le_trans hB hb.size)))
def ElS (_:Nat) (_:World) (u:Value) (x:ByteArray):Prop:=u=.string x/\x.size<=maxLen
theorem ElS.below {B:Nat} {w w':World} {u:Value} {x:ByteArray} (h:ElS B w u x) (_:Below B w w'):ElS B w' u x:=by
 obtain ⟨rfl,es1⟩:=h
 exact ⟨rfl,es1⟩
theorem indexS_any (w:World) (B:Nat) (v:Value) (l:List (ByteArray)) (hv:SL 1 RS (· <B) w v l) (hB:B<=w.heap.size) (g:Nat) (cap:Array Value) (p:ByteArray->Bool) (hcf:Ent g)
 (hc:Ask1 ElS B w g cap p l):
 Calls Tryz.prog 330 #[v,.func (.func g) #[] cap] w fun r w'=>r=.returned (.int .i64 (idx p l))/\Below w.heap.size w w':=by
 have HV:=hv
 obtain ⟨ao,cl,rfl,-,hll,-⟩:=hv
 refine indexG Tryz.func330 rfl rfl rfl ElS w B ao cl l hll g cap p hcf RS false 1 (fun _=>by kernel_rfl) (fun _=>by kernel_rfl) (fun _=>by kernel_rfl) (fun _=>rfl) (fun W hb=>HV.keptS (Kp.below (hb.mono hB))) ?_ hc
 rintro W u x ⟨cs,e,rfl,es⟩
 exact ⟨(List.head_eq_of_cons_eq e).symm,es⟩
theorem containsS_any (w:World) (B:Nat) (v:Value) (l:List (ByteArray)) (hv:SL 1 RS (· <B) w v l) (hB:B<=w.heap.size) (g:Nat) (cap:Array Value) (p:ByteArray->Bool) (hcf:Ent g)
 (hc:Ask1 ElS B w g cap p l):
 Calls Tryz.prog 295 #[v,.func (.func g) #[] cap] w fun r w'=>r=.returned (.bool (l.any p))/\Below w.heap.size w w':=by
 have h:=indexS_any w B v l hv hB g cap p hcf hc
 obtain ⟨ao,cl,rfl,-⟩:=hv
 exact containsG Tryz.func295 rfl rfl rfl (fun _ _=>by kernel_rfl) w ao _ cl g cap p l h
theorem everyS_any (w:World) (B:Nat) (v:Value) (l:List (ByteArray)) (hv:SL 1 RS (· <B) w v l) (hB:B<=w.heap.size) (g:Nat) (first cap:Array Value) (p:ByteArray->Bool) (hcf:Ent g)
 (hc:Ask ElS B w g first cap p l):
 Calls Tryz.prog 218 #[v,.func (.func g) first cap] w fun r w'=>r=.returned (.bool (l.all p))/\Below w.heap.size w w':=by
 refine everyG Tryz.func218 rfl rfl rfl (fun _ _=>by kernel_rfl) w v g first cap p l fun W hW hP=>?_
 refine containsS_any W B v l (hv.keptS (Kp.below (hW.mono hB))) (Nat.le_trans hB hW.size) 296 _ (fun x=>!p x) (fun _ _=>by kernel_rfl) fun x hx u W2 hW2 hu=>?_
 have hb:=hW.trans (hW2.mono hW.size)
 exact everyP1 Tryz.func296 rfl rfl rfl (fun _=>by kernel_rfl) W2 w.heap.size g first cap u (p x) ((hW2.cell (World.block_lt_of_cell? W _ hP)).trans hP) hcf fun W' hW'=>hc x hx _ W' (hb.trans (hW'.mono hb.size)) (hu.below (hW'.mono (Nat.le_trans hB hb.size)))
def ElIs (B:Nat) (w:World) (u:Value) (x:List Nat):Prop:=∃ao ca,u=.slice ao x.length ca/\SL 1 RO (· <B) w (.slice ao x.length ca) x
theorem ElIs.below {B:Nat} {w w':World} {u:Value} {x:List Nat} (h:ElIs B w u x) (hb:Below B w w'):ElIs B w' u x:=by
 obtain ⟨ao,ca,rfl,ea⟩:=h
 exact ⟨ao,ca,rfl,ea.keptO (Kp.below hb)⟩
theorem indexIs_any (w:World) (B:Nat) (v:Value) (l:List (List Nat)) (hv:SL 1 (RSl 1 RO) (· <B) w v l) (hB:B<=w.heap.size) (g:Nat) (cap:Array Value) (p:List Nat->Bool) (hcf:Ent g)
 (hc:Ask1 ElIs B w g cap p l):
 Calls Tryz.prog 298 #[v,.func (.func g) #[] cap] w fun r w'=>r=.returned (.int .i64 (idx p l))/\Below w.heap.size w w':=by
 have HV:=hv
 obtain ⟨ao,cl,rfl,-,hll,-⟩:=hv
 refine indexG Tryz.func298 rfl rfl rfl ElIs w B ao cl l hll g cap p hcf (RSl 1 RO) false 1 (fun _=>by kernel_rfl) (fun _=>by kernel_rfl) (fun _=>by kernel_rfl) (fun _=>rfl) (fun W hb=>HV.keptSl (Kp.below (hb.mono hB)) fun _ _ h=>h) ?_ hc
 rintro W u x ⟨cs,e,v,rfl,ao,ca,rfl,h⟩
 exact ⟨ao,ca,(List.head_eq_of_cons_eq e).symm,_,_,rfl,h⟩
theorem containsIs_any (w:World) (B:Nat) (v:Value) (l:List (List Nat)) (hv:SL 1 (RSl 1 RO) (· <B) w v l) (hB:B<=w.heap.size) (g:Nat) (cap:Array Value) (p:List Nat->Bool) (hcf:Ent g)
 (hc:Ask1 ElIs B w g cap p l):
 Calls Tryz.prog 222 #[v,.func (.func g) #[] cap] w fun r w'=>r=.returned (.bool (l.any p))/\Below w.heap.size w w':=by
 have h:=indexIs_any w B v l hv hB g cap p hcf hc
 obtain ⟨ao,cl,rfl,-⟩:=hv
 exact containsG Tryz.func222 rfl rfl rfl (fun _ _=>by kernel_rfl) w ao _ cl g cap p l h
theorem everyIs_any (w:World) (B:Nat) (v:Value) (l:List (List Nat)) (hv:SL 1 (RSl 1 RO) (· <B) w v l) (hB:B<=w.heap.size) (g:Nat) (first cap:Array Value) (p:List Nat->Bool) (hcf:Ent g)
 (hc:Ask ElIs B w g first cap p l):
 Calls Tryz.prog 147 #[v,.func (.func g) first cap] w fun r w'=>r=.returned (.bool (l.all p))/\Below w.heap.size w w':=by
 refine everyG Tryz.func147 rfl rfl rfl (fun _ _=>by kernel_rfl) w v g first cap p l fun W hW hP=>?_
 refine containsIs_any W B v l (hv.keptSl (Kp.below (hW.mono hB)) fun _ _ h=>h) (Nat.le_trans hB hW.size) 223 _ (fun x=>!p x) (fun _ _=>by kernel_rfl) fun x hx u W2 hW2 hu=>?_
 have hb:=hW.trans (hW2.mono hW.size)
 exact everyP1 Tryz.func223 rfl rfl rfl (fun _=>by kernel_rfl) W2 w.heap.size g first cap u (p x) ((hW2.cell (World.block_lt_of_cell? W _ hP)).trans hP) hcf fun W' hW'=>hc x hx _ W' (hb.trans (hW'.mono hb.size)) (hu.below (hW'.mono (Nat.le_trans hB hb.size)))
def ElFs (B:Nat) (w:World) (u:Value) (x:List FieldD):Prop:=∃ao ca,u=.slice ao x.length ca/\SL 3 RF (· <B) w (.slice ao x.length ca) x
theorem ElFs.below {B:Nat} {w w':World} {u:Value} {x:List FieldD} (h:ElFs B w u x) (hb:Below B w w'):ElFs B w' u x:=by
 obtain ⟨ao,ca,rfl,ea⟩:=h
 exact ⟨ao,ca,rfl,ea.keptF (Kp.below hb)⟩
theorem indexFs_any (w:World) (B:Nat) (v:Value) (l:List (List FieldD)) (hv:SL 1 (RSl 3 RF) (· <B) w v l) (hB:B<=w.heap.size) (g:Nat) (cap:Array Value) (p:List FieldD->Bool) (hcf:Ent g)
 (hc:Ask1 ElFs B w g cap p l):
 Calls Tryz.prog 305 #[v,.func (.func g) #[] cap] w fun r w'=>r=.returned (.int .i64 (idx p l))/\Below w.heap.size w w':=by
 have HV:=hv
 obtain ⟨ao,cl,rfl,-,hll,-⟩:=hv
 refine indexG Tryz.func305 rfl rfl rfl ElFs w B ao cl l hll g cap p hcf (RSl 3 RF) false 1 (fun _=>by kernel_rfl) (fun _=>by kernel_rfl) (fun _=>by kernel_rfl) (fun _=>rfl) (fun W hb=>HV.keptSl (Kp.below (hb.mono hB)) fun _ _ h=>h) ?_ hc
 rintro W u x ⟨cs,e,v,rfl,ao,ca,rfl,h⟩
 exact ⟨ao,ca,(List.head_eq_of_cons_eq e).symm,_,_,rfl,h⟩
theorem containsFs_any (w:World) (B:Nat) (v:Value) (l:List (List FieldD)) (hv:SL 1 (RSl 3 RF) (· <B) w v l) (hB:B<=w.heap.size) (g:Nat) (cap:Array Value) (p:List FieldD->Bool) (hcf:Ent g)
 (hc:Ask1 ElFs B w g cap p l):
 Calls Tryz.prog 232 #[v,.func (.func g) #[] cap] w fun r w'=>r=.returned (.bool (l.any p))/\Below w.heap.size w w':=by
 have h:=indexFs_any w B v l hv hB g cap p hcf hc
 obtain ⟨ao,cl,rfl,-⟩:=hv
 exact containsG Tryz.func232 rfl rfl rfl (fun _ _=>by kernel_rfl) w ao _ cl g cap p l h
theorem everyFs_any (w:World) (B:Nat) (v:Value) (l:List (List FieldD)) (hv:SL 1 (RSl 3 RF) (· <B) w v l) (hB:B<=w.heap.size) (g:Nat) (first cap:Array Value) (p:List FieldD->Bool) (hcf:Ent g)
 (hc:Ask ElFs B w g first cap p l):
 Calls Tryz.prog 155 #[v,.func (.func g) first cap] w fun r w'=>r=.returned (.bool (l.all p))/\Below w.heap.size w w':=by
 refine everyG Tryz.func155 rfl rfl rfl (fun _ _=>by kernel_rfl) w v g first cap p l fun W hW hP=>?_
 refine containsFs_any W B v l (hv.keptSl (Kp.below (hW.mono hB)) fun _ _ h=>h) (Nat.le_trans hB hW.size) 233 _ (fun x=>!p x) (fun _ _=>by kernel_rfl) fun x hx u W2 hW2 hu=>?_
 have hb:=hW.trans (hW2.mono hW.size)
 exact everyP1 Tryz.func233 rfl rfl rfl (fun _=>by kernel_rfl) W2 w.heap.size g first cap u (p x) ((hW2.cell (World.block_lt_of_cell? W _ hP)).trans hP) hcf fun W' hW'=>hc x hx _ W' (hb.trans (hW'.mono hb.size)) (hu.below (hW'.mono (Nat.le_trans hB hb.size)))
def ElSs (B:Nat) (w:World) (u:Value) (x:List ByteArray):Prop:=∃ao ca,u=.slice ao x.length ca/\SL 1 RS (· <B) w (.slice ao x.length ca) x
theorem ElSs.below {B:Nat} {w w':World} {u:Value} {x:List ByteArray} (h:ElSs B w u x) (hb:Below B w w'):ElSs B w' u x:=by
 obtain ⟨ao,ca,rfl,ea⟩:=h
 exact ⟨ao,ca,rfl,ea.keptS (Kp.below hb)⟩
theorem indexSs_any (w:World) (B:Nat) (v:Value) (l:List (List ByteArray)) (hv:SL 1 (RSl 1 RS) (· <B) w v l) (hB:B<=w.heap.size) (g:Nat) (cap:Array Value) (p:List ByteArray->Bool) (hcf:Ent g)
 (hc:Ask1 ElSs B w g cap p l):
 Calls Tryz.prog 306 #[v,.func (.func g) #[] cap] w fun r w'=>r=.returned (.int .i64 (idx p l))/\Below w.heap.size w w':=by
 have HV:=hv
 obtain ⟨ao,cl,rfl,-,hll,-⟩:=hv
 refine indexG Tryz.func306 rfl rfl rfl ElSs w B ao cl l hll g cap p hcf (RSl 1 RS) false 1 (fun _=>by kernel_rfl) (fun _=>by kernel_rfl) (fun _=>by kernel_rfl) (fun _=>rfl) (fun W hb=>HV.keptSl (Kp.below (hb.mono hB)) fun _ _ h=>h) ?_ hc
 rintro W u x ⟨cs,e,v,rfl,ao,ca,rfl,h⟩
 exact ⟨ao,ca,(List.head_eq_of_cons_eq e).symm,_,_,rfl,h⟩
theorem containsSs_any (w:World) (B:Nat) (v:Value) (l:List (List ByteArray)) (hv:SL 1 (RSl 1 RS) (· <B) w v l) (hB:B<=w.heap.size) (g:Nat) (cap:Array Value) (p:List ByteArray->Bool) (hcf:Ent g)
 (hc:Ask1 ElSs B w g cap p l):
 Calls Tryz.prog 237 #[v,.func (.func g) #[] cap] w fun r w'=>r=.returned (.bool (l.any p))/\Below w.heap.size w w':=by
 have h:=indexSs_any w B v l hv hB g cap p hcf hc
 obtain ⟨ao,cl,rfl,-⟩:=hv
 exact containsG Tryz.func237 rfl rfl rfl (fun _ _=>by kernel_rfl) w ao _ cl g cap p l h
theorem everySs_any (w:World) (B:Nat) (v:Value) (l:List (List ByteArray)) (hv:SL 1 (RSl 1 RS) (· <B) w v l) (hB:B<=w.heap.size) (g:Nat) (first cap:Array Value) (p:List ByteArray->Bool) (hcf:Ent g)
 (hc:Ask ElSs B w g first cap p l):
 Calls Tryz.prog 165 #[v,.func (.func g) first cap] w fun r w'=>r=.returned (.bool (l.all p))/\Below w.heap.size w w':=by
 refine everyG Tryz.func165 rfl rfl rfl (fun _ _=>by kernel_rfl) w v g first cap p l fun W hW hP=>?_
 refine containsSs_any W B v l (hv.keptSl (Kp.below (hW.mono hB)) fun _ _ h=>h) (Nat.le_trans hB hW.size) 238 _ (fun x=>!p x) (fun _ _=>by kernel_rfl) fun x hx u W2 hW2 hu=>?_
 have hb:=hW.trans (hW2.mono hW.size)
 exact everyP1 Tryz.func238 rfl rfl rfl (fun _=>by kernel_rfl) W2 w.heap.size g first cap u (p x) ((hW2.cell (World.block_lt_of_cell? W _ hP)).trans hP) hcf fun W' hW'=>hc x hx _ W' (hb.trans (hW'.mono hb.size)) (hu.below (hW'.mono (Nat.le_trans hB hb.size)))
end Go.Proofs.YtcddpmappmjilaaGreatDoor
namespace Go.Proofs.YtcddpmappmjilaaGreatDoor
open Go.RowKit
def Nums (w:World) (b:Nat) (l:List ClassD):Prop:=∃Bm,w.cell? ⟨b,5,none⟩=some (.map (some Bm))/\NumMap w Bm l
theorem Nums.lt {w:World} {b:Nat} {l:List ClassD} (h:Nums w b l):b<w.heap.size:=by
 obtain ⟨Bm,h,_⟩:=h
 exact World.block_lt_of_cell? w _ h
theorem Nums.below {w w':World} {b:Nat} {l:List ClassD} (h:Nums w b l) (hb:Below w.heap.size w w'):Nums w' b l:=by
 have hl:=h.lt
 obtain ⟨Bm,h,hn⟩:=h
 exact ⟨Bm,(hb.cell (p:=⟨b,5,none⟩) hl).trans h,hn.below hb hn.lt⟩
theorem numberN (w:World) (b:Nat) (l:List ClassD) (s:ByteArray) (hN:Nums w b l) (hs:s.size<=maxLen):
 Calls Tryz.prog 85 #[.pointer (some ⟨b,0,none⟩),.string s] w fun r w'=>r=.returned (.int .i64 (num l s))/\w'=w:=by
 obtain ⟨Bm,h,hn⟩:=hN
 exact number_any w b Bm l s h hn hs
theorem has1_any (w:World) (b P:Nat) (l:List ClassD) (s:ByteArray) (hN:Nums w b l) (hP:w.cell? ⟨P,0,none⟩=some (.pointer (some ⟨b,0,none⟩))) (hs:s.size<=maxLen):
 Calls Tryz.prog 219 #[.string s,.pointer (some ⟨P,0,none⟩)] w fun r w'=>r=.returned (.bool (hasC l s))/\w'=w:=by
 have HN:=mkHid hN
 clear hN
 go_enter Tryz.func219,Tryz.ntmps219
 go_wp2_with fail
 refine (numberN _ b l s HN.out hs).mono ?_
 rintro r w1 ⟨rfl,rfl⟩
 clear hs hP
 go_wp2_with fail
 go_ret
 exact ⟨rfl,rfl⟩
set_option maxHeartbeats 1000000 in
theorem has_any (w:World) (b B:Nat) (l:List ClassD) (v:Value) (ns:List ByteArray) (hN:Nums w b l) (hv:SL 1 RS (· <B) w v ns) (hB:B<=w.heap.size):
 Calls Tryz.prog 143 #[.pointer (some ⟨b,0,none⟩),v] w fun r w'=>r=.returned (.bool (ns.all (hasC l)))/\Below w.heap.size w w':=by
 have hmf:∀(fn:Fn) (first cap:Array Value) (w:World),(Instr.makeFunc fn first cap).run Tryz.prog w=.ok (.func fn first cap) w:=fun _ _ _ _=>rfl
 have HV:=mkHid hv
 obtain ⟨ao,cl,rfl,-⟩:=hv
 have HN:=mkHid hN
 have HB0:=mkHid (fun o=>(Below.refl w.heap.size w).alloc (Nat.le_refl _) o)
 clear hN
 go_enter Tryz.func143,Tryz.ntmps143
 go_wp2_with fail
 refine (everyS_any _ B _ ns (HV.out.keptS (Kp.below ((HB0.out _).mono hB))) (by simp;omega) 219 #[] _ (hasC l) (fun args w=>by kernel_rfl) ?_).mono ?_
 ·
  rintro x hx u W hW ⟨rfl,hs⟩
  refine (has1_any W b w.heap.size l x ((HN.out.below (HB0.out _)).below hW) ((hW.cell (p:=⟨w.heap.size,0,none⟩) (by simp)).trans (by simp [go_sem])) hs).mono ?_
  rintro r w' ⟨rfl,rfl⟩
  exact ⟨rfl,Below.refl _ _⟩
 rintro r w1 ⟨rfl,hb⟩
 have hb2:Below w.heap.size w w1:=(HB0.out _).trans (hb.mono (by simp))
 clear hb
 go_wp2_with fail
 go_ret
 exact ⟨rfl,hb2⟩
theorem one_S (w:World) (s:ByteArray) (t g:Nat) (hs:s.size<=maxLen) (hg:w.heap.size=g):SL 1 RS (· <g+1) (w.alloc (.cells #[.string s] t)) (.slice (some ⟨g,0,none⟩) 1 1) [s]:=by
 subst hg
 refine ⟨some ⟨w.heap.size,0,none⟩,1,rfl,Nat.le_refl _,by unfold maxLen;simp,fun k hk=>?_⟩
 have:k=0:=by simpa using hk
 subst this
 refine ⟨w.heap.size,0,[.string s],rfl,by simp,by simp,rfl,fun j hj=>?_,rfl,hs⟩
 have:j=0:=by omega
 subst this
 simp [go_sem]
theorem one_K (w:World) (k:KindD) (t g:Nat) (hs:k.cls.size<=maxLen) (hg:w.heap.size=g):SL 2 RK (· <g+1) (w.alloc (.cells #[.int .i64 k.kind,.string k.cls] t)) (.slice (some ⟨g,0,none⟩) 1 1) [k]:=by
 subst hg
 refine ⟨some ⟨w.heap.size,0,none⟩,1,rfl,Nat.le_refl _,by unfold maxLen;simp,fun i hi=>?_⟩
 have:i=0:=by simpa using hi
 subst this
 refine ⟨w.heap.size,0,[.int .i64 k.kind,.string k.cls],rfl,by simp,by simp,rfl,fun j hj=>?_,rfl,hs⟩
 rcases (by omega:j=0\/j=1)with rfl | rfl<;>simp [go_sem]
set_option maxHeartbeats 1000000 in
theorem knows1_any (w:World) (b P:Nat) (l:List ClassD) (k:KindD) (hN:Nums w b l) (hP:w.cell? ⟨P,0,none⟩=some (.pointer (some ⟨b,0,none⟩))) (hs:k.cls.size<=maxLen):
 Calls Tryz.prog 227 #[.agg #[.int .i64 k.kind,.string k.cls],.pointer (some ⟨P,0,none⟩)] w fun r w'=>r=.returned (.bool (knowsK l k))/\Below w.heap.size w w':=by
 have HN:=mkHid hN
 have hPl:=World.block_lt_of_cell? w _ hP
 have HB0:=mkHid (fun o=>(Below.refl w.heap.size w).alloc (Nat.le_refl _) o)
 clear hN
 by_cases h:k.cls=⟨#[]⟩
 ·
  have HK:Hid (knowsK l k=true):=by show knowsK l k=true;simp [knowsK,h]
  have h':=nil_tl h
  clear h hs
  go_enter Tryz.func227,Tryz.ntmps227
  go_wp2_with fail
  go_ret
  exact ⟨by rw [HK.out];rfl,HB0.out _⟩
 have HK:Hid (knowsK l k=hasC l k.cls):=by show knowsK l k=_;simp [knowsK,h]
 have h':¬k.cls.toList= []:=fun e=>h (tl_nil e)
 have HS:=mkHid hs
 clear h hs
 go_enter Tryz.func227,Tryz.ntmps227
 go_wp2_with fail
 have hB1:=HB0.out (.cells #[.int .i64 k.kind,.string k.cls] 80)
 have hB2:=hB1.alloc hB1.size (.cells #[.string k.cls] 9)
 refine (has_any _ b (w.heap.size+1+1) l _ [k.cls] (HN.out.below hB2) (one_S _ k.cls _ (w.heap.size+1) HS.out (by simp)) (by simp)).mono ?_
 rintro r w1 ⟨rfl,hb⟩
 have hB3:=hB2.trans (hb.mono (by simp;omega))
 clear hb hB1 hB2
 go_wp2_with fail
 go_ret
 exact ⟨by rw [HK.out];simp [h'],hB3⟩
set_option maxHeartbeats 1000000 in
theorem knows_any (w:World) (b B:Nat) (l:List ClassD) (v:Value) (ks:List KindD) (hN:Nums w b l) (hv:SL 2 RK (· <B) w v ks) (hB:B<=w.heap.size):
 Calls Tryz.prog 152 #[.pointer (some ⟨b,0,none⟩),v] w fun r w'=>r=.returned (.bool (ks.all (knowsK l)))/\Below w.heap.size w w':=by
 have hmf:∀(fn:Fn) (first cap:Array Value) (w:World),(Instr.makeFunc fn first cap).run Tryz.prog w=.ok (.func fn first cap) w:=fun _ _ _ _=>rfl
 have HV:=mkHid hv
 obtain ⟨ao,cl,rfl,-⟩:=hv
 have HN:=mkHid hN
 have HB0:=mkHid (fun o=>(Below.refl w.heap.size w).alloc (Nat.le_refl _) o)
 clear hN
 go_enter Tryz.func152,Tryz.ntmps152
 go_wp2_with fail
 refine (everyK_any _ B _ ks (HV.out.keptK (Kp.below ((HB0.out _).mono hB))) (by simp;omega) 227 #[] _ (knowsK l) (fun args w=>by kernel_rfl) ?_).mono ?_
 ·
  rintro x hx u W hW ⟨rfl,hs⟩
  exact knows1_any W b w.heap.size l x ((HN.out.below (HB0.out _)).below hW) ((hW.cell (p:=⟨w.heap.size,0,none⟩) (by simp)).trans (by simp [go_sem])) hs
 rintro r w1 ⟨rfl,hb⟩
 have hb2:Below w.heap.size w w1:=(HB0.out _).trans (hb.mono (by simp))
 clear hb
 go_wp2_with fail
 go_ret
 exact ⟨rfl,hb2⟩
end Go.Proofs.YtcddpmappmjilaaGreatDoor
namespace Go.Proofs.YtcddpmappmjilaaGreatDoor
open Go.RowKit Go.Maps
theorem below_dn {B:Nat} {w w':World} (h:Below B w w') (n:Nat):Below B w (w'.drewN n):=⟨h.os,h.tape,h.output,h.size,h.block⟩
theorem Web.nums {B:Nat} {w:World} {b:Nat} {l:List ClassD} {vC vS vF vN vT vL:Value} {Bm:Nat} (h:Web B w b l vC vS vF vN vT vL Bm):Nums w b l:=⟨Bm,cell_of h.blk 5 rfl,h.nm⟩
theorem Web.cell0 {B:Nat} {w:World} {b:Nat} {l:List ClassD} {vC vS vF vN vT vL:Value} {Bm:Nat} (h:Web B w b l vC vS vF vN vT vL Bm):w.cell? ⟨b,0,none⟩=some vC:=cell_of h.blk 0 rfl
set_option maxHeartbeats 1000000 in
theorem namesDiffer_any (w:World) (B b:Nat) (l:List ClassD) (vC vS vF vN vT vL:Value) (Bm:Nat) (hw:Web B w b l vC vS vF vN vT vL Bm):
 Calls Tryz.prog 89 #[.pointer (some ⟨b,0,none⟩)] w fun r w'=>r=.returned (.bool (askNames l))/\Below w.heap.size w w':=by
 have c0:=hw.cell0
 have c5:=cell_of hw.blk 5 (x:=.map (some Bm)) rfl
 obtain ⟨ao,cl,rfl,-,hll,-⟩:=hw.sC
 obtain ⟨D,hown,hD⟩:=hw.nm
 have hlen:∀n ty,(Builtin.len_ #[104] ty #[.map (some Bm)]).run Tryz.prog (w.drewN n)=.ok (.int .i64 (Maps.size D)) (w.drewN n):=fun n ty=>World.ownsMap.len (w:=w.drewN n) hown Tryz.underlying104 ty
 have HR:Hid (((Maps.size D:Int)==(l.length:Int))=askNames l):=by
  show ((Maps.size D:Int)==(l.length:Int))=askNames l
  rw [Bool.eq_iff_iff,<-hD.eq,beq_iff_eq]
  constructor<;>intro h<;>omega
 clear hD hown hw
 unfold maxLen at hll
 go_enter Tryz.func89,Tryz.ntmps89
 go_wp2_with fail
 go_quiet (fail)
 go_wp2_with fail
 go_ret
 exact ⟨by rw [<-HR.out];rfl,below_dn (Below.refl _ _) _⟩
theorem two_S (w:World) (s s':ByteArray) (t:Nat) (hs:s.size<=maxLen) (hs':s'.size<=maxLen):SL 1 RS (· <w.heap.size+1) (w.alloc (.cells #[.string s,.string s'] t)) (.slice (some ⟨w.heap.size,0,none⟩) 2 2) [s,s']:=by
 refine ⟨some ⟨w.heap.size,0,none⟩,2,rfl,Nat.le_refl _,by unfold maxLen;simp,fun k hk=>?_⟩
 have hk2:k<2:=by simpa using hk
 rcases (by omega:k=0\/k=1)with rfl | rfl
 ·
  refine ⟨w.heap.size,0,[.string s],rfl,by simp,by simp,rfl,fun j hj=>?_,rfl,hs⟩
  have:j=0:=by omega
  subst this
  simp [go_sem]
 refine ⟨w.heap.size,0,[.string s'],rfl,by simp,by simp,rfl,fun j hj=>?_,rfl,hs'⟩
 have:j=0:=by omega
 subst this
 simp [go_sem]
set_option maxHeartbeats 1000000 in
theorem hasTopAndError_any (w:World) (B b:Nat) (l:List ClassD) (vC vS vF vN vT vL:Value) (Bm:Nat) (hw:Web B w b l vC vS vF vN vT vL Bm):
 Calls Tryz.prog 90 #[.pointer (some ⟨b,0,none⟩)] w fun r w'=>r=.returned (.bool (askTop l))/\Below w.heap.size w w':=by
 have HN:=mkHid hw.nums
 have HB0:=mkHid (fun o=>(Below.refl w.heap.size w).alloc (Nat.le_refl _) o)
 go_enter Tryz.func90,Tryz.ntmps90
 go_wp2_with fail
 have hB1:=HB0.out (.cells #[.string topName,.string errName] 9)
 refine (has_any _ b (w.heap.size+1) l _ [topName,errName] (HN.out.below hB1) (two_S w topName errName _ (by decide) (by decide)) (by simp)).mono ?_
 rintro r w1 ⟨rfl,hb⟩
 have hB2:=hB1.trans (hb.mono (by simp))
 clear hb hB1
 go_wp2_with fail
 go_ret
 exact ⟨by simp [askTop],hB2⟩
theorem top_tl:topName.toList= [79,98,106,101,99,116]:=by rw [ByteArray.toList_eq];rfl
def upperB (c:ClassD):Bool:=(decide (c.name=topName))==(decide (c.super=(⟨#[]⟩:ByteArray)))
set_option maxHeartbeats 1000000 in
theorem topAlone1_any (w:World) (B:Nat) (c:ClassD) (u:Value) (hu:ElC B w u c):
 Calls Tryz.prog 145 #[u] w fun r w'=>r=.returned (.bool (upperB c))/\Below w.heap.size w w':=by
 obtain ⟨fo,cf,mo,cm,rfl,-,-,-,-⟩:=hu
 have HB0:=mkHid (fun o=>(Below.refl w.heap.size w).alloc (Nat.le_refl _) o)
 by_cases h1:c.name=topName
 ·
  have t1:c.name.toList= [79,98,106,101,99,116]:=by rw [h1];exact top_tl
  by_cases h2:c.super=⟨#[]⟩
  ·
   have t2:=nil_tl h2
   have HR:Hid (upperB c=true):=by show upperB c=true;simp [upperB,h1,h2]
   clear h1 h2
   go_enter Tryz.func145,Tryz.ntmps145
   go_wp2_with fail
   go_ret
   exact ⟨by rw [HR.out];simp,HB0.out _⟩
  have t2:¬c.super.toList= []:=fun e=>h2 (tl_nil e)
  have HR:Hid (upperB c=false):=by show upperB c=false;simp [upperB,h1,h2]
  clear h1 h2
  go_enter Tryz.func145,Tryz.ntmps145
  go_wp2_with fail
  go_ret
  exact ⟨by rw [HR.out];simp [t2],HB0.out _⟩
 have t1:¬c.name.toList= [79,98,106,101,99,116]:=fun e=>h1 (tl_inj (e.trans top_tl.symm))
 by_cases h2:c.super=⟨#[]⟩
 ·
  have t2:=nil_tl h2
  have HR:Hid (upperB c=false):=by show upperB c=false;simp [upperB,h1,h2]
  clear h1 h2
  go_enter Tryz.func145,Tryz.ntmps145
  go_wp2_with fail
  go_ret
  exact ⟨by rw [HR.out];simp [t1],HB0.out _⟩
 have t2:¬c.super.toList= []:=fun e=>h2 (tl_nil e)
 have HR:Hid (upperB c=true):=by show upperB c=true;simp [upperB,h1,h2]
 clear h1 h2
 go_enter Tryz.func145,Tryz.ntmps145
 go_wp2_with fail
 go_ret
 exact ⟨by rw [HR.out];simp;rw [beq_eq_false_iff_ne.2 t1];(cases hh:c.super.toList with | nil=>exact absurd hh t2 | cons _ _=>rfl),HB0.out _⟩
set_option maxHeartbeats 1000000 in
theorem topAlone_any (w:World) (B b:Nat) (l:List ClassD) (vC vS vF vN vT vL:Value) (Bm:Nat) (hw:Web B w b l vC vS vF vN vT vL Bm):
 Calls Tryz.prog 91 #[.pointer (some ⟨b,0,none⟩)] w fun r w'=>r=.returned (.bool (askUpper l))/\Below w.heap.size w w':=by
 have c0:=hw.cell0
 have HV:=mkHid hw.sC
 have hle:=hw.le
 obtain ⟨ao,cl,rfl,-⟩:=hw.sC
 clear hw
 go_enter Tryz.func91,Tryz.ntmps91
 go_wp2_with fail
 refine (everyC_any _ B _ l HV.out hle 145 #[] #[] upperB (fun args w=>by kernel_rfl) ?_).mono ?_
 ·
  intro x _ u W _ hu
  exact topAlone1_any W B x u hu
 rintro r w1 ⟨rfl,hb⟩
 go_wp2_with fail
 go_ret
 exact ⟨rfl,hb⟩
def superB (l:List ClassD) (c:ClassD):Bool:=decide (c.super=(⟨#[]⟩:ByteArray))||hasC l c.super
set_option maxHeartbeats 1000000 in
theorem supers1_any (w:World) (B b P:Nat) (l:List ClassD) (c:ClassD) (u:Value) (hu:ElC B w u c) (hN:Nums w b l) (hP:w.cell? ⟨P,0,none⟩=some (.pointer (some ⟨b,0,none⟩))):
 Calls Tryz.prog 146 #[u,.pointer (some ⟨P,0,none⟩)] w fun r w'=>r=.returned (.bool (superB l c))/\Below w.heap.size w w':=by
 obtain ⟨fo,cf,mo,cm,rfl,-,-,-,hs⟩:=hu
 have hPl:=World.block_lt_of_cell? w _ hP
 have HN:=mkHid hN
 have HB0:=mkHid (fun o=>(Below.refl w.heap.size w).alloc (Nat.le_refl _) o)
 clear hN
 by_cases h:c.super=⟨#[]⟩
 ·
  have HK:Hid (superB l c=true):=by show superB l c=true;simp [superB,h]
  have h':=nil_tl h
  clear h hs
  go_enter Tryz.func146,Tryz.ntmps146
  go_wp2_with fail
  go_ret
  exact ⟨by rw [HK.out];rfl,HB0.out _⟩
 have HK:Hid (superB l c=hasC l c.super):=by show superB l c=_;simp [superB,h]
 have h':¬c.super.toList= []:=fun e=>h (tl_nil e)
 have HS:=mkHid hs
 clear h hs
 go_enter Tryz.func146,Tryz.ntmps146
 go_wp2_with fail
 have hB1:=HB0.out (.cells #[.string c.name,.string c.super,.slice fo c.fields.length cf,.slice mo c.meths.length cm] 63)
 have hB2:=hB1.alloc hB1.size (.cells #[.string c.super] 9)
 refine (has_any _ b (w.heap.size+1+1) l _ [c.super] (HN.out.below hB2) (one_S _ c.super _ (w.heap.size+1) HS.out (by simp)) (by simp)).mono ?_
 rintro r w1 ⟨rfl,hb⟩
 have hB3:=hB2.trans (hb.mono (by simp;omega))
 clear hb hB1 hB2
 go_wp2_with fail
 go_ret
 exact ⟨by rw [HK.out];simp [h'],hB3⟩
set_option maxHeartbeats 1000000 in
theorem supersAreKnown_any (w:World) (B b:Nat) (l:List ClassD) (vC vS vF vN vT vL:Value) (Bm:Nat) (hw:Web B w b l vC vS vF vN vT vL Bm):
 Calls Tryz.prog 92 #[.pointer (some ⟨b,0,none⟩)] w fun r w'=>r=.returned (.bool (askSupers l))/\Below w.heap.size w w':=by
 have hmf:∀(fn:Fn) (first cap:Array Value) (w:World),(Instr.makeFunc fn first cap).run Tryz.prog w=.ok (.func fn first cap) w:=fun _ _ _ _=>rfl
 have c0:=hw.cell0
 have hbl:=lt_of hw.blk
 have HV:=mkHid hw.sC
 have HN:=mkHid hw.nums
 have hle:=hw.le
 have HB0:=mkHid (fun o=>(Below.refl w.heap.size w).alloc (Nat.le_refl _) o)
 obtain ⟨ao,cl,rfl,-⟩:=hw.sC
 clear hw
 go_enter Tryz.func92,Tryz.ntmps92
 go_wp2_with fail
 refine (everyC_any _ B _ l (HV.out.keptC (Kp.below ((HB0.out _).mono hle))) (by simp;omega) 146 #[] _ (superB l) (fun args w=>by kernel_rfl) ?_).mono ?_
 ·
  intro x _ u W hW hu
  exact supers1_any W B b w.heap.size l x u hu ((HN.out.below (HB0.out _)).below hW) ((hW.cell (p:=⟨w.heap.size,0,none⟩) (by simp)).trans (by simp [go_sem]))
 rintro r w1 ⟨rfl,hb⟩
 have hb2:Below w.heap.size w w1:=(HB0.out _).trans (hb.mono (by simp))
 clear hb
 go_wp2_with fail
 go_ret
 exact ⟨rfl,hb2⟩
set_option maxHeartbeats 1000000 in
theorem none1_any (w:World) (B b P:Nat) (l:List ClassD) (x:List Nat) (u:Value) (ao:Option Addr) (cl:Nat) (hu:ElIs B w u x) (hc0:w.cell? ⟨b,0,none⟩=some (.slice ao l.length cl)) (hP:w.cell? ⟨P,0,none⟩=some (.pointer (some ⟨b,0,none⟩))):
 Calls Tryz.prog 148 #[u,.pointer (some ⟨P,0,none⟩)] w fun r w'=>r=.returned (.bool (decide (x.length<=l.length)))/\Below w.heap.size w w':=by
 obtain ⟨ai,ci,rfl,-⟩:=hu
 go_enter Tryz.func148,Tryz.ntmps148
 go_wp2_with fail
 go_ret
 exact ⟨by simp,Below.refl _ _⟩
set_option maxHeartbeats 1000000 in
theorem noneIsAboveItself_any (w:World) (B b:Nat) (l:List ClassD) (vC vS vF vN vT vL:Value) (Bm:Nat) (hw:Web B w b l vC vS vF vN vT vL Bm):
 Calls Tryz.prog 93 #[.pointer (some ⟨b,0,none⟩)] w fun r w'=>r=.returned (.bool (askNone l))/\Below w.heap.size w w':=by
 have hmf:∀(fn:Fn) (first cap:Array Value) (w:World),(Instr.makeFunc fn first cap).run Tryz.prog w=.ok (.func fn first cap) w:=fun _ _ _ _=>rfl
 have c0:=hw.cell0
 have c6:=cell_of hw.blk 6 (x:=vL) rfl
 have hbl:=lt_of hw.blk
 have sL:=hw.sL
 have hle:=hw.le
 have HB0:=mkHid (fun o=>(Below.refl w.heap.size w).alloc (Nat.le_refl _) o)
 obtain ⟨ao,cl,rfl,-⟩:=hw.sC
 have HLA:Hid (askNone l=((List.range l.length).map (lineOf l)).all fun x=>decide (x.length<=l.length)):=by
  show askNone l=_
  rw [askNone,List.all_map]
  rfl
 clear hw
 generalize (List.range l.length).map (lineOf l)=LL at*
 have HV:=mkHid sL
 obtain ⟨al,cc,rfl,-⟩:=sL
 go_enter Tryz.func93,Tryz.ntmps93
 go_wp2_with fail
 refine (everyIs_any _ B _ _ (HV.out.keptSl (Kp.below ((HB0.out _).mono hle)) fun _ _ h=>h) (by simp;omega) 148 #[] _ (fun x=>decide (x.length<=l.length)) (fun args w=>by kernel_rfl) ?_).mono ?_
 ·
  intro x _ u W hW hu
  exact none1_any W B b w.heap.size l x u ao cl hu ((hW.cell (p:=⟨b,0,none⟩) (by simp;omega)).trans (((HB0.out _).cell (p:=⟨b,0,none⟩) hbl).trans c0)) ((hW.cell (p:=⟨w.heap.size,0,none⟩) (by simp)).trans (by simp [go_sem]))
 rintro r w1 ⟨rfl,hb⟩
 have hb2:Below w.heap.size w w1:=(HB0.out _).trans (hb.mono (by simp))
 clear hb
 go_wp2_with fail
 go_ret
 exact ⟨by rw [HLA.out];rfl,hb2⟩
set_option maxHeartbeats 1000000 in
theorem told11_any (w:World) (B b P:Nat) (l:List ClassD) (x:FieldD) (u:Value) (hu:ElF B w u x) (hN:Nums w b l) (hP:w.cell? ⟨P,0,none⟩=some (.pointer (some ⟨b,0,none⟩))):
 Calls Tryz.prog 151 #[u,.pointer (some ⟨P,0,none⟩)] w fun r w'=>r=.returned (.bool (knowsK l x.kind))/\Below w.heap.size w w':=by
 obtain ⟨rfl,-,hs⟩:=hu
 have hPl:=World.block_lt_of_cell? w _ hP
 have HN:=mkHid hN
 have HS:=mkHid hs
 have HB0:=mkHid (fun o=>(Below.refl w.heap.size w).alloc (Nat.le_refl _) o)
 clear hN hs
 go_enter Tryz.func151,Tryz.ntmps151
 go_wp2_with fail
 have hB1:=HB0.out (.cells #[.string x.name,.int .i64 x.kind.kind,.string x.kind.cls] 85)
 have hB2:=hB1.alloc hB1.size (.cells #[.int .i64 x.kind.kind,.string x.kind.cls] 80)
 refine (knows_any _ b (w.heap.size+1+1) l _ [x.kind] (HN.out.below hB2) (one_K _ x.kind _ (w.heap.size+1) HS.out (by simp)) (by simp)).mono ?_
 rintro r w1 ⟨rfl,hb⟩
 have hB3:=hB2.trans (hb.mono (by simp;omega))
 clear hb hB1 hB2
 go_wp2_with fail
 go_ret
 exact ⟨by simp,hB3⟩
set_option maxHeartbeats 1000000 in
theorem knowsTold1_any (w:World) (B b P:Nat) (l:List ClassD) (x:HandD) (u:Value) (hu:ElH B w u x) (hN:Nums w b l) (hP:w.cell? ⟨P,0,none⟩=some (.pointer (some ⟨b,0,none⟩))):
 Calls Tryz.prog 231 #[u,.pointer (some ⟨P,0,none⟩)] w fun r w'=>r=.returned (.bool (hasC l x.cls))/\Below w.heap.size w w':=by
 obtain ⟨rfl,hs⟩:=hu
 have hPl:=World.block_lt_of_cell? w _ hP
 have HN:=mkHid hN
 have HS:=mkHid hs
 have HB0:=mkHid (fun o=>(Below.refl w.heap.size w).alloc (Nat.le_refl _) o)
 clear hN hs
 go_enter Tryz.func231,Tryz.ntmps231
 go_wp2_with fail
 have hB1:=HB0.out (.cells #[.int .i64 x.frm,.int .i64 x.upto,.int .i64 x.loc,.string x.cls] 98)
 have hB2:=hB1.alloc hB1.size (.cells #[.string x.cls] 9)
 refine (has_any _ b (w.heap.size+1+1) l _ [x.cls] (HN.out.below hB2) (one_S _ x.cls _ (w.heap.size+1) HS.out (by simp)) (by simp)).mono ?_
 rintro r w1 ⟨rfl,hb⟩
 have hB3:=hB2.trans (hb.mono (by simp;omega))
 clear hb hB1 hB2
 go_wp2_with fail
 go_ret
 exact ⟨by simp,hB3⟩
set_option maxHeartbeats 2000000 in
theorem knowsTold_any (w:World) (B b:Nat) (l:List ClassD) (x:MethD) (u:Value) (hu:ElM B w u x) (hN:Nums w b l) (hB:B<=w.heap.size):
 Calls Tryz.prog 154 #[.pointer (some ⟨b,0,none⟩),u] w fun r w'=>r=.returned (.bool (knowsM l x))/\Below w.heap.size w w':=by
 have hmf:∀(fn:Fn) (first cap:Array Value) (w:World),(Instr.makeFunc fn first cap).run Tryz.prog w=.ok (.func fn first cap) w:=fun _ _ _ _=>rfl
 obtain ⟨ao,ca,ho,ch,rfl,ea,eh,-,hs,-⟩:=hu
 have HN:=mkHid hN
 have HS:=mkHid hs
 have EA:=mkHid ea
 have EH:=mkHid eh
 have HB0:=mkHid (fun o=>(Below.refl w.heap.size w).alloc (Nat.le_refl _) o)
 clear hN hs ea eh
 have hB1:=HB0.out (.cells #[.pointer (some ⟨b,0,none⟩)] 100)
 have hB2:=hB1.alloc hB1.size (.cells #[.string x.name,.bool x.static,.slice ao x.args.length ca,.int .i64 x.ret.kind,.string x.ret.cls,.int .i64 x.stack,.int .i64 x.locals,.string x.code,.slice ho x.hands.length ch] 83)
 go_enter Tryz.func154,Tryz.ntmps154
 go_wp2_with fail
 refine (knows_any _ b B l _ x.args (HN.out.below hB2) (EA.out.keptK (Kp.below (hB2.mono hB))) (by simp;omega)).mono ?_
 rintro r w1 ⟨rfl,hb⟩
 have d0:w1.cell? ⟨w.heap.size,0,none⟩=some (.pointer (some ⟨b,0,none⟩)):=(hb.cell (p:=⟨w.heap.size,0,none⟩) (by simp;omega)).trans (by simp [go_sem])
 have d3:w1.cell? ⟨w.heap.size+1,3,none⟩=some (.int .i64 x.ret.kind):=(hb.cell (p:=⟨w.heap.size+1,3,none⟩) (by simp)).trans (by simp [go_sem])
 have d4:w1.cell? ⟨w.heap.size+1,4,none⟩=some (.string x.ret.cls):=(hb.cell (p:=⟨w.heap.size+1,4,none⟩) (by simp)).trans (by simp [go_sem])
 have d8:w1.cell? ⟨w.heap.size+1,8,none⟩=some (.slice ho x.hands.length ch):=(hb.cell (p:=⟨w.heap.size+1,8,none⟩) (by simp)).trans (by simp [go_sem])
 have hB3:=hB2.trans (hb.mono (by simp;omega))
 have hz1:w.heap.size+1<w1.heap.size:=World.block_lt_of_cell? w1 _ d3
 have HM:Hid (knowsM l x=(x.args.all (knowsK l)&&knowsK l x.ret&&x.hands.all (fun h=>hasC l h.cls))):=rfl
 clear hb hB1 hB2
 cases ha:x.args.all (knowsK l)
 ·
  have HR:Hid (knowsM l x=false):=by rw [HM.out,ha];rfl
  clear ha
  go_wp2_with fail
  go_ret
  exact ⟨by rw [HR.out];rfl,hB3⟩
 have HA:=mkHid ha
 clear ha
 go_wp2_with fail
 have hB4:=hB3.alloc hB3.size (.cells #[.int .i64 x.ret.kind,.string x.ret.cls] 80)
 refine (knows_any _ b (w1.heap.size+1) l _ [x.ret] (HN.out.below hB4) (one_K w1 x.ret _ w1.heap.size HS.out rfl) (by simp)).mono ?_
 rintro r w2 ⟨rfl,hb⟩
 have hB5:=hB4.trans (hb.mono (by have:=hB3.size;simp;omega))
 have f0:w2.cell? ⟨w.heap.size,0,none⟩=some (.pointer (some ⟨b,0,none⟩)):=(hb.cell (p:=⟨w.heap.size,0,none⟩) (by simp;omega)).trans (by rw [World.cell?_alloc_past _ _ _ (by omega)];exact d0)
 have f8:w2.cell? ⟨w.heap.size+1,8,none⟩=some (.slice ho x.hands.length ch):=(hb.cell (p:=⟨w.heap.size+1,8,none⟩) (by simp;omega)).trans (by rw [World.cell?_alloc_past _ _ _ (by omega)];exact d8)
 clear hb hB3 hB4 d0 d3 d4 d8
 cases hr:knowsK l x.ret
 ·
  have HR:Hid (knowsM l x=false):=by rw [HM.out,HA.out,hr];rfl
  have hr':([x.ret].all (knowsK l))=false:=by simp [hr]
  rw [hr']
  clear hr hr'
  go_wp2_with fail
  go_ret
  exact ⟨by rw [HR.out];rfl,hB5⟩
 have HR:Hid (knowsM l x=x.hands.all (fun h=>hasC l h.cls)):=by rw [HM.out,HA.out,hr];rfl
 have hr':([x.ret].all (knowsK l))=true:=by simp [hr]
 rw [hr']
 clear hr hr'
 go_wp2_with fail
 refine (everyH_any _ B _ x.hands (EH.out.keptH (Kp.below (hB5.mono hB))) (by have:=hB5.size;omega) 231 #[] _ (fun h=>hasC l h.cls) (fun args w=>by kernel_rfl) ?_).mono ?_
 ·
  intro y _ u W hW hu
  exact knowsTold1_any W B b w.heap.size l y u hu ((HN.out.below hB5).below hW) ((hW.cell (p:=⟨w.heap.size,0,none⟩) (World.block_lt_of_cell? w2 _ f0)).trans f0)
 rintro r w3 ⟨rfl,hb⟩
 have hB6:=hB5.trans (hb.mono hB5.size)
 clear hb hB5 f0 f8
 go_wp2_with fail
 go_ret
 exact ⟨by rw [HR.out];rfl,hB6⟩
def toldB (l:List ClassD) (c:ClassD):Bool:=(c.fields.all fun f=>knowsK l f.kind)&&c.meths.all (knowsM l)
set_option maxHeartbeats 2000000 in
theorem told1_any (w:World) (B b P:Nat) (l:List ClassD) (c:ClassD) (u:Value) (hu:ElC B w u c) (hN:Nums w b l) (hP:w.cell? ⟨P,0,none⟩=some (.pointer (some ⟨b,0,none⟩))) (hB:B<=w.heap.size):
 Calls Tryz.prog 149 #[u,.pointer (some ⟨P,0,none⟩)] w fun r w'=>r=.returned (.bool (toldB l c))/\Below w.heap.size w w':=by
 have hmf:∀(fn:Fn) (first cap:Array Value) (w:World),(Instr.makeFunc fn first cap).run Tryz.prog w=.ok (.func fn first cap) w:=fun _ _ _ _=>rfl
 obtain ⟨fo,cf,mo,cm,rfl,ef,em,-,-⟩:=hu
 have hPl:=World.block_lt_of_cell? w _ hP
 have HN:=mkHid hN
 have EF:=mkHid ef
 have EM:=mkHid em
 have HB0:=mkHid (fun o=>(Below.refl w.heap.size w).alloc (Nat.le_refl _) o)
 clear hN ef em
 have hB1:=HB0.out (.cells #[.string c.name,.string c.super,.slice fo c.fields.length cf,.slice mo c.meths.length cm] 63)
 go_enter Tryz.func149,Tryz.ntmps149
 go_wp2_with fail
 refine (everyF_any _ B _ c.fields (EF.out.keptF (Kp.below (hB1.mono hB))) (by simp;omega) 151 #[] _ (fun f=>knowsK l f.kind) (fun args w=>by kernel_rfl) ?_).mono ?_
 ·
  intro y _ u W hW hu
  exact told11_any W B b P l y u hu ((HN.out.below hB1).below hW) ((hW.cell (p:=⟨P,0,none⟩) (by simp;omega)).trans ((hB1.cell (p:=⟨P,0,none⟩) hPl).trans hP))
 rintro r w1 ⟨rfl,hb⟩
 have d3:w1.cell? ⟨w.heap.size,3,none⟩=some (.slice mo c.meths.length cm):=(hb.cell (p:=⟨w.heap.size,3,none⟩) (by simp)).trans (by simp [go_sem])
 have hB2:=hB1.trans (hb.mono (by simp))
 have hz1:w.heap.size<w1.heap.size:=World.block_lt_of_cell? w1 _ d3
 have hP1:w1.cell? ⟨P,0,none⟩=some (.pointer (some ⟨b,0,none⟩)):=(hB2.cell (p:=⟨P,0,none⟩) hPl).trans hP
 have HM:Hid (toldB l c=((c.fields.all fun f=>knowsK l f.kind)&&c.meths.all (knowsM l))):=rfl
 clear hb hB1 hP
 cases ha:c.fields.all fun f=>knowsK l f.kind
 ·
  have HR:Hid (toldB l c=false):=by rw [HM.out,ha];rfl
  clear ha
  go_wp2_with fail
  go_ret
  exact ⟨by rw [HR.out];rfl,hB2⟩
 have HR:Hid (toldB l c=c.meths.all (knowsM l)):=by rw [HM.out,ha];rfl
 clear ha
 go_wp2_with fail
 refine (everyM_any _ B _ c.meths (EM.out.keptM (Kp.below (hB2.mono hB))) (by omega) 154 _ #[] (knowsM l) (fun args w=>by kernel_rfl) ?_).mono ?_
 ·
  intro y _ u W hW hu
  exact knowsTold_any W B b l y u hu ((HN.out.below hB2).below hW) (by have:=hW.size;omega)
 rintro r w2 ⟨rfl,hb⟩
 have hB3:=hB2.trans (hb.mono hB2.size)
 clear hb hB2
 go_wp2_with fail
 go_ret
 exact ⟨by rw [HR.out];rfl,hB3⟩
set_option maxHeartbeats 1000000 in
theorem allToldIsKnown_any (w:World) (B b:Nat) (l:List ClassD) (vC vS vF vN vT vL:Value) (Bm:Nat) (hw:Web B w b l vC vS vF vN vT vL Bm):
 Calls Tryz.prog 95 #[.pointer (some ⟨b,0,none⟩)] w fun r w'=>r=.returned (.bool (askTold l))/\Below w.heap.size w w':=by
 have hmf:∀(fn:Fn) (first cap:Array Value) (w:World),(Instr.makeFunc fn first cap).run Tryz.prog w=.ok (.func fn first cap) w:=fun _ _ _ _=>rfl
 have c0:=hw.cell0
 have hbl:=lt_of hw.blk
 have HV:=mkHid hw.sC
 have HN:=mkHid hw.nums
 have hle:=hw.le
 have HB0:=mkHid (fun o=>(Below.refl w.heap.size w).alloc (Nat.le_refl _) o)
 obtain ⟨ao,cl,rfl,-⟩:=hw.sC
 clear hw
 go_enter Tryz.func95,Tryz.ntmps95
 go_wp2_with fail
 refine (everyC_any _ B _ l (HV.out.keptC (Kp.below ((HB0.out _).mono hle))) (by simp;omega) 149 #[] _ (toldB l) (fun args w=>by kernel_rfl) ?_).mono ?_
 ·
  intro x _ u W hW hu
  exact told1_any W B b w.heap.size l x u hu ((HN.out.below (HB0.out _)).below hW) ((hW.cell (p:=⟨w.heap.size,0,none⟩) (by simp)).trans (by simp [go_sem])) (by have:=hW.size;simp at this;omega)
 rintro r w1 ⟨rfl,hb⟩
 have hb2:Below w.heap.size w w1:=(HB0.out _).trans (hb.mono (by simp))
 clear hb
 go_wp2_with fail
 go_ret
 exact ⟨rfl,hb2⟩
set_option maxHeartbeats 1000000 in
theorem few1_any (w:World) (B:Nat) (x:List FieldD) (u:Value) (hu:ElFs B w u x):Calls Tryz.prog 164 #[u] w fun r w'=>r=.returned (.bool (decide (x.length<=12)))/\Below w.heap.size w w':=by
 obtain ⟨ai,ci,rfl,-⟩:=hu
 go_enter Tryz.func164,Tryz.ntmps164
 go_wp2_with fail
 go_ret
 exact ⟨by simp;omega,Below.refl _ _⟩
set_option maxHeartbeats 1000000 in
theorem few2_any (w:World) (B:Nat) (x:List ByteArray) (u:Value) (hu:ElSs B w u x):Calls Tryz.prog 166 #[u] w fun r w'=>r=.returned (.bool (decide (x.length<=16)))/\Below w.heap.size w w':=by
 obtain ⟨ai,ci,rfl,-⟩:=hu
 go_enter Tryz.func166,Tryz.ntmps166
 go_wp2_with fail
 go_ret
 exact ⟨by simp;omega,Below.refl _ _⟩
set_option maxHeartbeats 1000000 in
theorem areFew_any (w:World) (B b:Nat) (l:List ClassD) (vC vS vF vN vT vL:Value) (Bm:Nat) (hw:Web B w b l vC vS vF vN vT vL Bm):
 Calls Tryz.prog 98 #[.pointer (some ⟨b,0,none⟩)] w fun r w'=>r=.returned (.bool (askFew l))/\Below w.heap.size w w':=by
 have c2:=cell_of hw.blk 2 (x:=vF) rfl
 have c3:=cell_of hw.blk 3 (x:=vN) rfl
 have hbl:=lt_of hw.blk
 have sF:=hw.sF
 have sN:=hw.sN
 have hle:=hw.le
 have HM:Hid (askFew l=((((List.range l.length).map (fieldsOf l)).all fun x=>decide (x.length<=12))&&(((List.range l.length).map (namesOf l)).all fun x=>decide (x.length<=16)))):=by
  show askFew l=_
  rw [askFew,List.all_map,List.all_map]
  rfl
 clear hw
 generalize (List.range l.length).map (fieldsOf l)=LF at*
 generalize (List.range l.length).map (namesOf l)=LN at*
 have HF:=mkHid sF
 have HN:=mkHid sN
 obtain ⟨af,cf,rfl,-⟩:=sF
 obtain ⟨an,cn,rfl,-⟩:=sN
 go_enter Tryz.func98,Tryz.ntmps98
 go_wp2_with fail
 refine (everyFs_any _ B _ _ HF.out hle 164 #[] #[] (fun x=>decide (x.length<=12)) (fun args w=>by kernel_rfl) ?_).mono ?_
 ·
  intro x _ u W _ hu
  exact few1_any W B x u hu
 rintro r w1 ⟨rfl,hb⟩
 have d3:w1.cell? ⟨b,3,none⟩=some (.slice an _ cn):=(hb.cell (p:=⟨b,3,none⟩) hbl).trans c3
 cases ha:LF.all fun x=>decide (x.length<=12)
 ·
  have HR:Hid (askFew l=false):=by rw [HM.out,ha];rfl
  clear ha
  go_wp2_with fail
  go_ret
  exact ⟨by rw [HR.out];rfl,hb⟩
 have HR:Hid (askFew l=(LN.all fun x=>decide (x.length<=16))):=by rw [HM.out,ha];rfl
 clear ha
 go_wp2_with fail
 refine (everySs_any _ B _ _ (HN.out.keptSl (Kp.below (hb.mono hle)) fun _ _ h=>h) (by have:=hb.size;omega) 166 #[] #[] (fun x=>decide (x.length<=16)) (fun args w=>by kernel_rfl) ?_).mono ?_
 ·
  intro x _ u W _ hu
  exact few2_any W B x u hu
 rintro r w2 ⟨rfl,hb2⟩
 have hb3:=hb.trans (hb2.mono hb.size)
 clear hb hb2
 go_wp2_with fail
 go_ret
 exact ⟨by rw [HR.out];rfl,hb3⟩
end Go.Proofs.YtcddpmappmjilaaGreatDoor
