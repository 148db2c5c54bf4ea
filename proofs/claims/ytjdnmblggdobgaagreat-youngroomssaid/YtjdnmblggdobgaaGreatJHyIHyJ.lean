import Derived.Test.YtjdnmblggdobgaaGreatJTk2Dies
import Derived.Test.YtjdnmblggdobgaaGreatJHyDHyF
import Derived.Test.YtjdnmblggdobgaaGreatJHyGHyH
set_option maxHeartbeats 8000000
set_option maxRecDepth 100000
namespace Go.Proofs.YtjdnmblggdobgaaGreat
open Go.RowKit Go.Maps
structure Tsk (b B:Nat) (w:World) (T:Nat) (nW nO nR kC kS kF kN kT:Value) (h:HeapD) (rs:List Int) (d:LinkD):Prop where
 blk:w.heap[T]? =some (.cells #[nW,.int .i64 h.young,.int .i64 h.old,.int .i64 h.ytop,.int .i64 h.otop,nO,.int .i64 h.next,kC,kS,kF,kN,kT,nR] 131 (0,0))
 rW:w.ownsRow b 3 1 nW h.words.length (intV h.words)
 rO:w.ownsRow b 3 1 nO h.noted.length (intV h.noted)
 rR:w.ownsRow b 3 1 nR rs.length (intV rs)
 lk:RLk (· <B) w kC kS kF kN kT d
 le:B<=b
 bT:b<=T
 sep:sepB [some T,nW.ownBlock,nO.ownBlock,nR.ownBlock]
theorem Tsk.below {b B T:Nat} {w:World} {nW nO nR kC kS kF kN kT:Value} {h:HeapD} {rs:List Int} {d:LinkD} (o:Tsk b B w T nW nO nR kC kS kF kN kT h rs d) {w':World} (hb:Below w.heap.size w w'):Tsk b B w' T nW nO nR kC kS kF kN kT h rs d:=
 have lT:=lt0 o.blk
 ⟨(hb.block _ lT).trans o.blk,zhj o.rW hb,zhj o.rO hb,zhj o.rR hb,o.lk.kept (Kp.below (hb.mono (by have:=o.le;have:=o.bT;omega))),o.le,o.bT,o.sep⟩
theorem Tsk.words {b B T:Nat} {w:World} {nW nO nR kC kS kF kN kT:Value} {h:HeapD} {rs:List Int} {d:LinkD} (o:Tsk b B w T nW nO nR kC kS kF kN kT h rs d) {w':World} {k:Nat} {ws:List Int} (hk:nW.ownBlock=some k) (hg:w.grownBy w' (some k)) (hr:w'.ownsRow b 3 1 nW ws.length (intV ws)):Tsk b B w' T nW nO nR kC kS kF kN kT ⟨ws,h.young,h.old,h.ytop,h.otop,h.noted,h.next⟩ rs d/\Below b w w':=
 have hb:b<=k:=(o.rW.lt k hk).1
 have hi: [some T,nW.ownBlock,nO.ownBlock,nR.ownBlock][1]? =some (some k):=congrArg some hk
 ⟨⟨(hg.block T (lt0 o.blk) (fun e=>zu7 o.sep (i:=0) (by decide) hi (congrArg some e))).trans o.blk,hr,o.rO.kept hg (Or.inr fun e=>zu6 o.sep (j:=2) (by decide) hi (congrArg some e)),o.rR.kept hg (Or.inr fun e=>zu6 o.sep (j:=3) (by decide) hi (congrArg some e)),o.lk.kept ⟨hg.size,fun j hj hl=>hg.block j hl (by have:=o.le;have:=hj;intro e;injection e;omega)⟩,o.le,o.bT,o.sep⟩,(Below.refl b w).grown hg (by have:=lt0 o.blk;have:=o.bT;omega) (fun j e=>by cases e;exact hb)⟩
theorem Tsk.task {b B T:Nat} {w:World} {nW nO nR kC kS kF kN kT:Value} {h:HeapD} {rs:List Int} {d:LinkD} (o:Tsk b B w T nW nO nR kC kS kF kN kT h rs d) {w':World} {h':HeapD} {nO':Value} (hg:w.grownBy w' (some T)) (hb:w'.heap[T]? =some (.cells #[nW,.int .i64 h'.young,.int .i64 h'.old,.int .i64 h'.ytop,.int .i64 h'.otop,nO',.int .i64 h'.next,kC,kS,kF,kN,kT,nR] 131 (0,0))) (hw:h'.words=h.words) (ho:w'.ownsRow b 3 1 nO' h'.noted.length (intV h'.noted)) (hn:nO'=nO\/nO'.ownBlock=none):Tsk b B w' T nW nO' nR kC kS kF kN kT h' rs d/\Below b w w':=
 have hi: [some T,nW.ownBlock,nO.ownBlock,nR.ownBlock][0]? =some (some T):=rfl
 have hs:sepB [some T,nW.ownBlock,nO'.ownBlock,nR.ownBlock]:=by
  rcases hn with rfl | hn
  ·
   exact o.sep
  have:=o.sep
  unfold sepB at this ⊢
  rw [hn]
  simp only [List.pairwise_cons,List.mem_cons,List.not_mem_nil,or_false,forall_eq_or_imp,forall_eq,List.Pairwise.nil,and_true,false_implies,implies_true]at this ⊢
  exact ⟨⟨this.1.1,fun _ _ e=>(by cases e),this.1.2.2⟩,⟨fun _ _ e=>(by cases e),this.2.1.2⟩,fun _ e=>(by cases e)⟩
 ⟨⟨hb,hw ▸ o.rW.kept hg (Or.inr fun e=>zu6 o.sep (j:=1) (by decide) hi (congrArg some e)),ho,o.rR.kept hg (Or.inr fun e=>zu6 o.sep (j:=3) (by decide) hi (congrArg some e)),o.lk.kept ⟨hg.size,fun j hj hl=>hg.block j hl (by have:=o.le;have:=o.bT;have:=hj;intro e;injection e;omega)⟩,o.le,o.bT,hs⟩,(Below.refl b w).grown hg (by have:=lt0 o.blk;have:=o.bT;omega) (fun j e=>by cases e;exact o.bT)⟩
theorem zvi {ops:Array Oper} {o:Oper} {a:Act} {w:World} {K:Act->World->Prop} {Q:Exit->Act->World->Prop} {E:Prop} (hgd:o.guard=none) (s:Operand)
 (ho:o.op=.call { callee:=.builtin .clear,args:=#[s],argTypes:=#[22] }) (b g off n sCap cap:Nat) (ws:List Int) (hown:w.ownsRow b 3 1 (.slice (some ⟨g,0,none⟩) ws.length cap) ws.length (intV ws))
 (hs:a.eval s=.slice (some ⟨g,off,none⟩) n sCap) (hn:0<n) (hfit:off+n<=ws.length)
 (h:∀w',w.grownBy w' (some g)->w'.ownsRow b 3 1 (.slice (some ⟨g,0,none⟩) ws.length cap) (putL ws off (List.replicate n 0)).length (intV (putL ws off (List.replicate n 0)))->K (a.put o.dst (.tuple #[])) w'):
 if Region.wanted o (yielded ops a.tmps)=true then Oper.wp Tryz.prog o a w K Q else E:=by
 have hw:Region.wanted o (yielded ops a.tmps)=true:=by simp [Region.wanted,hgd]
 rw [if_pos hw]
 obtain ⟨cur,hb,hB,hc,hm,hsz,hx,hcell⟩:=zsh hown
 have hsm:∀j,j<n->∃x,ws[off+j]? =some x:=fun j hj=>⟨ws[off+j]'(by omega),List.getElem?_eq_getElem (by omega)⟩
 have hrun:=Lib.run_clear_slice (P:=Tryz.prog) w 22 3 o.type (.int .i64 0) Tryz.underlying22 zero3 rfl rfl g off n sCap hn (fun j hj=>by
  obtain ⟨x,hxx⟩:=hsm j hj
  rw [hcell (off+j) (.int .i64 x) (by rw [zsj,hxx];rfl)]
  rfl) (fun j _=>zcf hb (off+j))
 unfold Oper.wp
 simp [execOp,ho,resolve,invoke,builtin,hs,hrun,Result.andThen]
 have hpl:(putL ws off (List.replicate n 0)).length=ws.length:=zt4 (by rw [List.length_replicate];omega)
 refine h _ (zsd _ _ (World.grownBy.refl _ _)) ?_
 rw [hpl]
 obtain ⟨cur',hb',hs'⟩:=zse (List.replicate n (.int .i64 0)) off hb
 refine zsg hb' hB (by rw [hs',hsz]) hc hm (by rw [ziq,hpl]) fun j v hj=>?_
 rw [zsl hb off _ (by rw [List.length_replicate];omega) j,List.length_replicate]
 rw [zsj]at hj
 have hjl:j<ws.length:=by
  rcases Nat.lt_or_ge j ws.length with q | q
  ·
   exact q
  rw [List.getElem?_eq_none (by rw [hpl];exact q)]at hj;cases hj
 have e1:(ws.take off).length=off:=by simp;omega
 by_cases hin:off<=j/\j<off+n
 ·
  rw [if_pos hin]
  unfold putL at hj
  rw [List.getElem?_append_right (by omega),e1,List.getElem?_append_left (by rw [List.length_replicate];omega),List.getElem?_replicate,if_pos (by omega)]at hj
  rw [List.getElem?_replicate,if_pos (by omega)]
  exact hj
 rw [if_neg hin]
 unfold putL at hj
 have hj2:(ws[j]?).map (fun x=>Value.int .i64 x)=some v:=by
  rcases Nat.lt_or_ge j off with q | q
  ·
   rw [List.getElem?_append_left (by omega),List.getElem?_take_of_lt q]at hj
   exact hj
  rw [List.getElem?_append_right (by omega),e1,List.getElem?_append_right (by rw [List.length_replicate];omega),List.length_replicate,List.getElem?_drop,show off+n+(j - off - n)=j by omega]at hj
  exact hj
 exact hcell j v (by rw [zsj];exact hj2)
theorem zvj (w:World) (b B T:Nat) (nW nO nR kC kS kF kN kT:Value) (h:HeapD) (rs:List Int) (d:LinkD) (o:Tsk b B w T nW nO nR kC kS kF kN kT h rs d) (hy:1<=h.young/\h.young<=1000000) (h5:h.young+1<=h.words.length):
 Calls Tryz.prog 142 #[.pointer (some ⟨T,0,none⟩)] w fun r w'=>r=.returned (.tuple #[])/\Tsk b B w' T nW (.slice none 0 0) nR kC kS kF kN kT (leaveY h) rs d/\Below b w w':=by
 obtain ⟨gW,dW,hnW,hdW⟩:∃gW dW,nW=.slice (some ⟨gW,0,none⟩) h.words.length dW/\h.words.length<=dW:=by
  rcases o.rW.2 with ⟨e,h0⟩ | ⟨g,cap,cur,e,-,-,hc,-⟩
  ·
   omega
  exact ⟨g,cap,e,hc⟩
 subst hnW
 obtain ⟨aO,cO,hnO⟩:=zfz o.rO
 subst hnO
 obtain ⟨aR,cR,hnR⟩:=zfz o.rR
 subst hnR
 obtain ⟨aC,cC,aS,cS,aF,cF,aN,cN,aT,cT,rfl,rfl,rfl,rfl,rfl⟩:=o.lk.agg
 have HO:=mk0 (o.below (Below.refl _ _).drew)
 have lT:=lt0 o.blk
 have nT:¬T=gW:=fun e=>zu6 o.sep (i:=0) (j:=1) (by decide) rfl (by rw [e];rfl)
 have a0:=cl0 o.blk 0 (x:=.slice (some ⟨gW,0,none⟩) h.words.length dW) rfl
 have a1:=cl0 o.blk 1 (x:=.int .i64 h.young) rfl
 have r13:∀V,(Instr.slice 22 (.slice (some ⟨gW,0,none⟩) h.words.length dW) (some (.int .i64 1)) (some (.int .i64 (h.young+1))) none).run Tryz.prog V=.ok (.slice (some ⟨gW,1,none⟩) h.young.toNat (dW - 1)) V:=fun V=>by
  rw [run_slice_lh V 22 _ _ _ Tryz.underlying22 .i64 .i64 1 (h.young+1) (by omega) (by omega) (by omega)]
  show Result.ok (sliced (some ⟨gW,0,none⟩) 1 (h.young+1).toNat dW 1) V=_
  unfold sliced
  rw [if_neg (by omega),Option.map_some,zg1,Nat.mul_one,Nat.zero_add,show (h.young+1).toNat - 1=h.young.toNat by omega]
 have w1:IntKind.i64.wrap (h.young+1)=h.young+1:=by rw [IntKind.wrap_i64];omega
 clear o
 go_enter Tryz.func142,Tryz.ntmps142
 go_wp2_with fail
 refine wp_region_held_drew (S:=fun W'=>∀p:Addr,p.block<w.heap.size->p.block≠gW->W'.cell? p=w.cell? p) (by kernel_rfl) (fun p hp _=>rfl) fun hH=>?_
 refine ta 0 (.pointer (some ⟨T,0,none⟩)) rfl hH ?_
 refine ta 1 (.pointer (some ⟨T,0,none⟩)) rfl hH ?_
 refine ta 2 (.pointer (some ⟨T,0,none⟩)) rfl hH ?_
 refine ta 3 (.pointer (some ⟨T,0,none⟩)) rfl hH ?_
 refine ta 4 (.pointer (some ⟨T,0,none⟩)) rfl hH ?_
 refine ta 5 (.slice (some ⟨gW,0,none⟩) h.words.length dW) rfl hH ?_
 refine ta 6 (.pointer (some ⟨T,0,none⟩)) rfl hH ?_
 refine ta 7 (.pointer (some ⟨T,0,none⟩)) rfl hH ?_
 refine ta 8 (.pointer (some ⟨T,0,none⟩)) rfl hH ?_
 refine ta 9 (.pointer (some ⟨T,0,none⟩)) rfl hH ?_
 refine ta 10 (.pointer (some ⟨T,1,none⟩)) rfl hH ?_
 refine ta 11 (.int .i64 h.young) rfl hH ?_
 refine ta 12 (.int .i64 (h.young+1)) rfl hH ?_
 refine ta 13 (.slice (some ⟨gW,1,none⟩) h.young.toNat (dW - 1)) rfl hH ?_
 refine wpAnyH_ready (rs:=[14]) (by kernel_rfl) (by simp) ?_
 refine AllReadyH.cons rfl (fun K14 hK14=>?_) AllReadyH.nil
 refine zvi rfl (.tmp 15) rfl b gW 1 h.young.toNat (dW - 1) dW h.words HO.out.rW (by go_simp) (by omega) (by omega) ?_
 intro w4 hg4 ho4
 refine hK14.out _ _ (fun p hp hne=>World.cell?_of_block (a:=p) (hg4.block p.block hp (fun e=>hne (Option.some.inj e)))) fun hH=>?_
 refine wpAnyH_done (by kernel_rfl) ?_ _
 clear hH
 try simp only [Act.put,List.setIfInBounds_toArray,List.set_cons_zero,List.set_cons_succ,List.getElem_toArray,List.getElem_cons_zero,List.getElem_cons_succ]
 obtain ⟨o4,hb4⟩:=HO.out.words (k:=gW) rfl hg4 ho4
 have hbw4:Below b w w4:=(Below.refl b w).drew.trans hb4
 have HO4:=mk0 o4
 have HB4:=mk0 hbw4
 have s3:=cl0 o4.blk 3 (x:=.int .i64 h.ytop) rfl
 have s5:=cl0 o4.blk 5 (x:=.slice aO h.noted.length cO) rfl
 have sz:=fun j=>zcf o4.blk j
 have l4:=lt0 o4.blk
 obtain ⟨W5,hW5⟩:∃W5,W5=w4.setCell ⟨T,3,none⟩ (.int .i64 1):=⟨_,rfl⟩
 have hg5:w4.grownBy W5 (some T):=hW5 ▸ za8 (World.grownBy.refl _ _) _ _ (Or.inl rfl)
 have k5:W5.heap[T]? =some (.cells #[.slice (some ⟨gW,0,none⟩) h.words.length dW,.int .i64 h.young,.int .i64 h.old,.int .i64 1,.int .i64 h.otop,.slice aO h.noted.length cO,.int .i64 h.next,.slice aC d.classes.length cC,.slice aS d.supers.length cS,.slice aF d.fields.length cF,.slice aN d.names.length cN,.slice aT d.targets.length cT,.slice aR rs.length cR] 131 (0,0)):=hW5 ▸ zg6 o4.blk _
 have u5:=cl0 k5 5 (x:=.slice aO h.noted.length cO) rfl
 have uz:=fun j=>zcf k5 j
 have l5:=lt0 k5
 obtain ⟨W6,hW6⟩:∃W6,W6=W5.setCell ⟨T,5,none⟩ (.slice none 0 0):=⟨_,rfl⟩
 have hg6:w4.grownBy W6 (some T):=hW6 ▸ za8 hg5 _ _ (Or.inl rfl)
 have k6:W6.heap[T]? =some (.cells #[.slice (some ⟨gW,0,none⟩) h.words.length dW,.int .i64 h.young,.int .i64 h.old,.int .i64 1,.int .i64 h.otop,.slice none 0 0,.int .i64 h.next,.slice aC d.classes.length cC,.slice aS d.supers.length cS,.slice aF d.fields.length cF,.slice aN d.names.length cN,.slice aT d.targets.length cT,.slice aR rs.length cR] 131 (0,0)):=hW6 ▸ zg6 k5 _
 have HF:=mk0 (o4.task (h':=leaveY h) (nO':=.slice none 0 0) hg6 k6 rfl (World.ownsRow_nil _ _ _ _) (Or.inr rfl))
 have H5:=mk0 hW5
 have H6:=mk0 hW6
 clear o4 hb4 hg4 ho4 hbw4 hg5 k5 hg6 k6 hW5 hW6 a0 a1 HO
 go_wp2_with fail
 rw [<-H5.out]
 go_wp2_with fail
 rw [<-H6.out]
 go_end0
 exact ⟨rfl,HF.out.1,HB4.out.trans HF.out.2⟩
theorem zvk:∀(l:List Int) (s:MvS),(s.tos l).length=l.length
 | [],_=>rfl
 | v::l,s=>by rw [MvS.tos,List.length_cons,List.length_cons,zvk l]
theorem zvl:∀(l:List Int) (s:MvS) (v:Int),s.tos (l++ [v])=s.tos l++ [(s.roots l).dst v]
 | [],_,_=>rfl
 | u::l,s,v=>by
   rw [List.cons_append,MvS.tos,MvS.tos,zvl l,List.cons_append]
   rfl
theorem zvm (s:MvS) (l:List Int) (k:Nat) (hk:k<l.length):s.roots (l.take (k+1))=(s.roots (l.take k)).lead l[k]:=by
 unfold MvS.roots
 rw [List.take_succ_eq_append_getElem hk,List.foldl_append]
 rfl
theorem zvn (fs:List (List FieldD)) (s:MvS) (l:List Int) (k:Nat) (hk:k<l.length):s.noted fs (l.take (k+1))=(s.noted fs (l.take k)).refs (refsOf fs (thAt (s.noted fs (l.take k)).h.words l[k])):=by
 unfold MvS.noted
 rw [List.take_succ_eq_append_getElem hk,List.foldl_append]
 rfl
def rootK (s:MvS) (rs:List Int) (k:Nat):List Int:=s.tos (rs.take k)++rs.drop k
theorem zvo (s:MvS) (rs:List Int) (k:Nat):(rootK s rs k).length=rs.length:=by
 unfold rootK
 rw [List.length_append,zvk,List.length_take,List.length_drop]
 omega
theorem zvp (s:MvS) (rs:List Int) (k:Nat) (hk:k<rs.length):(rootK s rs k)[k]'(by rw [zvo];exact hk)=rs[k]:=by
 have e:(rootK s rs k)[k]? =some rs[k]:=by
  unfold rootK
  have e1:(s.tos (rs.take k)).length=k:=by rw [zvk,List.length_take];omega
  rw [List.getElem?_append_right (by omega),e1,Nat.sub_self,List.getElem?_drop,Nat.add_zero,List.getElem?_eq_getElem hk]
 rw [List.getElem?_eq_getElem (by rw [zvo];exact hk)]at e
 exact Option.some.inj e
theorem zvq (s:MvS) (rs:List Int) (k:Nat) (hk:k<rs.length):(rootK s rs k).set k ((s.roots (rs.take k)).dst rs[k])=rootK s rs (k+1):=by
 unfold rootK
 have e1:(s.tos (rs.take k)).length=k:=by rw [zvk,List.length_take];omega
 rw [List.take_succ_eq_append_getElem hk,zvl,List.set_append_right _ _ (by omega),e1,Nat.sub_self,List.drop_eq_getElem_cons hk,List.set_cons_zero,List.append_assoc]
 rfl
theorem zvr (fs:List (List FieldD)) (f i:Nat) (s:MvS) (h:s.mv.length<=i):MvS.gone fs f i s=s:=by
 cases f with
 | zero=>rfl
 | succ f=>rw [MvS.gone,List.getElem?_eq_none h]
theorem zvs (fs:List (List FieldD)) (f i:Nat) (s:MvS) {p:Int×ThD} (h:s.mv[i]? =some p):MvS.gone fs (f+1) i s=MvS.gone fs f (i+1) (s.refs (refsOf fs p.2)):=by
 rw [MvS.gone,h]
theorem wd_wf {ws:List Int} (h:∀x∈ws,(Lit.int .i64 x).wf=true) (a:Int):(Lit.int .i64 (wd ws a)).wf=true:=by
 unfold wd
 cases hx:ws[a.toNat]? with
 | none=>decide
 | some x=>exact h x (List.mem_of_getElem? hx)
theorem MvX.canAt {d:LinkD} {h0:HeapD} {ts:List ThD} {s:MvS} {dn:Int->Prop} (r:Right d h0 ts) (hl:0<=leftD h0) (hw:∀x∈h0.words,(Lit.int .i64 x).wf=true) {l:List Int} (x:MvX d h0 ts s dn) (hn:l.Nodup) (h:∀a∈l,¬dn a/\h0.young<a/\a<s.h.otop/\leadB ts (wd h0.words (srcM s.mv a))=true) (k:Nat) (hk:k<l.length):
 CanAt d (s.refs (l.take k)) s.h l[k]:=by
 obtain ⟨y,y2,y3,y4⟩:=x.refsAt r hl hn h k hk
 obtain ⟨-,ey⟩:=MvX.refs r hl (l.take k) s dn x (hn.sublist (List.take_sublist _ _)) fun a ha=>h a (List.mem_of_mem_take ha)
 obtain ⟨a1,a2,a3,a4⟩:=h l[k] (List.getElem_mem hk)
 have hnt:l[k]∉l.take k:=by
  intro hm
  obtain ⟨j,hj,e⟩:=List.mem_take_iff_getElem.1 hm
  have:=(List.getElem_inj (xs:=l) hn).1 e
  omega
 have e:=y.nay l[k] y3 y4 (by rintro (h | h);exact a1 h;exact hnt h)
 have hc:=y.count r hl
 have z1:=r.sized.young
 have z2:=r.sized.old
 have z3:=r.sized.len
 exact ⟨by rw [e];exact wd_wf hw _,y.can r hl y2,y3,by rw [y.len];exact y4,y.len.trans x.len.symm,y.no.trans x.no.symm,by omega,(y.lead r hl y2).1.len.trans y.len.symm⟩
theorem zvt {d:LinkD} {h:HeapD} {ts:List ThD} (r:Right d h ts) {n:Int} (hn:n∈h.noted):∃t∈ts,t.loc=n/\h.young<n:=by
 have h1:=List.any_eq_false.1 r.note n hn
 unfold badNote at h1
 cases hp:plAt ts n with
 | none=>rw [hp]at h1;simp at h1
 | some t=>
   obtain ⟨m1,m2⟩:=zie ts hp
   refine ⟨t,m1,m2,?_⟩
   by_cases hy:h.young<n
   ·
    exact hy
   simp [hp,hy]at h1
theorem zvu {d:LinkD} {h:HeapD} {ts:List ThD} (r:Right d h ts):h.noted.Nodup:=by
 have h1:=ztb.1 ((zki _).1 r.rise)
 exact h1.imp fun h e=>by omega
theorem Mo.tsk {b B T M X:Nat} {w:World} {nW nO nR gv kC kS kF kN kT:Value} {h:HeapD} {m g:List (Int×ThD)} {rs:List Int} {d:LinkD} (o:Mo b B w T M X nW nO nR gv kC kS kF kN kT h m g rs d):Tsk b B w T nW nO nR kC kS kF kN kT h rs d:=
 ⟨o.blk,o.rW,o.rO,o.rR,o.lk,o.le,o.bT,List.Pairwise.sublist (by
  refine List.Sublist.cons_cons _ (List.Sublist.cons _ (List.Sublist.cons _ (List.Sublist.cons_cons _ (List.Sublist.cons_cons _ (List.Sublist.cons_cons _ (List.Sublist.cons _ List.Sublist.slnil))))))) o.sep⟩
theorem Tsk.mo {b B T:Nat} {w:World} {nW nO nR kC kS kF kN kT:Value} {h:HeapD} {rs:List Int} {d:LinkD} (o:Tsk b B w T nW nO nR kC kS kF kN kT h rs d) (W:World) (hW:W=(w.alloc (.map #[] 0)).alloc (.cells #[.pointer (some ⟨T,0,none⟩),.map (some w.heap.size),.slice none 0 0] 196)):
 Mo b B W T (w.heap.size+1) w.heap.size nW nO nR (.slice none 0 0) kC kS kF kN kT h [] [] rs d/\Below w.heap.size w W:=by
 have hB:Below w.heap.size w W:=hW ▸ ((Below.refl _ _).alloc (Nat.le_refl _) _).alloc (by simp) _
 have o':=o.below hB
 have lT:=lt0 o.blk
 have hm:W.heap[w.heap.size+1]? =some (.cells #[.pointer (some ⟨T,0,none⟩),.map (some w.heap.size),.slice none 0 0] 196 (0,0)):=by
  have:=heap_alloc_new (w.alloc (.map #[] 0)) (.cells #[.pointer (some ⟨T,0,none⟩),.map (some w.heap.size),.slice none 0 0] 196)
  rw [<-hW]at this
  simpa using this
 have hp:NwMap W w.heap.size []:=by
  have h1:=(World.ownsMap_made (H:=Unit) w Tryz.prog 3 (plainElem Tryz.prog 3)).alloc (.cells #[.pointer (some ⟨T,0,none⟩),.map (some w.heap.size),.slice none 0 0] 196)
  rw [<-hW]at h1
  exact ⟨.map [],h1,zu4⟩
 refine ⟨⟨o'.blk,hm,o'.rW,o'.rO,o'.rR,World.ownsRow_nil _ _ _ _,hp,o'.lk,o.le,o.bT,by have:=o.bT;omega,by have:=o.bT;omega,?_⟩,hB⟩
 have hs:=o.sep
 have q1:∀k,nW.ownBlock=some k->k<w.heap.size:=fun k e=>(o.rW.lt k e).2
 have q2:∀k,nO.ownBlock=some k->k<w.heap.size:=fun k e=>(o.rO.lt k e).2
 have q3:∀k,nR.ownBlock=some k->k<w.heap.size:=fun k e=>(o.rR.lt k e).2
 unfold sepB at hs ⊢
 simp only [List.pairwise_cons,List.mem_cons,List.not_mem_nil,or_false,forall_eq_or_imp,forall_eq,List.Pairwise.nil,and_true,false_implies,implies_true]at hs ⊢
 refine ⟨⟨fun k e e2=>by have:=Option.some.inj e;have:=Option.some.inj e2;omega,fun k e e2=>by have:=Option.some.inj e;have:=Option.some.inj e2;omega,hs.1.1,hs.1.2.1,hs.1.2.2,fun _ _ e=>(by cases e)⟩,⟨fun k e e2=>by have:=Option.some.inj e;have:=Option.some.inj e2;omega,fun k e e2=>by have:=q1 k e2;have:=Option.some.inj e;omega,fun k e e2=>by have:=q2 k e2;have:=Option.some.inj e;omega,fun k e e2=>by have:=q3 k e2;have:=Option.some.inj e;omega,fun _ _ e=>(by cases e)⟩,⟨fun k e e2=>by have:=q1 k e2;have:=Option.some.inj e;omega,fun k e e2=>by have:=q2 k e2;have:=Option.some.inj e;omega,fun k e e2=>by have:=q3 k e2;have:=Option.some.inj e;omega,fun _ _ e=>(by cases e)⟩,⟨hs.2.1.1,hs.2.1.2,fun _ _ e=>(by cases e)⟩,⟨hs.2.2,fun _ _ e=>(by cases e)⟩,fun _ _ e=>(by cases e)⟩
theorem zvv (w:World) (b B T:Nat) (nW nO nR kC kS kF kN kT:Value) (h:HeapD) (rs:List Int) (d:LinkD) (o:Tsk b B w T nW nO nR kC kS kF kN kT h rs d) (ts:List ThD) (rt:Right d h ts) (hl:0<=leftD h) (hr:∀v∈rs,leadB ts v=true) (hw:∀x∈h.words,(Lit.int .i64 x).wf=true) (hrw:∀x∈rs,(Lit.int .i64 x).wf=true) (hrl:rs.length<=1000000):
 Calls Tryz.prog 84 #[.pointer (some ⟨T,0,none⟩)] w fun r w'=>r=.returned (.tuple #[])/\Tsk b B w' T nW (.slice none 0 0) nR kC kS kF kN kT (collectD d h rs) (collectR h rs) d/\Below b w w':=by
 have hmm:=@run_makeMap Tryz.prog
 obtain ⟨aO,cO,hnO⟩:=zfz o.rO
 subst hnO
 obtain ⟨aR,cR,hnR⟩:=zfz o.rR
 subst hnR
 obtain ⟨aC,cC,aS,cS,aF,cF,aN,cN,aT,cT,rfl,rfl,rfl,rfl,rfl⟩:=o.lk.agg
 obtain ⟨W0,hW0⟩:∃W0,W0=(w.alloc (.map #[] 0)).alloc (.cells #[.pointer (some ⟨T,0,none⟩),.map (some w.heap.size),.slice none 0 0] 196):=⟨_,rfl⟩
 obtain ⟨o0,hB0⟩:=o.mo W0 hW0
 have z:=rt.sized
 have z1:=z.young
 have z2:=z.old
 have z3:=z.len
 have z5:=z.otop
 have hnl:h.noted.length<=1000000:=(zm4 rt.err rt.both hw).2.2
 have hbw:b<=w.heap.size:=by have:=o.bT;have:=lt0 o.blk;omega
 have HO0:=mk0 o0
 have HB0:Hid (Below b w W0):=hB0.mono hbw
 have HE0:=mk0 hW0
 have HRT:=mk0 (And.intro rt hl)
 have HR:=mk0 (And.intro hr hrw)
 have HW:=mk0 hw
 have HX0:Hid (MvX d h ts (MvS.mk h []) (fun _=>False)):=zuq
 have HRR:=mk0 (fun k=>MvX.roots rt hl (rs.take k) (MvS.mk h []) _ zuq (fun v hv=>hr v (List.mem_of_mem_take hv)))
 have lT:=lt0 o0.blk
 have a12:=cl0 o0.blk 12 (x:=.slice aR rs.length cR) rfl
 have aL:=a12
 rw [hW0]at aL
 clear o o0 hB0 hW0 rt hl hr hrw hw z
 go_enter Tryz.func84,Tryz.ntmps84
 go_wp2_with fail
 rw [<-HE0.out]
 go_loopw [19] (fun i wr=>∃(k:Nat) (gv1:Value),i=.int .i64 k/\k<=rs.length/\Hid (Mo b B wr T (w.heap.size+1) w.heap.size nW (.slice aO h.noted.length cO) (.slice aR rs.length cR) gv1 (.slice aC d.classes.length cC) (.slice aS d.supers.length cS) (.slice aF d.fields.length cF) (.slice aN d.names.length cN) (.slice aT d.targets.length cT) ((MvS.mk h []).roots (rs.take k)).h ((MvS.mk h []).roots (rs.take k)).mv ((MvS.mk h []).roots (rs.take k)).mv (rootK (MvS.mk h []) rs k) d/\Below b w wr)) (fun i _=>rs.length - (intOf i).toNat)
 case atStart=>exact ⟨0,_,rfl,Nat.zero_le _,HO0.out,HB0.out⟩
 case round=>
  obtain ⟨k,gv1,rfl,hk,HI⟩:=hrel
  by_cases hlt:k<rs.length
  ·
   have hMI:=HI.out.1
   obtain ⟨xk,xe⟩:=HRR.out k
   have hrk:=zvo (MvS.mk h []) rs k
   have hra:=zvp (MvS.mk h []) rs k hlt
   have hrn:=zvq (MvS.mk h []) rs k hlt
   have hrt:=zvm (MvS.mk h []) rs k hlt
   have hcan:=xk.can HRT.out.1 HRT.out.2 (HR.out.1 rs[k] (List.getElem_mem hlt))
   have hcnt:=xk.count HRT.out.1 HRT.out.2
   have hll:=xk.len
   have hno:=xk.no
   have hwf:=HR.out.2 rs[k] (List.getElem_mem hlt)
   obtain ⟨gR,hgR⟩:∃gR,aR=some ⟨gR,0,none⟩:=by
    rcases hMI.rR.2 with ⟨e,h0⟩ | ⟨g,cap,cur,e,-⟩
    ·
     omega
    injection e with e1;exact ⟨g,e1⟩
   subst hgR
   have hkk:k<(rootK (MvS.mk h []) rs k).length:=by omega
   have hrR:=hMI.rR
   rw [hrk]at hrR
   have HRL:=mk0 hrk
   have xv:=(hrR.cellAt k (by rw [Nat.mul_one];exact hlt)).trans (zni hkk)
   rw [hra]at xv
   generalize rs[k]=v at*
   generalize hsk:(MvS.mk h []).roots (rs.take k)=sk at*
   have HLD:=mk0 (zve wr.drew b B T (w.heap.size+1) w.heap.size _ _ _ _ _ _ _ _ _ sk (rootK (MvS.mk h []) rs k) d (hMI.below (Below.refl _ _).drew) v hwf hcan (by omega) (by rw [hno];exact hnl) (by omega))
   have t12:=cl0 hMI.blk 12 (x:=.slice (some ⟨gR,0,none⟩) rs.length cR) rfl
   have lT1:=lt0 hMI.blk
   have lR:=(hMI.rR.lt gR rfl).2
   have HRK:=mk0 hkk
   have HNX:Hid ((MvS.mk h []).roots (rs.take (k+1))=sk.lead v/\(rootK (MvS.mk h []) rs k).set k (sk.dst v)=rootK (MvS.mk h []) rs (k+1)):=⟨hrt,hrn⟩
   generalize sk.dst v=tv at*
   generalize sk.lead v=sl at*
   clear hMI xk xe hra hrn hrt hcan hwf hsk hkk hrk hrR
   go_wp2_with fail
   refine zr5 (fun W'=>W'.cell? ⟨T,12,none⟩=some (.slice (some ⟨gR,0,none⟩) rs.length cR)) 9 (by kernel_rfl) t12 fun hH=>?_
   refine zr2 0 (.pointer (some ⟨T,0,none⟩)) rfl (by kernel_rfl) (by kernel_rfl) (fun _ _ _ h=>h) ?_ hH ?_
   ·
    intro w
    go_simp
   refine zr2 1 (.pointer (some ⟨T,0,none⟩)) rfl (by kernel_rfl) (by kernel_rfl) (fun _ _ _ h=>h) ?_ hH ?_
   ·
    intro w
    go_simp
   refine zr2 2 (.pointer (some ⟨T,12,none⟩)) rfl (by kernel_rfl) (by kernel_rfl) (fun _ _ _ h=>h) ?_ hH ?_
   ·
    intro w
    go_simp
   refine zr1 3 (.slice (some ⟨gR,0,none⟩) rs.length cR) rfl (by kernel_rfl) (by kernel_rfl) (by kernel_rfl) (fun _ _ _ h=>h) ?_ hH ?_
   ·
    intro w hSw;go_simp
   refine zr2 4 (.int .i64 (k:Int)) rfl (by kernel_rfl) (by kernel_rfl) (fun _ _ _ h=>h) ?_ hH ?_
   ·
    intro w
    go_simp
   refine zr2 5 (.pointer (some ⟨w.heap.size+1,0,none⟩)) rfl (by kernel_rfl) (by kernel_rfl) (fun _ _ _ h=>h) ?_ hH ?_
   ·
    intro w
    go_simp
   refine zr2 6 (.int .i64 v) rfl (by kernel_rfl) (by kernel_rfl) (fun _ _ _ h=>h) ?_ hH ?_
   ·
    intro w
    go_simp
   refine zr3 (rs:=[7]) (by kernel_rfl) (by simp) ?_
   refine TilR.cons rfl (fun K7 hK7=>?_) TilR.nil
   go_simp
   refine HLD.out.mono ?_
   rintro r w5 ⟨rfl,gv5,o5,hm5⟩
   have hH:w5.cell? ⟨T,12,none⟩=some (.slice (some ⟨gR,0,none⟩) rs.length cR):=cl0 o5.blk 12 rfl
   refine hK7.out _ _ (fun _ _=>hH) ?_
   refine zr2 8 (.pointer (some ⟨gR,k,none⟩)) rfl (by kernel_rfl) (by kernel_rfl) (fun _ _ _ h=>h) ?_ hH ?_
   ·
    intro w
    go_simp
   have hr5:=o5.rR
   rw [HRL.out]at hr5
   have x4:=(hr5.cellAt k (by rw [Nat.mul_one];exact hlt)).trans (zni HRK.out)
   have x5:=hr5.frozenAt k
   have x6:=(hr5.lt gR rfl).2
   refine zr3 (rs:=[9]) (by kernel_rfl) (by simp) ?_
   refine TilR.cons rfl (fun K9 hK9=>?_) TilR.nil
   go_simp
   refine hK9.out _ _ (fun h=>absurd rfl h) ?_
   obtain ⟨w6,hw6⟩:∃w6,w6=w5.setCell ⟨gR,k,none⟩ (.int .i64 tv):=⟨_,rfl⟩
   rw [<-hw6]
   refine zr4 (by kernel_rfl) ?_ _
   try simp only [Act.put,List.setIfInBounds_toArray,List.set_cons_zero,List.set_cons_succ,List.getElem_toArray,List.getElem_cons_zero,List.getElem_cons_succ]
   obtain ⟨r1,hg⟩:=hr5.stored k (.int .i64 tv)
   rw [<-hw6]at r1 hg
   have HF:Hid (Mo b B w6 T (w.heap.size+1) w.heap.size nW (.slice aO h.noted.length cO) (.slice (some ⟨gR,0,none⟩) rs.length cR) gv5 (.slice aC d.classes.length cC) (.slice aS d.supers.length cS) (.slice aF d.fields.length cF) (.slice aN d.names.length cN) (.slice aT d.targets.length cT) ((MvS.mk h []).roots (rs.take (k+1))).h ((MvS.mk h []).roots (rs.take (k+1))).mv ((MvS.mk h []).roots (rs.take (k+1))).mv (rootK (MvS.mk h []) rs (k+1)) d/\Below b w w6):=by
    obtain ⟨o6,hb6⟩:=o5.rootsUp (k:=gR) (rs':=(rootK (MvS.mk h []) rs k).set k tv) rfl hg (by rw [List.length_set,HRL.out,intV,List.map_set];exact r1)
    rw [HNX.out.1,<-HNX.out.2]
    exact ⟨o6,HI.out.2.trans (((Below.refl b wr).drew.trans (Mvd.toBelow (HI.out.1.below (Below.refl _ _).drew) hm5 (by have:=HI.out.2.size;show b<=wr.heap.size;omega))).trans hb6)⟩
   clear o5 hm5 hr5 x4 x5 x6 hH r1 hg hw6 HLD t12 xv HI
   go_wp2_with fail
   go_roundw
   case rel=>exact ⟨k+1,gv5,by go_num,by omega,HF.out⟩
   case measure=>simp [intOf];omega
  obtain rfl:k=rs.length:=by omega
  have hRR:=HRR.out rs.length
  have hII:=HI.out
  have hrk:rootK (MvS.mk h []) rs rs.length=collectR h rs:=by unfold rootK collectR;rw [List.take_length,List.drop_length,List.append_nil]
  rw [List.take_length]at hRR
  rw [hrk,List.take_length]at hII
  have HI1:=mk0 hII
  have HX1:=mk0 hRR.1
  have n5:=cl0 hII.1.blk 5 (x:=.slice aO h.noted.length cO) rfl
  have lT1:=lt0 hII.1.blk
  have HCS:Hid (collectS d h rs=MvS.gone d.fields h.words.length 0 (MvS.noted d.fields ((MvS.mk h []).roots rs) h.noted)):=rfl
  generalize (MvS.mk h []).roots rs=s1 at*
  obtain ⟨rs1,hrs1⟩:∃rs1,collectR h rs=rs1:=⟨_,rfl⟩
  rw [hrs1]at HI1
  have HRS:=mk0 hrs1
  clear hrs1
  clear HI HRR hII hRR hrk a12 HO0 HX0
  go_wp2_with fail
  go_loopw [41] (fun i wr=>∃(k:Nat) (gv1:Value),i=.int .i64 k/\k<=h.noted.length/\Hid (Mo b B wr T (w.heap.size+1) w.heap.size nW (.slice aO h.noted.length cO) (.slice aR rs.length cR) gv1 (.slice aC d.classes.length cC) (.slice aS d.supers.length cS) (.slice aF d.fields.length cF) (.slice aN d.names.length cN) (.slice aT d.targets.length cT) (s1.noted d.fields (h.noted.take k)).h (s1.noted d.fields (h.noted.take k)).mv (s1.noted d.fields (h.noted.take k)).mv rs1 d/\MvX d h ts (s1.noted d.fields (h.noted.take k)) (dnN d.fields ts (h.noted.take k))/\Below b w wr)) (fun i _=>h.noted.length - (intOf i).toNat)
  case atStart=>exact ⟨0,gv1,rfl,Nat.zero_le _,HI1.out.1,HX1.out.iff fun a=>⟨False.elim,fun ⟨n,hn,_⟩=>by cases hn⟩,HI1.out.2⟩
  case round=>
   obtain ⟨k,gv2,rfl,hk,HI⟩:=hrel
   by_cases hlt2:k<h.noted.length
   ·
    obtain ⟨hMI,hX,hBI⟩:=HI.out
    obtain ⟨t,ht,htl,hto⟩:=zvt HRT.out.1 (List.getElem_mem hlt2)
    have hnt:t.loc∉h.noted.take k:=by
     rw [htl]
     intro hm
     obtain ⟨j,hj,e⟩:=List.mem_take_iff_getElem.1 hm
     have:=(List.getElem_inj (xs:=h.noted) (zvu HRT.out.1)).1 e
     omega
    have hns:∀n∈h.noted.take k,h.young<n:=fun n hn=>by
     obtain ⟨_,_,_,q⟩:=zvt HRT.out.1 (List.mem_of_mem_take hn)
     exact q
    rw [<-htl]at hto
    obtain ⟨hth,hcs⟩:=hX.noteAt HRT.out.1 hns ht hto hnt
    have hst:=hX.noteStep HRT.out.1 HRT.out.2 hns ht hto hnt
    have hold:=zuv HRT.out.1 ht hto
    have hnx:=zvn d.fields s1 h.noted k hlt2
    have hcan:=fun j hj=>hX.canAt HRT.out.1 HRT.out.2 HW.out (zut d.fields t) hcs j hj
    have hll:=hX.len
    have hno:=hX.no
    rw [<-htl,hth]at hnx
    rw [hth]at hst
    have hfin:t.fin=t.loc+3+t.len:=rfl
    have h0l:=hold.2.2.2.1.lo
    have hkk:k<(s1.noted d.fields (h.noted.take k)).h.noted.length:=by rw [hno];exact hlt2
    have hOO:=hMI.rO
    rw [hno]at hOO
    obtain ⟨bl,off,hao,hbl,xv⟩:=(zfb hOO hnl).atI k hlt2
    subst hao
    obtain ⟨n,hn⟩:∃n:Nat,t.loc=(n:Int):=⟨t.loc.toNat,by omega⟩
    rw [<-htl,hn]at xv
    rw [hn]at hth
    generalize hsk:s1.noted d.fields (h.noted.take k)=sk at*
    have HTH:=mk0 (ze9 wr _ T _ _ _ _ _ _ _ sk.h d (hMI.gd (by omega) (by rw [hno];exact hnl)) n (by omega))
    rw [hth]at HTH
    have HLR:=mk0 (fun W (hW:Below wr.heap.size wr W)=>zvh W b B T (w.heap.size+1) w.heap.size _ _ _ _ _ _ _ _ _ sk rs1 d (hMI.below hW) t hold.2.2.2.1 ⟨by omega,by omega⟩ (by omega) (by omega) (by rw [hno];exact hnl) hcan)
    have HTK:Hid (h.noted.take k++ [t.loc]=h.noted.take (k+1)):=by show _=_;rw [List.take_succ_eq_append_getElem hlt2,htl]
    have HNX:=mk0 hnx
    have HST:=mk0 hst
    have lTw:=lt0 hMI.blk
    unfold thV at HTH HLR
    clear hMI hX hcs hst hold hnx hcan hsk hOO hnt hns hkk hth htl ht hn hfin
    go_wp2_with fail
    refine HTH.out.mono ?_
    rintro r w3 ⟨rfl,hb3⟩
    have HB3:=mk0 hb3
    have HL3:=mk0 (HLR.out w3 hb3)
    have HBS:=mk0 hBI
    clear hb3 HTH HLR hBI
    go_wp2_with fail
    refine HL3.out.mono ?_
    rintro r w4 ⟨rfl,gv4,o4,hm4⟩
    have HF:Hid (Mo b B w4 T (w.heap.size+1) w.heap.size nW (.slice (some ⟨bl,off,none⟩) h.noted.length cO) (.slice aR rs.length cR) gv4 (.slice aC d.classes.length cC) (.slice aS d.supers.length cS) (.slice aF d.fields.length cF) (.slice aN d.names.length cN) (.slice aT d.targets.length cT) (s1.noted d.fields (h.noted.take (k+1))).h (s1.noted d.fields (h.noted.take (k+1))).mv (s1.noted d.fields (h.noted.take (k+1))).mv rs1 d/\MvX d h ts (s1.noted d.fields (h.noted.take (k+1))) (dnN d.fields ts (h.noted.take (k+1)))/\Below b w w4):=by
     rw [HNX.out,<-HTK.out]
     exact ⟨o4,HST.out.1,HBS.out.trans ((HB3.out.mono (by have:=HBS.out.size;omega)).trans (Mvd.toBelow (HI.out.1.below HB3.out) hm4 (by have:=HBS.out.size;have:=HB3.out.size;omega)))⟩
    clear o4 hm4 HL3 HI xv
    go_wp2_with fail
    go_roundw
    case rel=>exact ⟨k+1,gv4,by go_num,by omega,HF.out⟩
    case measure=>simp [intOf];omega
   obtain rfl:k=h.noted.length:=by omega
   have hII:=HI.out
   rw [List.take_length]at hII
   have HI2:=mk0 hII
   generalize s1.noted d.fields h.noted=s2 at*
   clear HI hII HI1 HX1 n5
   go_wp2_with fail
   go_loopw [7] (fun i wr=>∃(k:Nat) (gv1:Value) (s:MvS),i=.int .i64 k/\k<=s.mv.length/\k<=h.words.length/\Hid (Mo b B wr T (w.heap.size+1) w.heap.size nW (.slice aO h.noted.length cO) (.slice aR rs.length cR) gv1 (.slice aC d.classes.length cC) (.slice aS d.supers.length cS) (.slice aF d.fields.length cF) (.slice aN d.names.length cN) (.slice aT d.targets.length cT) s.h s.mv s.mv rs1 d/\MvX d h ts s (dnG d.fields ts h.noted k s.mv)/\MvS.gone d.fields (h.words.length - k) k s=collectS d h rs/\Below b w wr)) (fun i _=>h.words.length - (intOf i).toNat)
   case atStart=>exact ⟨0,gv2,s2,rfl,Nat.zero_le _,Nat.zero_le _,HI2.out.1,HI2.out.2.1.iff fun a=>⟨Or.inl,fun q=>q.elim id fun ⟨j,p,hj,_⟩=>by omega⟩,HCS.out.symm,HI2.out.2.2⟩
   case round=>
    obtain ⟨k,gv3,s,rfl,hks,hkl,HI⟩:=hrel
    obtain ⟨hMI,hX,hgo,hBI⟩:=HI.out
    have hcnt:=hX.count HRT.out.1 HRT.out.2
    have hll:=hX.len
    have hno:=hX.no
    obtain ⟨aG,cG,hgv⟩:=zfz hMI.rG
    subst hgv
    have g2:=cl0 hMI.mvr 2 (x:=.slice aG s.mv.length cG) rfl
    have lM:=lt0 hMI.mvr
    by_cases hlt3:k<s.mv.length
    ·
     have hns:∀n∈h.noted,h.young<n:=fun n hn=>by
      obtain ⟨_,_,_,q⟩:=zvt HRT.out.1 hn
      exact q
     obtain ⟨p,hpk⟩:∃p,s.mv[k]? =some p:=⟨_,List.getElem?_eq_getElem hlt3⟩
     obtain ⟨hfit,hfin,hcs⟩:=hX.goneAt HRT.out.1 HRT.out.2 hns hpk
     have hst:=hX.goneStep HRT.out.1 HRT.out.2 hns hpk
     have hcan:=fun j hj=>hX.canAt HRT.out.1 HRT.out.2 HW.out (zut d.fields p.2) hcs j hj
     have hnx:=zvs d.fields (h.words.length - (k+1)) k s hpk
     rw [show h.words.length - (k+1)+1=h.words.length - k by omega,hgo]at hnx
     have hrg:wr.ownsRow b 101 4 (.slice aG s.mv.length cG) (s.mv.map (·.2)).length (thCells (s.mv.map (·.2))):=by rw [List.length_map];exact hMI.rG
     have hkm:k<(s.mv.map (·.2)).length:=by rw [List.length_map];exact hlt3
     obtain ⟨bG,off,hag,hbG,e0,e1,e2,e3⟩:=(zhw hrg (by rw [List.length_map];omega)).atTh k hkm
     subst hag
     have hel:(s.mv.map (·.2))[k]=p.2:=by rw [List.getElem_map];exact congrArg Prod.snd (Option.some.inj ((List.getElem?_eq_getElem hlt3).symm.trans hpk))
     rw [hel]at e0 e1 e2 e3
     have hff:p.2.fin=p.2.loc+3+p.2.len:=rfl
     have f0:=hfit.lo
     have f1:=hfit.loc
     obtain ⟨x,hxp⟩:∃x,p.2=x:=⟨_,rfl⟩
     rw [hxp]at hff hfit hfin hcs hst hcan hnx e0 e1 e2 e3 f0 f1
     have HLR:=mk0 (zvh wr b B T (w.heap.size+1) w.heap.size _ _ _ _ _ _ _ _ _ s rs1 d hMI x hfit ⟨by omega,by omega⟩ (by omega) (by omega) (by rw [hno];exact hnl) hcan)
     have HNX:=mk0 hnx
     have HST:=mk0 hst
     have HBS:=mk0 hBI
     have hlen:s.mv.length<=(s.refs (refsOf d.fields x)).mv.length:=by
      obtain ⟨⟨e,he⟩,-⟩:=hst.2
      rw [he,List.length_append]
      omega
     unfold thV at HLR
     clear hMI hX hgo hBI hns hpk hcs hst hcan hnx hrg hkm hel hfit hxp
     go_wp2_with fail
     refine HLR.out.mono ?_
     rintro r w4 ⟨rfl,gv4,o4,hm4⟩
     have HF:Hid (Mo b B w4 T (w.heap.size+1) w.heap.size nW (.slice aO h.noted.length cO) (.slice aR rs.length cR) gv4 (.slice aC d.classes.length cC) (.slice aS d.supers.length cS) (.slice aF d.fields.length cF) (.slice aN d.names.length cN) (.slice aT d.targets.length cT) (s.refs (refsOf d.fields x)).h (s.refs (refsOf d.fields x)).mv (s.refs (refsOf d.fields x)).mv rs1 d/\MvX d h ts (s.refs (refsOf d.fields x)) (dnG d.fields ts h.noted (k+1) (s.refs (refsOf d.fields x)).mv)/\MvS.gone d.fields (h.words.length - (k+1)) (k+1) (s.refs (refsOf d.fields x))=collectS d h rs/\Below b w w4):=
      ⟨o4,HST.out.1,HNX.out.symm,HBS.out.trans (Mvd.toBelow HI.out.1 hm4 (by have:=HBS.out.size;omega))⟩
     clear o4 hm4 HLR HI e0 e1 e2 e3 g2
     go_wp2_with fail
     go_roundw
     case rel=>exact ⟨k+1,gv4,_,by go_num,by omega,by omega,HF.out⟩
     case measure=>simp [intOf];omega
    have hfs:s=collectS d h rs:=by rw [<-hgo];exact (zvr _ _ _ _ (by omega)).symm
    have HLV:=mk0 (zvj wr b B T _ _ _ _ _ _ _ _ s.h rs1 d hMI.tsk (by rw [hX.yo];omega) (by rw [hX.yo,hX.len];omega))
    have HFS:=mk0 hfs
    have HBS:=mk0 hBI
    clear hMI hX hgo hBI HI hfs
    go_wp2_with fail
    refine HLV.out.mono ?_
    rintro r w4 ⟨rfl,o4,hb4⟩
    have HF:Hid (Tsk b B w4 T nW (.slice none 0 0) (.slice aR rs.length cR) (.slice aC d.classes.length cC) (.slice aS d.supers.length cS) (.slice aF d.fields.length cF) (.slice aN d.names.length cN) (.slice aT d.targets.length cT) (collectD d h rs) rs1 d/\Below b w w4):=by
     unfold collectD
     rw [<-HFS.out]
     exact ⟨o4,HBS.out.trans hb4⟩
    clear o4 hb4 HLV
    go_wp2_with fail
    go_end0
    exact ⟨rfl,by rw [HRS.out];exact HF.out.1,HF.out.2⟩
end Go.Proofs.YtjdnmblggdobgaaGreat
