import Derived.Test.YtjdnmblggdobgaaGreatJTk2Dies
import Derived.Test.YtjdnmblggdobgaaGreatJHyDHyF
import Derived.Test.YtjdnmblggdobgaaGreatJHyGHyH
set_option maxHeartbeats 8000000
set_option maxRecDepth 100000
namespace Go.Proofs.YtjdnmblggdobgaaGreat
open Go.RowKit Go.Maps
structure Tsk (b B:Nat) (w:World) (T:Nat) (nW nO nR kC kS kF kN kT:Value) (h:bb) (rs:List Int) (d:bd):Prop where
 blk:w.heap[T]? =some (.cells #[nW,.int .i64 h.ag,.int .i64 h.old,.int .i64 h.be,.int .i64 h.ar,nO,.int .i64 h.next,kC,kS,kF,kN,kT,nR] 131 (0,0))
 rW:w.ownsRow b 3 1 nW h.ab.length (b8 h.ab)
 rO:w.ownsRow b 3 1 nO h.am.length (b8 h.am)
 rR:w.ownsRow b 3 1 nR rs.length (b8 rs)
 lk:j9 (· <B) w kC kS kF kN kT d
 le:B<=b
 bT:b<=T
 sep:sepB [some T,nW.ownBlock,nO.ownBlock,nR.ownBlock]
theorem Tsk.below {b B T:Nat} {w:World} {N J L D G E F I:Value} {h:bb} {rs:List Int} {d:bd} (o:Tsk b B w T N J L D G E F I h rs d) {w':World} (A:Below w.heap.size w w'):Tsk b B w' T N J L D G E F I h rs d:=
 have O:=bk o.blk
 ⟨(A.block _ O).trans o.blk,kv o.rW A,kv o.rO A,kv o.rR A,o.lk.kept (Kp.below (A.mono (by have:=o.le;have:=o.bT;omega))),o.le,o.bT,o.sep⟩
theorem Tsk.ab {b B T:Nat} {w:World} {D F G J O L N V:Value} {h:bb} {rs:List Int} {d:bd} (o:Tsk b B w T D F G J O L N V h rs d) {w':World} {k:Nat} {ws:List Int} (I:D.ownBlock=some k) (A:w.grownBy w' (some k)) (Z:w'.ownsRow b 3 1 D ws.length (b8 ws)):Tsk b B w' T D F G J O L N V ⟨ws,h.ag,h.old,h.be,h.ar,h.am,h.next⟩ rs d/\Below b w w':=
 have W:b<=k:=(o.rW.lt k I).1;have E: [some T,D.ownBlock,F.ownBlock,G.ownBlock][1]? =some (some k):=congrArg some I
 ⟨⟨(A.block T (bk o.blk) (fun e=>zvs o.sep (i:=0) (by decide) E (congrArg some e))).trans o.blk,Z,o.rO.kept A (Or.inr fun e=>zvr o.sep (j:=2) (by decide) E (congrArg some e)),o.rR.kept A (Or.inr fun e=>zvr o.sep (j:=3) (by decide) E (congrArg some e)),o.lk.kept ⟨A.size,fun j X Y=>A.block j Y (by have:=o.le;have:=X;intro e;injection e;omega)⟩,o.le,o.bT,o.sep⟩,(br b w).grown A (by have:=bk o.blk;have:=o.bT;omega) (fun j e=>by cases e;exact W)⟩
theorem Tsk.task {b B T:Nat} {w:World} {E O D G L I J N:Value} {h:bb} {rs:List Int} {d:bd} (o:Tsk b B w T E O D G L I J N h rs d) {w':World} {h':bb} {nO':Value} (A:w.grownBy w' (some T)) (W:w'.heap[T]? =some (.cells #[E,.int .i64 h'.ag,.int .i64 h'.old,.int .i64 h'.be,.int .i64 h'.ar,nO',.int .i64 h'.next,G,L,I,J,N,D] 131 (0,0))) (hw:h'.ab=h.ab) (Z:w'.ownsRow b 3 1 nO' h'.am.length (b8 h'.am)) (F:nO'=O\/nO'.ownBlock=none):Tsk b B w' T E nO' D G L I J N h' rs d/\Below b w w':=
 have V: [some T,E.ownBlock,O.ownBlock,D.ownBlock][0]? =some (some T):=rfl
 have hs:sepB [some T,E.ownBlock,nO'.ownBlock,D.ownBlock]:=by
  rcases F with rfl | F
  ·exact o.sep
  have:=o.sep;unfold sepB at this ⊢;rw [F];simp only [List.pairwise_cons,List.mem_cons,List.not_mem_nil,or_false,forall_eq_or_imp,forall_eq,List.Pairwise.nil,and_true,false_implies,implies_true]at this ⊢;exact ⟨⟨this.1.1,fun _ _ e=>(by cases e),this.1.2.2⟩,⟨fun _ _ e=>(by cases e),this.2.1.2⟩,fun _ e=>(by cases e)⟩
 ⟨⟨W,hw ▸ o.rW.kept A (Or.inr fun e=>zvr o.sep (j:=1) (by decide) V (congrArg some e)),Z,o.rR.kept A (Or.inr fun e=>zvr o.sep (j:=3) (by decide) V (congrArg some e)),o.lk.kept ⟨A.size,fun j X Y=>A.block j Y (by have:=o.le;have:=o.bT;have:=X;intro e;injection e;omega)⟩,o.le,o.bT,hs⟩,(br b w).grown A (by have:=bk o.blk;have:=o.bT;omega) (fun j e=>by cases e;exact o.bT)⟩
theorem zwn {ops:Array Oper} {o:Oper} {a:Act} {w:World} {K:Act->World->Prop} {Q:Exit->Act->World->Prop} {E:Prop} (V:o.guard=none) (s:Operand)
 (ho:o.op=.call { callee:=.builtin .clear,args:=#[s],argTypes:=#[22] }) (b g off n F cap:Nat) (ws:List Int) (J:w.ownsRow b 3 1 (.slice (some ⟨g,0,none⟩) ws.length cap) ws.length (b8 ws))
 (hs:a.eval s=.slice (some ⟨g,off,none⟩) n F) (hn:0<n) (ad:off+n<=ws.length)
 (h:∀w',w.grownBy w' (some g)->w'.ownsRow b 3 1 (.slice (some ⟨g,0,none⟩) ws.length cap) (ni ws off (List.replicate n 0)).length (b8 (ni ws off (List.replicate n 0)))->K (a.put o.dst (.tuple #[])) w'):
 if Region.wanted o (yielded ops a.tmps)=true then Oper.wp Tryz.prog o a w K Q else E:=by
 have hw:Region.wanted o (yielded ops a.tmps)=true:=by simp [Region.wanted,V]
 rw [if_pos hw];obtain ⟨af,N,hB,hc,hm,Z,hx,D⟩:=zsy J;have Y:∀j,j<n->∃x,ws[off+j]? =some x:=fun j A=>⟨ws[off+j]'(by omega),List.getElem?_eq_getElem (by omega)⟩;have L:=Lib.run_clear_slice (P:=Tryz.prog) w 22 3 o.type (.int .i64 0) Tryz.underlying22 zero3 rfl rfl g off n F hn (fun j A=>by
  obtain ⟨x,aa⟩:=Y j A;rw [D (off+j) (.int .i64 x) (by rw [zs1,aa];rfl)];rfl) (fun j _=>lj N (off+j))
 unfold Oper.wp;simp [execOp,ho,resolve,invoke,builtin,hs,L,Result.andThen];have G:(ni ws off (List.replicate n 0)).length=ws.length:=zug (by rw [List.length_replicate];omega);refine h _ (zsu _ _ (World.grownBy.refl _ _)) ?_;rw [G];obtain ⟨ac,O,X⟩:=zsv (List.replicate n (.int .i64 0)) off N;refine zsx O hB (by rw [X,Z]) hc hm (by rw [zir,G]) fun j v A=>?_;rw [zs3 N off _ (by rw [List.length_replicate];omega) j,List.length_replicate];rw [zs1]at A;have ag:j<ws.length:=by
  rcases Nat.lt_or_ge j ws.length with q | q
  ·exact q
  rw [List.getElem?_eq_none (by rw [G];exact q)]at A;cases A
 have e1:(ws.take off).length=off:=by simp;omega
 by_cases I:off<=j/\j<off+n
 ·rw [if_pos I];unfold ni at A;rw [List.getElem?_append_right (by omega),e1,List.getElem?_append_left (by rw [List.length_replicate];omega),List.getElem?_replicate,if_pos (by omega)]at A;rw [List.getElem?_replicate,if_pos (by omega)];exact A
 rw [if_neg I];unfold ni at A;have W:(ws[j]?).map (fun x=>Value.int .i64 x)=some v:=by
  rcases Nat.lt_or_ge j off with q | q
  ·rw [List.getElem?_append_left (by omega),List.getElem?_take_of_lt q]at A;exact A
  rw [List.getElem?_append_right (by omega),e1,List.getElem?_append_right (by rw [List.length_replicate];omega),List.length_replicate,List.getElem?_drop,show off+n+(j - off - n)=j by omega]at A;exact A
 exact D j v (by rw [zs1];exact W)
theorem zwo (w:World) (b B T:Nat) (nW nO nR kC kS kF kN kT:Value) (h:bb) (rs:List Int) (d:bd) (o:Tsk b B w T nW nO nR kC kS kF kN kT h rs d) (hy:1<=h.ag/\h.ag<=1000000) (h5:h.ag+1<=h.ab.length):
 Calls Tryz.prog 142 #[.pointer (some ⟨T,0,none⟩)] w fun r w'=>r=.returned (.tuple #[])/\Tsk b B w' T nW (.slice none 0 0) nR kC kS kF kN kT (leaveY h) rs d/\Below b w w':=by
 obtain ⟨D,E,af,an⟩:∃D E,nW=.slice (some ⟨D,0,none⟩) h.ab.length E/\h.ab.length<=E:=by
  rcases o.rW.2 with ⟨e,h0⟩ | ⟨g,cap,al,e,-,-,hc,-⟩
  ·omega
  exact ⟨g,cap,e,hc⟩
 subst af;obtain ⟨aO,cO,ac⟩:=kh o.rO;subst ac;obtain ⟨aR,cR,ad⟩:=kh o.rR;subst ad;obtain ⟨aC,cC,aS,cS,aF,cF,aN,cN,aT,cT,rfl,rfl,rfl,rfl,rfl⟩:=o.lk.agg;have HO:=ae (o.below (br _ _).drew);have lT:=bk o.blk;have nT:¬T=D:=fun e=>zvr o.sep (i:=0) (j:=1) (by decide) rfl (by rw [e];rfl);have a0:=aw o.blk 0 (x:=.slice (some ⟨D,0,none⟩) h.ab.length E) rfl;have a1:=aw o.blk 1 (x:=.int .i64 h.ag) rfl;have ao:∀V,(Instr.slice 22 (.slice (some ⟨D,0,none⟩) h.ab.length E) (some (.int .i64 1)) (some (.int .i64 (h.ag+1))) none).run Tryz.prog V=.ok (.slice (some ⟨D,1,none⟩) h.ag.toNat (E - 1)) V:=fun V=>by rw [run_slice_lh V 22 _ _ _ Tryz.underlying22 .i64 .i64 1 (h.ag+1) (by omega) (by omega) (by omega)];show Result.ok (sliced (some ⟨D,0,none⟩) 1 (h.ag+1).toNat E 1) V=_;unfold sliced;rw [if_neg (by omega),Option.map_some,zg1,Nat.mul_one,Nat.zero_add,show (h.ag+1).toNat - 1=h.ag.toNat by omega]
 have w1:IntKind.i64.wrap (h.ag+1)=h.ag+1:=by rw [IntKind.wrap_i64];omega
 clear o;go_enter Tryz.func142,Tryz.ntmps142;go_wp2_with fail;refine wp_region_held_drew (S:=fun W'=>∀p:Addr,p.block<w.heap.size->p.block≠D->W'.cell? p=w.cell? p) (by kernel_rfl) (fun p hp _=>rfl) fun A=>?_;refine ta 0 (.pointer (some ⟨T,0,none⟩)) rfl A ?_;refine ta 1 (.pointer (some ⟨T,0,none⟩)) rfl A ?_;refine ta 2 (.pointer (some ⟨T,0,none⟩)) rfl A ?_;refine ta 3 (.pointer (some ⟨T,0,none⟩)) rfl A ?_;refine ta 4 (.pointer (some ⟨T,0,none⟩)) rfl A ?_;refine ta 5 (.slice (some ⟨D,0,none⟩) h.ab.length E) rfl A ?_;refine ta 6 (.pointer (some ⟨T,0,none⟩)) rfl A ?_;refine ta 7 (.pointer (some ⟨T,0,none⟩)) rfl A ?_;refine ta 8 (.pointer (some ⟨T,0,none⟩)) rfl A ?_;refine ta 9 (.pointer (some ⟨T,0,none⟩)) rfl A ?_;refine ta 10 (.pointer (some ⟨T,1,none⟩)) rfl A ?_;refine ta 11 (.int .i64 h.ag) rfl A ?_;refine ta 12 (.int .i64 (h.ag+1)) rfl A ?_;refine ta 13 (.slice (some ⟨D,1,none⟩) h.ag.toNat (E - 1)) rfl A ?_;refine wpAnyH_ready (rs:=[14]) (by kernel_rfl) (by simp) ?_;refine AllReadyH.cons rfl (fun ak O=>?_) AllReadyH.nil;refine zwn rfl (.tmp 15) rfl b D 1 h.ag.toNat (E - 1) E h.ab HO.o.rW (by go_simp) (by omega) (by omega) ?_;intro w4 L Z;refine O.o _ _ (fun p hp ah=>World.cell?_of_block (a:=p) (L.block p.block hp (fun e=>ah (ojq e)))) fun A=>?_;refine wpAnyH_done (by kernel_rfl) ?_ _;clear A;try simp only [Act.put,p1q,p4q,p3q,p2q,p5q,p6q]
 obtain ⟨J,W⟩:=HO.o.ab (k:=D) rfl L Z;have I:Below b w w4:=(br b w).drew.trans W;have ai:=ae J;have aa:=ae I;have s3:=aw J.blk 3 (x:=.int .i64 h.be) rfl;have s5:=aw J.blk 5 (x:=.slice aO h.am.length cO) rfl;have sz:=fun j=>lj J.blk j;have l4:=bk J.blk;obtain ⟨N,F⟩:∃N,N=w4.setCell ⟨T,3,none⟩ (.int .i64 1):=⟨_,rfl⟩;have X:w4.grownBy N (some T):=F ▸ mf (World.grownBy.refl _ _) _ _ (Or.inl rfl);have k5:N.heap[T]? =some (.cells #[.slice (some ⟨D,0,none⟩) h.ab.length E,.int .i64 h.ag,.int .i64 h.old,.int .i64 1,.int .i64 h.ar,.slice aO h.am.length cO,.int .i64 h.next,.slice aC d.aj.length cC,.slice aS d.ax.length cS,.slice aF d.fields.length cF,.slice aN d.names.length cN,.slice aT d.aq.length cT,.slice aR rs.length cR] 131 (0,0)):=F ▸ mu J.blk _;have u5:=aw k5 5 (x:=.slice aO h.am.length cO) rfl;have uz:=fun j=>lj k5 j;have l5:=bk k5;obtain ⟨W6,G⟩:∃W6,W6=N.setCell ⟨T,5,none⟩ (.slice none 0 0):=⟨_,rfl⟩;have Y:w4.grownBy W6 (some T):=G ▸ mf X _ _ (Or.inl rfl);have k6:W6.heap[T]? =some (.cells #[.slice (some ⟨D,0,none⟩) h.ab.length E,.int .i64 h.ag,.int .i64 h.old,.int .i64 1,.int .i64 h.ar,.slice none 0 0,.int .i64 h.next,.slice aC d.aj.length cC,.slice aS d.ax.length cS,.slice aF d.fields.length cF,.slice aN d.names.length cN,.slice aT d.aq.length cT,.slice aR rs.length cR] 131 (0,0)):=G ▸ mu k5 _;have HF:=ae (J.task (h':=leaveY h) (nO':=.slice none 0 0) Y k6 rfl (World.ownsRow_nil _ _ _ _) (Or.inr rfl));have H5:=ae F;have H6:=ae G;clear J W L Z I X k5 Y k6 F G a0 a1 HO;go_wp2_with fail;rw [<-H5.o];go_wp2_with fail;rw [<-H6.o];go_end0;exact ⟨rfl,HF.o.1,aa.o.trans HF.o.2⟩
theorem zwp:∀(l:List Int) (s:fp),(s.tos l).length=l.length
 | [],_=>rfl
 | v::l,s=>by rw [fp.tos,List.length_cons,List.length_cons,zwp l]
theorem zwq:∀(l:List Int) (s:fp) (v:Int),s.tos (l++ [v])=s.tos l++ [(s.roots l).dst v]
 | [],_,_=>rfl
 | u::l,s,v=>by rw [List.cons_append,fp.tos,fp.tos,zwq l,List.cons_append];rfl
theorem zwr (s:fp) (l:List Int) (k:Nat) (A:k<l.length):s.roots (l.take (k+1))=(s.roots (l.take k)).lead l[k]:=by unfold fp.roots;rw [List.take_succ_eq_append_getElem A,List.foldl_append];rfl
theorem zws (fs:List (List bg)) (s:fp) (l:List Int) (k:Nat) (A:k<l.length):s.am fs (l.take (k+1))=(s.am fs (l.take k)).refs (refsOf fs (bj (s.am fs (l.take k)).h.ab l[k])):=by unfold fp.am;rw [List.take_succ_eq_append_getElem A,List.foldl_append];rfl
def ko (s:fp) (rs:List Int) (k:Nat):List Int:=s.tos (rs.take k)++rs.drop k
theorem zwt (s:fp) (rs:List Int) (k:Nat):(ko s rs k).length=rs.length:=by unfold ko;rw [List.length_append,zwp,List.length_take,List.length_drop];omega
theorem zwu (s:fp) (rs:List Int) (k:Nat) (A:k<rs.length):(ko s rs k)[k]'(by rw [zwt];exact A)=rs[k]:=by
 have e:(ko s rs k)[k]? =some rs[k]:=by
  unfold ko;have D:(s.tos (rs.take k)).length=k:=by rw [zwp,List.length_take];omega
  rw [List.getElem?_append_right (by omega),D,Nat.sub_self,List.getElem?_drop,Nat.add_zero,List.getElem?_eq_getElem A]
 rw [List.getElem?_eq_getElem (by rw [zwt];exact A)]at e;exact ojq e
theorem zwv (s:fp) (rs:List Int) (k:Nat) (A:k<rs.length):(ko s rs k).set k ((s.roots (rs.take k)).dst rs[k])=ko s rs (k+1):=by
 unfold ko;have D:(s.tos (rs.take k)).length=k:=by rw [zwp,List.length_take];omega
 rw [List.take_succ_eq_append_getElem A,zwq,List.set_append_right _ _ (by omega),D,Nat.sub_self,List.drop_eq_getElem_cons A,p4q,List.append_assoc];rfl
theorem zww (fs:List (List bg)) (f i:Nat) (s:fp) (h:s.mv.length<=i):fp.gone fs f i s=s:=by
 cases f with
 | zero=>rfl
 | succ f=>rw [fp.gone,List.getElem?_eq_none h]
theorem zwx (fs:List (List bg)) (f i:Nat) (s:fp) {p:Int×bp} (h:s.mv[i]? =some p):fp.gone fs (f+1) i s=fp.gone fs f (i+1) (s.refs (refsOf fs p.2)):=by rw [fp.gone,h]
theorem wd_wf {ws:List Int} (h:∀x∈ws,(Lit.int .i64 x).wf=true) (a:Int):(Lit.int .i64 (wd ws a)).wf=true:=by
 unfold wd;cases hx:ws[a.toNat]? with
 | none=>decide
 | some x=>exact h x (List.mem_of_getElem? hx)
theorem il.canAt {d:bd} {h0:bb} {ts:List bp} {s:fp} {dn:Int->Prop} (r:Right d h0 ts) (A:0<=leftD h0) (V:∀x∈h0.ab,(Lit.int .i64 x).wf=true) {l:List Int} (x:il d h0 ts s dn) (D:l.Nodup) (h:∀a∈l,¬dn a/\h0.ag<a/\a<s.h.ar/\dh ts (wd h0.ab (ik s.mv a))=true) (k:Nat) (F:k<l.length):
 CanAt d (s.refs (l.take k)) s.h l[k]:=by
 obtain ⟨y,G,I,J⟩:=x.refsAt r A D h k F;obtain ⟨-,Z⟩:=il.refs r A (l.take k) s dn x (D.sublist (List.take_sublist _ _)) fun a N=>h a (List.mem_of_mem_take N);obtain ⟨L,W,X,Y⟩:=h l[k] (gm F);have E:l[k]∉l.take k:=by intro O;obtain ⟨j,hj,e⟩:=List.mem_take_iff_getElem.1 O;have:=(List.getElem_inj (xs:=l) D).1 e;omega
 have e:=y.nay l[k] I J (by rintro (h | h);exact L h;exact E h);have hc:=y.count r A;have z1:=r.sized.ag;have z2:=r.sized.old;have z3:=r.sized.len;exact ⟨by rw [e];exact wd_wf V _,y.can r A G,I,by rw [y.len];exact J,y.len.trans x.len.symm,y.no.trans x.no.symm,by omega,(y.lead r A G).1.len.trans y.len.symm⟩
theorem zwy {d:bd} {h:bb} {ts:List bp} (r:Right d h ts) {n:Int} (D:n∈h.am):∃t∈ts,t.loc=n/\h.ag<n:=by
 have h1:=List.any_eq_false.1 r.note n D;unfold ga at h1;cases hp:km ts n with
 | none=>rw [hp]at h1;simp at h1
 | some t=>
   obtain ⟨E,F⟩:=zie ts hp;refine ⟨t,E,F,?_⟩;by_cases A:h.ag<n
   ·exact A
   simp [hp,A]at h1
theorem zwz {d:bd} {h:bb} {ts:List bp} (r:Right d h ts):h.am.Nodup:=by have h1:=zts.1 ((zkj _).1 r.rise);exact h1.imp fun h e=>by omega
theorem Mo.tsk {b B T M X:Nat} {w:World} {L I J N A F D E G:Value} {h:bb} {m g:List (Int×bp)} {rs:List Int} {d:bd} (o:Mo b B w T M X L I J N A F D E G h m g rs d):Tsk b B w T L I J A F D E G h rs d:=
 ⟨o.blk,o.rW,o.rO,o.rR,o.lk,o.le,o.bT,List.Pairwise.sublist (by
  refine List.Sublist.cons_cons _ (List.Sublist.cons _ (List.Sublist.cons _ (List.Sublist.cons_cons _ (List.Sublist.cons_cons _ (List.Sublist.cons_cons _ (List.Sublist.cons _ List.Sublist.slnil))))))) o.sep⟩
theorem Tsk.mo {b B T:Nat} {w:World} {J G I N X O V Y:Value} {h:bb} {rs:List Int} {d:bd} (o:Tsk b B w T J G I N X O V Y h rs d) (W:World) (F:W=(w.alloc (.map #[] 0)).alloc (.cells #[.pointer (some ⟨T,0,none⟩),.map (some w.heap.size),.slice none 0 0] 196)):
 Mo b B W T (w.heap.size+1) w.heap.size J G I (.slice none 0 0) N X O V Y h [] [] rs d/\Below w.heap.size w W:=by
 have L:Below w.heap.size w W:=F ▸ ((br _ _).alloc (nlq _) _).alloc (by simp) _;have E:=o.below L;have lT:=bk o.blk;have Z:W.heap[w.heap.size+1]? =some (.cells #[.pointer (some ⟨T,0,none⟩),.map (some w.heap.size),.slice none 0 0] 196 (0,0)):=by have:=heap_alloc_new (w.alloc (.map #[] 0)) (.cells #[.pointer (some ⟨T,0,none⟩),.map (some w.heap.size),.slice none 0 0] 196);rw [<-F]at this;simpa using this
 have hp:NwMap W w.heap.size []:=by have h1:=(World.ownsMap_made (H:=Unit) w Tryz.prog 3 (plainElem Tryz.prog 3)).alloc (.cells #[.pointer (some ⟨T,0,none⟩),.map (some w.heap.size),.slice none 0 0] 196);rw [<-F]at h1;exact ⟨.map [],h1,zvp⟩
 refine ⟨⟨E.blk,Z,E.rW,E.rO,E.rR,World.ownsRow_nil _ _ _ _,hp,E.lk,o.le,o.bT,by have:=o.bT;omega,by have:=o.bT;omega,?_⟩,L⟩;have D:=o.sep;have q1:∀k,J.ownBlock=some k->k<w.heap.size:=fun k e=>(o.rW.lt k e).2;have q2:∀k,G.ownBlock=some k->k<w.heap.size:=fun k e=>(o.rO.lt k e).2;have q3:∀k,I.ownBlock=some k->k<w.heap.size:=fun k e=>(o.rR.lt k e).2;unfold sepB at D ⊢;simp only [List.pairwise_cons,List.mem_cons,List.not_mem_nil,or_false,forall_eq_or_imp,forall_eq,List.Pairwise.nil,and_true,false_implies,implies_true]at D ⊢;refine ⟨⟨fun k e A=>by have:=ojq e;have:=ojq A;omega,fun k e A=>by have:=ojq e;have:=ojq A;omega,D.1.1,D.1.2.1,D.1.2.2,fun _ _ e=>(by cases e)⟩,⟨fun k e A=>by have:=ojq e;have:=ojq A;omega,fun k e A=>by have:=q1 k A;have:=ojq e;omega,fun k e A=>by have:=q2 k A;have:=ojq e;omega,fun k e A=>by have:=q3 k A;have:=ojq e;omega,fun _ _ e=>(by cases e)⟩,⟨fun k e A=>by have:=q1 k A;have:=ojq e;omega,fun k e A=>by have:=q2 k A;have:=ojq e;omega,fun k e A=>by have:=q3 k A;have:=ojq e;omega,fun _ _ e=>(by cases e)⟩,⟨D.2.1.1,D.2.1.2,fun _ _ e=>(by cases e)⟩,⟨D.2.2,fun _ _ e=>(by cases e)⟩,fun _ _ e=>(by cases e)⟩
theorem zw0 (w:World) (b B T:Nat) (nW nO nR kC kS kF kN kT:Value) (h:bb) (rs:List Int) (d:bd) (o:Tsk b B w T nW nO nR kC kS kF kN kT h rs d) (ts:List bp) (rt:Right d h ts) (hl:0<=leftD h) (hr:∀v∈rs,dh ts v=true) (hw:∀x∈h.ab,(Lit.int .i64 x).wf=true) (cl:∀x∈rs,(Lit.int .i64 x).wf=true) (d5:rs.length<=1000000):
 Calls Tryz.prog 84 #[.pointer (some ⟨T,0,none⟩)] w fun r w'=>r=.returned (.tuple #[])/\Tsk b B w' T nW (.slice none 0 0) nR kC kS kF kN kT (ck d h rs) (ep h rs) d/\Below b w w':=by
 have d4:=@run_makeMap Tryz.prog;obtain ⟨aO,cO,da⟩:=kh o.rO;subst da;obtain ⟨aR,cR,dd⟩:=kh o.rR;subst dd;obtain ⟨aC,cC,aS,cS,aF,cF,aN,cN,aT,cT,rfl,rfl,rfl,rfl,rfl⟩:=o.lk.agg;obtain ⟨W0,a6⟩:∃W0,W0=(w.alloc (.map #[] 0)).alloc (.cells #[.pointer (some ⟨T,0,none⟩),.map (some w.heap.size),.slice none 0 0] 196):=⟨_,rfl⟩;obtain ⟨o0,b3⟩:=o.mo W0 a6;have z:=rt.sized;have z1:=z.ag;have z2:=z.old;have z3:=z.len;have z5:=z.ar;have az:h.am.length<=1000000:=(zmb rt.err rt.both hw).2.2;have c6:b<=w.heap.size:=by have:=o.bT;have:=bk o.blk;omega
 have bx:=ae o0;have cp:Hid (Below b w W0):=b3.mono c6;have cs:=ae a6;have A:=ae (And.intro rt hl);have HR:=ae (And.intro hr cl);have HW:=ae hw;have cy:Hid (il d h ts (fp.mk h []) (fun _=>False)):=zu2;have bc:=ae (fun k=>il.roots rt hl (rs.take k) (fp.mk h []) _ zu2 (fun v hv=>hr v (List.mem_of_mem_take hv)));have lT:=bk o0.blk;have b1:=aw o0.blk 12 (x:=.slice aR rs.length cR) rfl;have aL:=b1;rw [a6]at aL;clear o o0 b3 a6 rt hl hr cl hw z;go_enter Tryz.func84,Tryz.ntmps84;go_wp2_with fail;rw [<-cs.o];go_loopw [19] (fun i wr=>∃(k:Nat) (Z:Value),i=.int .i64 k/\k<=rs.length/\Hid (Mo b B wr T (w.heap.size+1) w.heap.size nW (.slice aO h.am.length cO) (.slice aR rs.length cR) Z (.slice aC d.aj.length cC) (.slice aS d.ax.length cS) (.slice aF d.fields.length cF) (.slice aN d.names.length cN) (.slice aT d.aq.length cT) ((fp.mk h []).roots (rs.take k)).h ((fp.mk h []).roots (rs.take k)).mv ((fp.mk h []).roots (rs.take k)).mv (ko (fp.mk h []) rs k) d/\Below b w wr)) (fun i _=>rs.length - (intOf i).toNat)
 case atStart=>exact ⟨0,_,rfl,n0q _,bx.o,cp.o⟩
 case round=>
  obtain ⟨k,Z,rfl,hk,I⟩:=hrel;by_cases ac:k<rs.length
  ·have D:=I.o.1;obtain ⟨xk,xe⟩:=bc.o k;have ak:=zwt (fp.mk h []) rs k;have cf:=zwu (fp.mk h []) rs k ac;have ci:=zwv (fp.mk h []) rs k ac;have cj:=zwr (fp.mk h []) rs k ac;have E:=xk.can A.o.1 A.o.2 (HR.o.1 rs[k] (gm ac));have b5:=xk.count A.o.1 A.o.2;have cc:=xk.len;have V:=xk.no;have cm:=HR.o.2 rs[k] (gm ac);obtain ⟨gR,c8⟩:∃gR,aR=some ⟨gR,0,none⟩:=by
    rcases D.rR.2 with ⟨e,h0⟩ | ⟨g,cap,dl,e,-⟩
    ·omega
    injection e with e1;exact ⟨g,e1⟩
   subst c8;have au:k<(ko (fp.mk h []) rs k).length:=by omega
   have bn:=D.rR;rw [ak]at bn;have bz:=ae ak;have xv:=(bn.cellAt k (by rw [Nat.mul_one];exact ac)).trans (zmp au);rw [cf]at xv;generalize rs[k]=v at*;generalize hsk:(fp.mk h []).roots (rs.take k)=sk at*;have bu:=ae (zvz wr.drew b B T (w.heap.size+1) w.heap.size _ _ _ _ _ _ _ _ _ sk (ko (fp.mk h []) rs k) d (D.below (br _ _).drew) v cm E (by omega) (by rw [V];exact az) (by omega));have co:=aw D.blk 12 (x:=.slice (some ⟨gR,0,none⟩) rs.length cR) rfl;have dg:=bk D.blk;have lR:=(D.rR.lt gR rfl).2;have cu:=ae au;have af:Hid ((fp.mk h []).roots (rs.take (k+1))=sk.lead v/\(ko (fp.mk h []) rs k).set k (sk.dst v)=ko (fp.mk h []) rs (k+1)):=⟨cj,ci⟩;generalize sk.dst v=tv at*;generalize sk.lead v=sl at*;clear D xk xe cf ci cj E cm hsk au ak bn;go_wp2_with fail;refine zrq (fun W'=>W'.cell? ⟨T,12,none⟩=some (.slice (some ⟨gR,0,none⟩) rs.length cR)) 9 (by kernel_rfl) co fun hH=>?_;refine zrn 0 (.pointer (some ⟨T,0,none⟩)) rfl (by kernel_rfl) (by kernel_rfl) (fun _ _ _ h=>h) ?_ hH ?_
   ·intro w;go_simp
   refine zrn 1 (.pointer (some ⟨T,0,none⟩)) rfl (by kernel_rfl) (by kernel_rfl) (fun _ _ _ h=>h) ?_ hH ?_
   ·intro w;go_simp
   refine zrn 2 (.pointer (some ⟨T,12,none⟩)) rfl (by kernel_rfl) (by kernel_rfl) (fun _ _ _ h=>h) ?_ hH ?_
   ·intro w;go_simp
   refine zrm 3 (.slice (some ⟨gR,0,none⟩) rs.length cR) rfl (by kernel_rfl) (by kernel_rfl) (by kernel_rfl) (fun _ _ _ h=>h) ?_ hH ?_
   ·intro w dz;go_simp
   refine zrn 4 (.int .i64 (k:Int)) rfl (by kernel_rfl) (by kernel_rfl) (fun _ _ _ h=>h) ?_ hH ?_
   ·intro w;go_simp
   refine zrn 5 (.pointer (some ⟨w.heap.size+1,0,none⟩)) rfl (by kernel_rfl) (by kernel_rfl) (fun _ _ _ h=>h) ?_ hH ?_
   ·intro w;go_simp
   refine zrn 6 (.int .i64 v) rfl (by kernel_rfl) (by kernel_rfl) (fun _ _ _ h=>h) ?_ hH ?_
   ·intro w;go_simp
   refine zro (rs:=[7]) (by kernel_rfl) (by simp) ?_;refine kl.cons rfl (fun K7 c1=>?_) kl.nil;go_simp;refine bu.o.mono ?_;rintro r w5 ⟨rfl,b2,o5,ce⟩;have hH:w5.cell? ⟨T,12,none⟩=some (.slice (some ⟨gR,0,none⟩) rs.length cR):=aw o5.blk 12 rfl;refine c1.o _ _ (fun _ _=>hH) ?_;refine zrn 8 (.pointer (some ⟨gR,k,none⟩)) rfl (by kernel_rfl) (by kernel_rfl) (fun _ _ _ h=>h) ?_ hH ?_
   ·intro w;go_simp
   have ai:=o5.rR;rw [bz.o]at ai;have x4:=(ai.cellAt k (by rw [Nat.mul_one];exact ac)).trans (zmp cu.o);have x5:=ai.frozenAt k;have x6:=(ai.lt gR rfl).2;refine zro (rs:=[9]) (by kernel_rfl) (by simp) ?_;refine kl.cons rfl (fun K9 c2=>?_) kl.nil;go_simp;refine c2.o _ _ (fun h=>absurd rfl h) ?_;obtain ⟨w6,bo⟩:∃w6,w6=w5.setCell ⟨gR,k,none⟩ (.int .i64 tv):=⟨_,rfl⟩;rw [<-bo];refine zrp (by kernel_rfl) ?_ _;try simp only [Act.put,p1q,p4q,p3q,p2q,p5q,p6q]
   obtain ⟨r1,hg⟩:=ai.stored k (.int .i64 tv);rw [<-bo]at r1 hg;have HF:Hid (Mo b B w6 T (w.heap.size+1) w.heap.size nW (.slice aO h.am.length cO) (.slice (some ⟨gR,0,none⟩) rs.length cR) b2 (.slice aC d.aj.length cC) (.slice aS d.ax.length cS) (.slice aF d.fields.length cF) (.slice aN d.names.length cN) (.slice aT d.aq.length cT) ((fp.mk h []).roots (rs.take (k+1))).h ((fp.mk h []).roots (rs.take (k+1))).mv ((fp.mk h []).roots (rs.take (k+1))).mv (ko (fp.mk h []) rs (k+1)) d/\Below b w w6):=by obtain ⟨o6,c5⟩:=o5.rootsUp (k:=gR) (rs':=(ko (fp.mk h []) rs k).set k tv) rfl hg (by rw [List.length_set,bz.o,b8,List.map_set];exact r1);rw [af.o.1,<-af.o.2];exact ⟨o6,I.o.2.trans (((br b wr).drew.trans (jc.toBelow (I.o.1.below (br _ _).drew) ce (by have:=I.o.2.size;show b<=wr.heap.size;omega))).trans c5)⟩
   clear o5 ce ai x4 x5 x6 hH r1 hg bo bu co xv I;go_wp2_with fail;go_roundw
   case rel=>exact ⟨k+1,b2,by go_num,by omega,HF.o⟩
   case measure=>simp [intOf];omega
  obtain rfl:k=rs.length:=by omega
  have bh:=bc.o rs.length;have G:=I.o;have ak:ko (fp.mk h []) rs rs.length=ep h rs:=by unfold ko ep;rw [List.take_length,List.drop_length,List.append_nil]
  rw [List.take_length]at bh;rw [ak,List.take_length]at G;have a4:=ae G;have b0:=ae bh.1;have n5:=aw G.1.blk 5 (x:=.slice aO h.am.length cO) rfl;have dg:=bk G.1.blk;have cr:Hid (gq d h rs=fp.gone d.fields h.ab.length 0 (fp.am d.fields ((fp.mk h []).roots rs) h.am)):=rfl;generalize (fp.mk h []).roots rs=s1 at*;obtain ⟨F,a2⟩:∃F,ep h rs=F:=⟨_,rfl⟩;rw [a2]at a4;have cv:=ae a2;clear a2;clear I bc G bh ak b1 bx cy;go_wp2_with fail;go_loopw [41] (fun i wr=>∃(k:Nat) (Z:Value),i=.int .i64 k/\k<=h.am.length/\Hid (Mo b B wr T (w.heap.size+1) w.heap.size nW (.slice aO h.am.length cO) (.slice aR rs.length cR) Z (.slice aC d.aj.length cC) (.slice aS d.ax.length cS) (.slice aF d.fields.length cF) (.slice aN d.names.length cN) (.slice aT d.aq.length cT) (s1.am d.fields (h.am.take k)).h (s1.am d.fields (h.am.take k)).mv (s1.am d.fields (h.am.take k)).mv F d/\il d h ts (s1.am d.fields (h.am.take k)) (dnN d.fields ts (h.am.take k))/\Below b w wr)) (fun i _=>h.am.length - (intOf i).toNat)
  case atStart=>exact ⟨0,Z,rfl,n0q _,a4.o.1,b0.o.iff fun a=>⟨False.elim,fun ⟨n,hn,_⟩=>by cases hn⟩,a4.o.2⟩
  case round=>
   obtain ⟨k,c0,rfl,hk,I⟩:=hrel;by_cases O:k<h.am.length
   ·obtain ⟨D,J,aa⟩:=I.o;obtain ⟨t,ht,al,a8⟩:=zwy A.o.1 (gm O);have bm:t.loc∉h.am.take k:=by
     rw [al];intro hm;obtain ⟨j,hj,e⟩:=List.mem_take_iff_getElem.1 hm;have:=(List.getElem_inj (xs:=h.am) (zwz A.o.1)).1 e;omega
    have ad:∀n∈h.am.take k,h.ag<n:=fun n hn=>by obtain ⟨_,_,_,q⟩:=zwy A.o.1 (List.mem_of_mem_take hn);exact q
    rw [<-al]at a8;obtain ⟨a3,ah⟩:=J.noteAt A.o.1 ad ht a8 bm;have hst:=J.noteStep A.o.1 A.o.2 ad ht a8 bm;have a0:=zu7 A.o.1 ht a8;have X:=zws d.fields s1 h.am k O;have E:=fun j hj=>J.canAt A.o.1 A.o.2 HW.o (zu5 d.fields t) ah j hj;have cc:=J.len;have V:=J.no;rw [<-al,a3]at X;rw [a3]at hst;have ao:t.fin=t.loc+3+t.len:=rfl;have du:=a0.2.2.2.1.lo;have au:k<(s1.am d.fields (h.am.take k)).h.am.length:=by rw [V];exact O
    have bf:=D.rO;rw [V]at bf;obtain ⟨bl,off,c4,d1,xv⟩:=(zfb bf az).atI k O;subst c4;obtain ⟨n,hn⟩:∃n:Nat,t.loc=(n:Int):=⟨t.loc.toNat,by omega⟩;rw [<-al,hn]at xv;rw [hn]at a3;generalize hsk:s1.am d.fields (h.am.take k)=sk at*;have a5:=ae (ze9 wr _ T _ _ _ _ _ _ _ sk.h d (D.gd (by omega) (by rw [V];exact az)) n (by omega));rw [a3]at a5;have Y:=ae (fun W (hW:Below wr.heap.size wr W)=>zv2 W b B T (w.heap.size+1) w.heap.size _ _ _ _ _ _ _ _ _ sk F d (D.below hW) t a0.2.2.2.1 ⟨by omega,by omega⟩ (by omega) (by omega) (by rw [V];exact az) E);have cx:Hid (h.am.take k++ [t.loc]=h.am.take (k+1)):=by show _=_;rw [List.take_succ_eq_append_getElem O,al]
    have af:=ae X;have be:=ae hst;have d6:=bk D.blk;unfold thV at a5 Y;clear D J ah hst a0 X E hsk bf bm ad au a3 al ht hn ao;go_wp2_with fail;refine a5.o.mono ?_;rintro r w3 ⟨rfl,bi⟩;have a9:=ae bi;have bs:=ae (Y.o w3 bi);have L:=ae aa;clear bi a5 Y aa;go_wp2_with fail;refine bs.o.mono ?_;rintro r w4 ⟨rfl,an,o4,ay⟩;have HF:Hid (Mo b B w4 T (w.heap.size+1) w.heap.size nW (.slice (some ⟨bl,off,none⟩) h.am.length cO) (.slice aR rs.length cR) an (.slice aC d.aj.length cC) (.slice aS d.ax.length cS) (.slice aF d.fields.length cF) (.slice aN d.names.length cN) (.slice aT d.aq.length cT) (s1.am d.fields (h.am.take (k+1))).h (s1.am d.fields (h.am.take (k+1))).mv (s1.am d.fields (h.am.take (k+1))).mv F d/\il d h ts (s1.am d.fields (h.am.take (k+1))) (dnN d.fields ts (h.am.take (k+1)))/\Below b w w4):=by rw [af.o,<-cx.o];exact ⟨o4,be.o.1,L.o.trans ((a9.o.mono (by have:=L.o.size;omega)).trans (jc.toBelow (I.o.1.below a9.o) ay (by have:=L.o.size;have:=a9.o.size;omega)))⟩
    clear o4 ay bs I xv;go_wp2_with fail;go_roundw
    case rel=>exact ⟨k+1,an,by go_num,by omega,HF.o⟩
    case measure=>simp [intOf];omega
   obtain rfl:k=h.am.length:=by omega
   have G:=I.o;rw [List.take_length]at G;have ba:=ae G;generalize s1.am d.fields h.am=s2 at*;clear I G a4 b0 n5;go_wp2_with fail;go_loopw [7] (fun i wr=>∃(k:Nat) (Z:Value) (s:fp),i=.int .i64 k/\k<=s.mv.length/\k<=h.ab.length/\Hid (Mo b B wr T (w.heap.size+1) w.heap.size nW (.slice aO h.am.length cO) (.slice aR rs.length cR) Z (.slice aC d.aj.length cC) (.slice aS d.ax.length cS) (.slice aF d.fields.length cF) (.slice aN d.names.length cN) (.slice aT d.aq.length cT) s.h s.mv s.mv F d/\il d h ts s (dnG d.fields ts h.am k s.mv)/\fp.gone d.fields (h.ab.length - k) k s=gq d h rs/\Below b w wr)) (fun i _=>h.ab.length - (intOf i).toNat)
   case atStart=>exact ⟨0,c0,s2,rfl,n0q _,n0q _,ba.o.1,ba.o.2.1.iff fun a=>⟨Or.inl,fun q=>q.elim id fun ⟨j,p,hj,_⟩=>by omega⟩,cr.o.symm,ba.o.2.2⟩
   case round=>
    obtain ⟨k,ds,s,rfl,d3,d2,I⟩:=hrel;obtain ⟨D,J,a7,aa⟩:=I.o;have b5:=J.count A.o.1 A.o.2;have cc:=J.len;have V:=J.no;obtain ⟨aG,cG,c9⟩:=kh D.rG;subst c9;have g2:=aw D.mvr 2 (x:=.slice aG s.mv.length cG) rfl;have lM:=bk D.mvr;by_cases av:k<s.mv.length
    ·have ad:∀n∈h.am,h.ag<n:=fun n hn=>by
      obtain ⟨_,_,_,q⟩:=zwy A.o.1 hn;exact q
     obtain ⟨p,a1⟩:∃p,s.mv[k]? =some p:=⟨_,List.getElem?_eq_getElem av⟩;obtain ⟨N,ao,ah⟩:=J.goneAt A.o.1 A.o.2 ad a1;have hst:=J.goneStep A.o.1 A.o.2 ad a1;have E:=fun j hj=>J.canAt A.o.1 A.o.2 HW.o (zu5 d.fields p.2) ah j hj;have X:=zwx d.fields (h.ab.length - (k+1)) k s a1;rw [show h.ab.length - (k+1)+1=h.ab.length - k by omega,a7]at X;have ch:wr.ownsRow b 101 4 (.slice aG s.mv.length cG) (s.mv.map (·.2)).length (i6 (s.mv.map (·.2))):=by rw [List.length_map];exact D.rG
     have ca:k<(s.mv.map (·.2)).length:=by rw [List.length_map];exact av
     obtain ⟨bG,off,c3,d0,e0,e1,e2,e3⟩:=(zhw ch (by rw [List.length_map];omega)).atTh k ca;subst c3;have b6:(s.mv.map (·.2))[k]=p.2:=by rw [List.getElem_map];exact congrArg Prod.snd (ojq ((List.getElem?_eq_getElem av).symm.trans a1))
     rw [b6]at e0 e1 e2 e3;have c7:p.2.fin=p.2.loc+3+p.2.len:=rfl;have f0:=N.lo;have f1:=N.loc;obtain ⟨x,cn⟩:∃x,p.2=x:=⟨_,rfl⟩;rw [cn]at c7 N ao ah hst E X e0 e1 e2 e3 f0 f1;have Y:=ae (zv2 wr b B T (w.heap.size+1) w.heap.size _ _ _ _ _ _ _ _ _ s F d D x N ⟨by omega,by omega⟩ (by omega) (by omega) (by rw [V];exact az) E);have af:=ae X;have be:=ae hst;have L:=ae aa;have dk:s.mv.length<=(s.refs (refsOf d.fields x)).mv.length:=by obtain ⟨⟨e,he⟩,-⟩:=hst.2;rw [he,List.length_append];omega
     unfold thV at Y;clear D J a7 aa ad a1 ah hst E X ch ca b6 N cn;go_wp2_with fail;refine Y.o.mono ?_;rintro r w4 ⟨rfl,an,o4,ay⟩;have HF:Hid (Mo b B w4 T (w.heap.size+1) w.heap.size nW (.slice aO h.am.length cO) (.slice aR rs.length cR) an (.slice aC d.aj.length cC) (.slice aS d.ax.length cS) (.slice aF d.fields.length cF) (.slice aN d.names.length cN) (.slice aT d.aq.length cT) (s.refs (refsOf d.fields x)).h (s.refs (refsOf d.fields x)).mv (s.refs (refsOf d.fields x)).mv F d/\il d h ts (s.refs (refsOf d.fields x)) (dnG d.fields ts h.am (k+1) (s.refs (refsOf d.fields x)).mv)/\fp.gone d.fields (h.ab.length - (k+1)) (k+1) (s.refs (refsOf d.fields x))=gq d h rs/\Below b w w4):=
      ⟨o4,be.o.1,af.o.symm,L.o.trans (jc.toBelow I.o.1 ay (by have:=L.o.size;omega))⟩
     clear o4 ay Y I e0 e1 e2 e3 g2;go_wp2_with fail;go_roundw
     case rel=>exact ⟨k+1,an,_,by go_num,by omega,by omega,HF.o⟩
     case measure=>simp [intOf];omega
    have b7:s=gq d h rs:=by rw [<-a7];exact (zww _ _ _ _ (by omega)).symm
    have bw:=ae (zwo wr b B T _ _ _ _ _ _ _ _ s.h F d D.tsk (by rw [J.yo];omega) (by rw [J.yo,J.len];omega));have ct:=ae b7;have L:=ae aa;clear D J a7 aa I b7;go_wp2_with fail;refine bw.o.mono ?_;rintro r w4 ⟨rfl,o4,b4⟩;have HF:Hid (Tsk b B w4 T nW (.slice none 0 0) (.slice aR rs.length cR) (.slice aC d.aj.length cC) (.slice aS d.ax.length cS) (.slice aF d.fields.length cF) (.slice aN d.names.length cN) (.slice aT d.aq.length cT) (ck d h rs) F d/\Below b w w4):=by unfold ck;rw [<-ct.o];exact ⟨o4,L.o.trans b4⟩
    clear o4 b4 bw;go_wp2_with fail;go_end0;exact ⟨rfl,by rw [cv.o];exact HF.o.1,HF.o.2⟩
end Go.Proofs.YtjdnmblggdobgaaGreat
