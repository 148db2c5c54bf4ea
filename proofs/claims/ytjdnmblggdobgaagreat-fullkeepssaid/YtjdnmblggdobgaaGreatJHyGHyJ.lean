import Derived.Test.YtjdnmblggdobgaaGreatJTk2Dies
import Derived.Test.YtjdnmblggdobgaaGreatJHyDHyF
set_option maxHeartbeats 4000000
set_option maxRecDepth 100000
namespace Go.Proofs.YtjdnmblggdobgaaGreat
open Go.RowKit Go.Maps

theorem zv0 {L T M X B e n len:Nat} {G F D v:Value} {w w':World} {xs:List Value} (h:w.ownsRow B e n v len xs) (k:Mvd L T M X G F w D w') (N:∀j,v.ownBlock=some j->j<w.heap.size->j<L/\j≠T/\j≠M/\j≠X/\G.ownBlock≠some j/\F.ownBlock≠some j):w'.ownsRow B e n v len xs:=by refine ⟨h.1,h.2.imp id ?_⟩;rintro ⟨g,cap,u,E,I,A,J⟩;have q:=N g (by rw [E];rfl) (bz A);exact ⟨g,cap,u,E,I,(k.block g q.1 (bz A) q.2.1 q.2.2.1 q.2.2.2.1 q.2.2.2.2.1 q.2.2.2.2.2).trans A,J⟩
structure ow (b B:Nat) (w:World) (T:Nat) (nW nO nR kC kS kF kN kT:Value) (h:bd) (rs:List Int) (d:be):Prop where
 blk:w.heap[T]? =some (.cells #[nW,.int .i64 h.ae,.int .i64 h.old,.int .i64 h.bg,.int .i64 h.bk,nO,.int .i64 h.next,kC,kS,kF,kN,kT,nR] 131 (0,0))
 rW:w.ownsRow b 3 1 nW h.ab.length (bv h.ab)
 rO:w.ownsRow b 3 1 nO h.ap.length (bv h.ap)
 rR:w.ownsRow b 3 1 nR rs.length (bv rs)
 lk:ma (· <B) w kC kS kF kN kT d
 le:B<=b
 bT:b<=T
 sep:sepB [some T,nW.ownBlock,nO.ownBlock,nR.ownBlock]
theorem ow.below {b B T:Nat} {w:World} {L I J A F D E G:Value} {h:bd} {rs:List Int} {d:be} (o:ow b B w T L I J A F D E G h rs d) {w':World} (u:Below w.heap.size w w'):ow b B w' T L I J A F D E G h rs d:=
 have N:=bz o.blk
 ⟨(u.block _ N).trans o.blk,kg o.rW u,kg o.rO u,kg o.rR u,o.lk.kept (Kp.below (u.mono (by have:=o.le;have:=o.bT;omega))),o.le,o.bT,o.sep⟩
theorem ow.ab {b B T:Nat} {w:World} {A D E G L I J N:Value} {h:bd} {rs:List Int} {d:be} (o:ow b B w T A D E G L I J N h rs d) {w':World} {k:Nat} {ws:List Int} (F:A.ownBlock=some k) (u:w.grownBy w' (some k)) (X:w'.ownsRow b 3 1 A ws.length (bv ws)):ow b B w' T A D E G L I J N ⟨ws,h.ae,h.old,h.bg,h.bk,h.ap,h.next⟩ rs d/\Below b w w':=
 have O:b<=k:=(o.rW.lt k F).1;have hi: [some T,A.ownBlock,D.ownBlock,E.ownBlock][1]? =some (some k):=congrArg some F
 ⟨⟨(u.block T (bz o.blk) (fun e=>zvs o.sep (i:=0) (by decide) hi (congrArg some e))).trans o.blk,X,o.rO.kept u (Or.inr fun e=>zvr o.sep (j:=2) (by decide) hi (congrArg some e)),o.rR.kept u (Or.inr fun e=>zvr o.sep (j:=3) (by decide) hi (congrArg some e)),o.lk.kept ⟨u.size,fun j V W=>u.block j W (by have:=o.le;have:=V;intro e;injection e;omega)⟩,o.le,o.bT,o.sep⟩,(br b w).grown u (by have:=bz o.blk;have:=o.bT;omega) (fun j e=>by cases e;exact O)⟩
theorem ow.task {b B T:Nat} {w:World} {D N A F J G I L:Value} {h:bd} {rs:List Int} {d:be} (o:ow b B w T D N A F J G I L h rs d) {w':World} {h':bd} {nO':Value} (u:w.grownBy w' (some T)) (O:w'.heap[T]? =some (.cells #[D,.int .i64 h'.ae,.int .i64 h'.old,.int .i64 h'.bg,.int .i64 h'.bk,nO',.int .i64 h'.next,F,J,G,I,L,A] 131 (0,0))) (Z:h'.ab=h.ab) (X:w'.ownsRow b 3 1 nO' h'.ap.length (bv h'.ap)) (E:nO'=N\/nO'.ownBlock=none):ow b B w' T D nO' A F J G I L h' rs d/\Below b w w':=
 have hi: [some T,D.ownBlock,N.ownBlock,A.ownBlock][0]? =some (some T):=rfl
 have Y:sepB [some T,D.ownBlock,nO'.ownBlock,A.ownBlock]:=by
  rcases E with rfl | E
  ·exact o.sep
  have:=o.sep;unfold sepB at this ⊢;rw [E];simp only [List.pairwise_cons,List.mem_cons,List.not_mem_nil,or_false,forall_eq_or_imp,forall_eq,List.Pairwise.nil,and_true,false_implies,implies_true]at this ⊢;exact ⟨⟨this.1.1,fun _ _ e=>(by cases e),this.1.2.2⟩,⟨fun _ _ e=>(by cases e),this.2.1.2⟩,fun _ e=>(by cases e)⟩
 ⟨⟨O,Z ▸ o.rW.kept u (Or.inr fun e=>zvr o.sep (j:=1) (by decide) hi (congrArg some e)),X,o.rR.kept u (Or.inr fun e=>zvr o.sep (j:=3) (by decide) hi (congrArg some e)),o.lk.kept ⟨u.size,fun j V W=>u.block j W (by have:=o.le;have:=o.bT;have:=V;intro e;injection e;omega)⟩,o.le,o.bT,Y⟩,(br b w).grown u (by have:=bz o.blk;have:=o.bT;omega) (fun j e=>by cases e;exact o.bT)⟩
theorem zwn {ops:Array Oper} {o:Oper} {a:Act} {w:World} {K:Act->World->Prop} {Q:Exit->Act->World->Prop} {E:Prop} (O:o.guard=none) (s:Operand)
 (ho:o.op=.call { callee:=.builtin .clear,args:=#[s],argTypes:=#[22] }) (b g off n D cap:Nat) (ws:List Int) (I:w.ownsRow b 3 1 (.slice (some ⟨g,0,none⟩) ws.length cap) ws.length (bv ws))
 (hs:a.eval s=.slice (some ⟨g,off,none⟩) n D) (hn:0<n) (ac:off+n<=ws.length)
 (h:∀w',w.grownBy w' (some g)->w'.ownsRow b 3 1 (.slice (some ⟨g,0,none⟩) ws.length cap) (lj ws off (List.replicate n 0)).length (bv (lj ws off (List.replicate n 0)))->K (a.put o.dst (.tuple #[])) w'):
 if Region.wanted o (yielded ops a.tmps)=true then Oper.wp Tryz.prog o a w K Q else E:=by
 have hw:Region.wanted o (yielded ops a.tmps)=true:=by simp [Region.wanted,O]
 rw [if_pos hw];obtain ⟨ad,L,hB,hc,hm,Y,hx,A⟩:=zsy I;have X:∀j,j<n->∃x,ws[off+j]? =some x:=fun j u=>⟨ws[off+j]'(by omega),List.getElem?_eq_getElem (by omega)⟩;have J:=Lib.run_clear_slice (P:=Tryz.prog) w 22 3 o.type (.int .i64 0) Tryz.underlying22 zero3 rfl rfl g off n D hn (fun j u=>by
  obtain ⟨x,Z⟩:=X j u;rw [A (off+j) (.int .i64 x) (by rw [zs1,Z];rfl)];rfl) (fun j _=>nu L (off+j))
 unfold Oper.wp;simp [execOp,ho,resolve,invoke,builtin,hs,J,Result.andThen];have F:(lj ws off (List.replicate n 0)).length=ws.length:=zug (by rw [List.length_replicate];omega);refine h _ (zsu _ _ (World.grownBy.refl _ _)) ?_;rw [F];obtain ⟨aa,N,W⟩:=zsv (List.replicate n (.int .i64 0)) off L;refine zsx N hB (by rw [W,Y]) hc hm (by rw [zir,F]) fun j v u=>?_;rw [zs3 L off _ (by rw [List.length_replicate];omega) j,List.length_replicate];rw [zs1]at u;have ae:j<ws.length:=by
  rcases Nat.lt_or_ge j ws.length with q | q
  ·exact q
  rw [List.getElem?_eq_none (by rw [F];exact q)]at u;cases u
 have e1:(ws.take off).length=off:=by simp;omega
 by_cases G:off<=j/\j<off+n
 ·rw [if_pos G];unfold lj at u;rw [List.getElem?_append_right (by omega),e1,List.getElem?_append_left (by rw [List.length_replicate];omega),List.getElem?_replicate,if_pos (by omega)]at u;rw [List.getElem?_replicate,if_pos (by omega)];exact u
 rw [if_neg G];unfold lj at u;have V:(ws[j]?).map (fun x=>Value.int .i64 x)=some v:=by
  rcases Nat.lt_or_ge j off with q | q
  ·rw [List.getElem?_append_left (by omega),List.getElem?_take_of_lt q]at u;exact u
  rw [List.getElem?_append_right (by omega),e1,List.getElem?_append_right (by rw [List.length_replicate];omega),List.length_replicate,List.getElem?_drop,show off+n+(j - off - n)=j by omega]at u;exact u
 exact A j v (by rw [zs1];exact V)
theorem zwo (w:World) (b B T:Nat) (nW nO nR kC kS kF kN kT:Value) (h:bd) (rs:List Int) (d:be) (o:ow b B w T nW nO nR kC kS kF kN kT h rs d) (hy:1<=h.ae/\h.ae<=1000000) (h5:h.ae+1<=h.ab.length):
 Calls Tryz.prog 142 #[.pointer (some ⟨T,0,none⟩)] w fun r w'=>r=.returned (.tuple #[])/\ow b B w' T nW (.slice none 0 0) nR kC kS kF kN kT (leaveY h) rs d/\Below b w w':=by
 obtain ⟨A,D,af,an⟩:∃A D,nW=.slice (some ⟨A,0,none⟩) h.ab.length D/\h.ab.length<=D:=by
  rcases o.rW.2 with ⟨e,h0⟩ | ⟨g,cap,al,e,-,-,hc,-⟩
  ·omega
  exact ⟨g,cap,e,hc⟩
 subst af;obtain ⟨aO,cO,ac⟩:=kh o.rO;subst ac;obtain ⟨aR,cR,ad⟩:=kh o.rR;subst ad;obtain ⟨aC,cC,aS,cS,aF,cF,aN,cN,aT,cT,rfl,rfl,rfl,rfl,rfl⟩:=o.lk.agg;have HO:=ag (o.below (br _ _).drew);have lT:=bz o.blk;have nT:¬T=A:=fun e=>zvr o.sep (i:=0) (j:=1) (by decide) rfl (by rw [e];rfl);have a0:=ba o.blk 0 (x:=.slice (some ⟨A,0,none⟩) h.ab.length D) rfl;have a1:=ba o.blk 1 (x:=.int .i64 h.ae) rfl;have ao:∀V,(Instr.slice 22 (.slice (some ⟨A,0,none⟩) h.ab.length D) (some (.int .i64 1)) (some (.int .i64 (h.ae+1))) none).run Tryz.prog V=.ok (.slice (some ⟨A,1,none⟩) h.ae.toNat (D - 1)) V:=fun V=>by rw [run_slice_lh V 22 _ _ _ Tryz.underlying22 .i64 .i64 1 (h.ae+1) (by omega) (by omega) (by omega)];show Result.ok (sliced (some ⟨A,0,none⟩) 1 (h.ae+1).toNat D 1) V=_;unfold sliced;rw [if_neg (by omega),Option.map_some,zg1,Nat.mul_one,Nat.zero_add,show (h.ae+1).toNat - 1=h.ae.toNat by omega]
 have w1:IntKind.i64.wrap (h.ae+1)=h.ae+1:=by rw [IntKind.wrap_i64];omega
 clear o;go_enter Tryz.func142,Tryz.ntmps142;go_wp2_with fail;refine wp_region_held_drew (S:=fun W'=>∀p:Addr,p.block<w.heap.size->p.block≠A->W'.cell? p=w.cell? p) (by kernel_rfl) (fun p hp _=>rfl) fun u=>?_;refine ta 0 (.pointer (some ⟨T,0,none⟩)) rfl u ?_;refine ta 1 (.pointer (some ⟨T,0,none⟩)) rfl u ?_;refine ta 2 (.pointer (some ⟨T,0,none⟩)) rfl u ?_;refine ta 3 (.pointer (some ⟨T,0,none⟩)) rfl u ?_;refine ta 4 (.pointer (some ⟨T,0,none⟩)) rfl u ?_;refine ta 5 (.slice (some ⟨A,0,none⟩) h.ab.length D) rfl u ?_;refine ta 6 (.pointer (some ⟨T,0,none⟩)) rfl u ?_;refine ta 7 (.pointer (some ⟨T,0,none⟩)) rfl u ?_;refine ta 8 (.pointer (some ⟨T,0,none⟩)) rfl u ?_;refine ta 9 (.pointer (some ⟨T,0,none⟩)) rfl u ?_;refine ta 10 (.pointer (some ⟨T,1,none⟩)) rfl u ?_;refine ta 11 (.int .i64 h.ae) rfl u ?_;refine ta 12 (.int .i64 (h.ae+1)) rfl u ?_;refine ta 13 (.slice (some ⟨A,1,none⟩) h.ae.toNat (D - 1)) rfl u ?_;refine wpAnyH_ready (rs:=[14]) (by kernel_rfl) (by simp) ?_;refine AllReadyH.cons rfl (fun ak N=>?_) AllReadyH.nil;refine zwn rfl (.tmp 15) rfl b A 1 h.ae.toNat (D - 1) D h.ab HO.o.rW (by go_simp) (by omega) (by omega) ?_;intro w4 J Y;refine N.o _ _ (fun p hp ah=>World.cell?_of_block (a:=p) (J.block p.block hp (fun e=>ah (ojq e)))) fun u=>?_;refine wpAnyH_done (by kernel_rfl) ?_ _;clear u;try simp only [Act.put,p1q,p4q,p3q,p2q,p5q,p6q]
 obtain ⟨I,O⟩:=HO.o.ab (k:=A) rfl J Y;have G:Below b w w4:=(br b w).drew.trans O;have ai:=ag I;have aa:=ag G;have s3:=ba I.blk 3 (x:=.int .i64 h.bg) rfl;have s5:=ba I.blk 5 (x:=.slice aO h.ap.length cO) rfl;have sz:=fun j=>nu I.blk j;have l4:=bz I.blk;obtain ⟨L,E⟩:∃L,L=w4.setCell ⟨T,3,none⟩ (.int .i64 1):=⟨_,rfl⟩;have W:w4.grownBy L (some T):=E ▸ nh (World.grownBy.refl _ _) _ _ (Or.inl rfl);have Z:L.heap[T]? =some (.cells #[.slice (some ⟨A,0,none⟩) h.ab.length D,.int .i64 h.ae,.int .i64 h.old,.int .i64 1,.int .i64 h.bk,.slice aO h.ap.length cO,.int .i64 h.next,.slice aC d.aj.length cC,.slice aS d.ax.length cS,.slice aF d.fields.length cF,.slice aN d.names.length cN,.slice aT d.aq.length cT,.slice aR rs.length cR] 131 (0,0)):=E ▸ zg6 I.blk _;have u5:=ba Z 5 (x:=.slice aO h.ap.length cO) rfl;have uz:=fun j=>nu Z j;have l5:=bz Z;obtain ⟨W6,F⟩:∃W6,W6=L.setCell ⟨T,5,none⟩ (.slice none 0 0):=⟨_,rfl⟩;have X:w4.grownBy W6 (some T):=F ▸ nh W _ _ (Or.inl rfl);have k6:W6.heap[T]? =some (.cells #[.slice (some ⟨A,0,none⟩) h.ab.length D,.int .i64 h.ae,.int .i64 h.old,.int .i64 1,.int .i64 h.bk,.slice none 0 0,.int .i64 h.next,.slice aC d.aj.length cC,.slice aS d.ax.length cS,.slice aF d.fields.length cF,.slice aN d.names.length cN,.slice aT d.aq.length cT,.slice aR rs.length cR] 131 (0,0)):=F ▸ zg6 Z _;have HF:=ag (I.task (h':=leaveY h) (nO':=.slice none 0 0) X k6 rfl (World.ownsRow_nil _ _ _ _) (Or.inr rfl));have H5:=ag E;have H6:=ag F;clear I O J Y G W Z X k6 E F a0 a1 HO;go_wp2_with fail;rw [<-H5.o];go_wp2_with fail;rw [<-H6.o];go_end0;exact ⟨rfl,HF.o.1,aa.o.trans HF.o.2⟩

end Go.Proofs.YtjdnmblggdobgaaGreat
