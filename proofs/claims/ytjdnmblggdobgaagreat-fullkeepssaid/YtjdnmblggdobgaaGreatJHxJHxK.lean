import Derived.Test.YtjdnmblggdobgaaGreatJHzTHxE
import Derived.Test.YtjdnmblggdobgaaGreatJHzGHzH
import Derived.Test.YtjdnmblggdobgaaGreatJTk2Dies
import Derived.Test.YtjdnmblggdobgaaGreatJHxGHxI
import Derived.Test.YtjdnmblggdobgaaGreatHzS
import Derived.Test.YtjdnmblggdobgaaGreatJHyGHyJ
set_option maxHeartbeats 8000000
set_option maxRecDepth 100000
namespace Go.Proofs.YtjdnmblggdobgaaGreat
open Go.RowKit Go.Maps
def mu (p:Int):List bp->List (Int×bp)
 | []=>[]
 | t::r=>(t.loc,⟨p,t.tag,t.len,t.hash⟩)::mu (p+3+t.len) r
def gp (ts:List bp):Int:=(ts.map (fun t:bp=>3+t.len)).sum
theorem zyx (ts:List bp) (t:bp):gp (ts++ [t])=gp ts+(3+t.len):=by simp [gp]
theorem zyy (l:List bp) (t:bp):∀p,mu p (l++ [t])=mu p l++ [(t.loc,⟨p+gp l,t.tag,t.len,t.hash⟩)]:=by
 induction l with
 | nil=>intro p;simp [mu,gp]
 | cons x l ih=>
   intro p;rw [List.cons_append,mu,ih,mu,List.cons_append];have:p+3+x.len+gp l=p+gp (x::l):=by simp only [gp,List.map_cons,List.sum_cons];omega
   rw [this]
theorem zyz (l:List bp):∀p,(mu p l).length=l.length:=by
 induction l with
 | nil=>intro p;rfl
 | cons x l ih=>intro p;rw [mu,List.length_cons,ih,List.length_cons]
theorem zy0 {α:Type} (l:List α) (k:Nat) (u:k<l.length):l.take (k+1)=l.take k++ [l[k]]:=by rw [List.take_add_one,List.getElem?_eq_getElem u];rfl
theorem zy1 (l:List bp) (p:Int) (k:Nat) (u:k<l.length):mu p (l.take (k+1))=mu p (l.take k)++ [(l[k].loc,⟨p+gp (l.take k),l[k].tag,l[k].len,l[k].hash⟩)]:=by rw [zy0 l k u,zyy]
def ku (mv:List (Int×bp)) (n:Int):Int:=(kr mv n).getD 0
def trnW (mv:List (Int×bp)) (ws:List Int) (a:Int):List Int:=ws.set a.toNat (ku mv (wd ws a))
def pushS (fs:List (List bo)) (mv:List (Int×bp)) (us ws:List Int) (q:Int×bp):List Int:=(refsOf fs q.2).foldl (trnW mv) (lj ws q.2.loc.toNat (nr us q.1.toNat (q.2.len+3).toNat))
def oa (fs:List (List bo)) (mv:List (Int×bp)) (us:List Int) (l:List (Int×bp)):List Int:=l.foldl (pushS fs mv us) (List.replicate us.length 0)
theorem zy2 (mv:List (Int×bp)) (l:List Int):∀ws:List Int,(l.foldl (trnW mv) ws).length=ws.length:=by
 induction l with
 | nil=>intro ws;rfl
 | cons a l ih=>intro ws;rw [List.foldl_cons,ih,trnW,List.length_set]
theorem zy3 (ts:List bp) (h:∀t∈ts,0<=t.len) (k:Nat) (F:k<ts.length):0<=gp (ts.take k)/\gp (ts.take k)+(3+ts[k].len)<=gp ts:=by
 have D:∀l:List bp,(∀t∈l,0<=t.len)->0<=gp l:=by
  intro l;induction l with
  | nil=>intro _;exact Int.le_refl _
  | cons x l ih=>
    intro A;have h1:=ih fun t u=>A t (List.mem_cons_of_mem _ u);have E:=A x (List.mem_cons_self ..);simp only [gp,List.map_cons,List.sum_cons]at h1 ⊢;omega
 have e:gp ts=gp (ts.take k)+(3+ts[k].len)+gp (ts.drop (k+1)):=by
  have:ts=ts.take k++ts[k]::ts.drop (k+1):=by rw [<-List.drop_eq_getElem_cons F,List.take_append_drop]
  have:=congrArg gp this;simp only [gp,List.map_append,List.map_cons,List.sum_append,List.sum_cons]at this ⊢;omega
 have h1:=D (ts.take k) fun t u=>h t (List.mem_of_mem_take u);have E:=D (ts.drop (k+1)) fun t u=>h t (List.mem_of_mem_drop u);omega
theorem zy4 {ops:Array Oper} {o:Oper} {a:Act} {w:World} {K:Act->World->Prop} {Q:Exit->Act->World->Prop} {E:Prop} (ah:o.guard=none) (dd s:Operand)
 (ho:o.op=.call { callee:=.builtin .copy,args:=#[dd,s],argTypes:=#[22,22] }) (b g off u n D G J cap:Nat) (ws:List Int) (b' g' V:Nat) (A:List Int) (Z:w.ownsRow b' 3 1 (.slice (some ⟨g',0,none⟩) A.length V) A.length (bv A)) (X:w.ownsRow b 3 1 (.slice (some ⟨g,0,none⟩) ws.length cap) ws.length (bv ws))
 (hd:a.eval dd=.slice (some ⟨g,off,none⟩) D G) (hs:a.eval s=.slice (some ⟨g',u,none⟩) n J) (an:off+n<=ws.length) (ak:u+n<=A.length) (af:n<=D)
 (h:∀w',w.grownBy w' (some g)->w'.ownsRow b 3 1 (.slice (some ⟨g,0,none⟩) ws.length cap) (lj ws off (nr A u n)).length (bv (lj ws off (nr A u n)))->K (a.put o.dst (goInt n)) w'):
 if Region.wanted o (yielded ops a.tmps)=true then Oper.wp Tryz.prog o a w K Q else E:=by
 have hw:Region.wanted o (yielded ops a.tmps)=true:=by simp [Region.wanted,ah]
 rw [if_pos hw];have F:(nr A u n).length=n:=zuh ak;obtain ⟨h1,h2⟩:=X;rcases h2 with ⟨e,h0⟩ | ⟨g1,al,L,e,ac,hg,aj,ad,ae,W⟩
 ·cases e
 cases e;rw [Nat.mul_one]at W ae;have ao:ws.length<=L.size:=by omega
 have I:=run_copy_row (P:=Tryz.prog) w 22 22 o.type 3 g off D G ⟨g',u,none⟩ n J L 3 (bv (nr A u n)) Tryz.underlying22 (by kernel_rfl) hg (by rw [zir,F];exact (Nat.min_eq_left af).symm) (by
  intro j v N;rw [bv,List.getElem?_map]at N;cases hx:(nr A u n)[j]? with
  | none=>rw [hx]at N;cases N
  | some x=>
    rw [hx]at N;have N:=ojq N;subst N;have ai:j<n:=by have:=(List.getElem?_eq_some_iff.1 hx).1;omega
    have aa:A[u+j]? =some x:=by unfold nr at hx;rw [List.getElem?_take_of_lt ai,List.getElem?_drop]at hx;exact hx
    have O:u+j<A.length:=by omega
    have:=Z.cellAt (u+j) (by rw [Nat.mul_one];exact O);rw [zmp O]at this;rw [List.getElem?_eq_getElem O]at aa;rw [<-ojq aa];rw [zg1];exact this) (by rw [zir,F];omega) (by
  intro v hv;obtain ⟨x,-,rfl⟩:=List.mem_map.1 hv;rfl)
 rw [zir,F]at I;unfold Oper.wp;simp [execOp,ho,resolve,invoke,builtin,hd,hs,I,Result.andThen];have Y:(lj ws off (nr A u n)).length=ws.length:=zug (by omega);refine h _ ⟨rfl,rfl,rfl,by simp [World.setRow],fun k _ hk=>setRow_other w g k _ (fun e=>hk (by rw [e]))⟩ ?_;rw [Y];refine ⟨by rw [zir,Y];simp,Or.inr ⟨g,cap,_,rfl,ac,setRow_heap w g L _ 3 _ hg,aj,ad,?_,?_⟩⟩
 ·simp [zir,F];omega
 rw [Nat.mul_one];have:=zvt (l:=nr A u n) (off:=off) W (by omega);rw [F]at this;exact this
theorem zzy (ts:List bp):∀(p:Int) (k:Nat) (u:k<ts.length),(mu p ts)[k]? =some (ts[k].loc,⟨p+gp (ts.take k),ts[k].tag,ts[k].len,ts[k].hash⟩):=by
 induction ts with
 | nil=>intro p k u;cases u
 | cons x l ih=>
   intro p k u;cases k with
   | zero=>simp [mu,gp]
   | succ k=>
     rw [mu,List.getElem?_cons_succ,ih (p+3+x.len) k (by simpa using u)];have:p+3+x.len+gp (l.take k)=p+gp ((x::l).take (k+1)):=by simp only [gp,List.take_succ_cons,List.map_cons,List.sum_cons];omega
     rw [this];rfl
theorem zzz (ts:List bp):∀p,(mu p ts).map (·.1)=ts.map bp.loc:=by
 induction ts with
 | nil=>intro p;rfl
 | cons x l ih=>intro p;rw [mu,List.map_cons,ih,List.map_cons]
def wfI (x:Int):Prop:=(Lit.int .i64 x).wf=true
theorem zz0 {mv:List (Int×bp)} (u:∀x,wfI (ku mv x)) (l:List Int):∀ws:List Int,(∀x∈ws,wfI x)->∀x∈l.foldl (trnW mv) ws,wfI x:=by
 induction l with
 | nil=>intro ws h;exact h
 | cons a l ih=>
   intro ws h;rw [List.foldl_cons];refine ih _ fun x A=>?_;rcases List.mem_or_eq_of_mem_set A with h1 | h1
   ·exact h x h1
   exact h1 ▸ u _
theorem zz1 {ws l:List Int} {off:Nat} (h1:∀x∈ws,wfI x) (A:∀x∈l,wfI x):∀x∈lj ws off l,wfI x:=by
 intro x u;unfold lj at u;rcases List.mem_append.1 u with h | h
 ·exact h1 x (List.mem_of_mem_take h)
 rcases List.mem_append.1 h with h | h
 ·exact A x h
 exact h1 x (List.mem_of_mem_drop h)
theorem zz2 {ws:List Int} {a n:Nat} (h:∀x∈ws,wfI x):∀x∈nr ws a n,wfI x:=fun x u=>h x (List.mem_of_mem_drop (List.mem_of_mem_take u))
theorem zz3 {fs:List (List bo)} {mv:List (Int×bp)} {A:List Int} (D:∀x,wfI (ku mv x)) (E:∀x∈A,wfI x) (l:List (Int×bp)):∀x∈oa fs mv A l,wfI x:=by
 have u:∀(l:List (Int×bp)) (ws:List Int),(∀x∈ws,wfI x)->∀x∈l.foldl (pushS fs mv A) ws,wfI x:=by
  intro l;induction l with
  | nil=>intro ws h;exact h
  | cons q l ih=>
    intro ws h;rw [List.foldl_cons];exact ih _ (zz0 D _ _ (zz1 h (zz2 E)))
 exact u l _ fun x F=>by rw [(List.mem_replicate.1 F).2];rfl
theorem zz4 (ts:List bp) (p:Int) (h0:0<=p) (h1:p+gp ts<=1000000) (A:∀t∈ts,0<=t.len) (x:Int):wfI (ku (mu p ts) x):=by
 unfold ku;cases hn:kr (mu p ts) x with
 | none=>rfl
 | some y=>
   obtain ⟨q,D,-,rfl⟩:=zut hn;obtain ⟨k,u,e⟩:=List.mem_iff_getElem.1 D;rw [zyz]at u;have:=zzy ts p k u;rw [List.getElem?_eq_getElem (by rw [zyz];exact u),e]at this;have E:=zy3 ts A k u;have:=ojq this;rw [this];have:=A ts[k] (gm _);show wfI (p+gp (ts.take k));exact WalkArith.wf_i64 (by omega)
theorem zz5 {mv:List (Int×bp)} {D:DataW Unit} (h:NwD mv D) {v c:Int} (e:D.atKey (jc v) (.lit (.int .i64 0))=.lit (.int .i64 c)):c=ku mv v:=by
 unfold ku;cases hn:kr mv v with
 | none=>
   rw [h.no v _ hn]at e;exact ((Lit.int.inj (DataW.lit.inj e)).2).symm
 | some y=>
   rw [h.at_ v y _ hn]at e;exact ((Lit.int.inj (DataW.lit.inj e)).2).symm
theorem zz6 (f:Int->Int) (rs:List Int) (j:Nat) (u:j<rs.length):((rs.take j).map f++rs.drop j)[j]? =some rs[j]:=by
 have e:((rs.take j).map f).length=j:=by rw [List.length_map,List.length_take];omega
 rw [List.getElem?_append_right (by omega),e,Nat.sub_self,List.getElem?_drop,Nat.add_zero,List.getElem?_eq_getElem u]
theorem zz7 (f:Int->Int) (rs:List Int) (j:Nat) (u:j<rs.length):(rs.take (j+1)).map f++rs.drop (j+1)=((rs.take j).map f++rs.drop j).set j (f rs[j]):=by
 have e:((rs.take j).map f).length=j:=by rw [List.length_map,List.length_take];omega
 rw [zy0 rs j u,List.map_append,List.append_assoc,List.set_append_right _ _ (by omega),e,Nat.sub_self,List.drop_eq_getElem_cons u];rfl
theorem ow.roots {b B T:Nat} {w:World} {E D A G L I J N:Value} {h:bd} {rs:List Int} {d:be} (o:ow b B w T E D A G L I J N h rs d) {w':World} {k:Nat} {rs':List Int} (F:A.ownBlock=some k) (u:w.grownBy w' (some k)) (X:w'.ownsRow b 3 1 A rs'.length (bv rs')):ow b B w' T E D A G L I J N h rs' d/\Below b w w':=
 have O:b<=k:=(o.rR.lt k F).1;have hi: [some T,E.ownBlock,D.ownBlock,A.ownBlock][3]? =some (some k):=congrArg some F
 ⟨⟨(u.block T (bz o.blk) (fun e=>zvs o.sep (i:=0) (by decide) hi (congrArg some e))).trans o.blk,o.rW.kept u (Or.inr fun e=>zvs o.sep (i:=1) (by decide) hi (congrArg some e)),o.rO.kept u (Or.inr fun e=>zvs o.sep (i:=2) (by decide) hi (congrArg some e)),X,o.lk.kept ⟨u.size,fun j V W=>u.block j W (by have:=o.le;have:=V;intro e;injection e;omega)⟩,o.le,o.bT,o.sep⟩,(br b w).grown u (by have:=bz o.blk;have:=o.bT;omega) (fun j e=>by cases e;exact O)⟩
theorem ow.newW {b B T:Nat} {w:World} {O E F G L I J N:Value} {h:bd} {rs:List Int} {d:be} (o:ow b B w T O E F G L I J N h rs d) {w':World} {g cap:Nat} {ws:List Int} {ot:Int} (A:w.grownBy w' (some T)) (V:w'.heap[T]? =some (.cells #[.slice (some ⟨g,0,none⟩) ws.length cap,.int .i64 h.ae,.int .i64 h.old,.int .i64 h.bg,.int .i64 ot,E,.int .i64 h.next,G,L,I,J,N,F] 131 (0,0)))
 (Z:w'.ownsRow b 3 1 (.slice (some ⟨g,0,none⟩) ws.length cap) ws.length (bv ws)) (Y:T<g/\(∀k,E.ownBlock=some k->k<g)/\(∀k,F.ownBlock=some k->k<g)):ow b B w' T (.slice (some ⟨g,0,none⟩) ws.length cap) E F G L I J N ⟨ws,h.ae,h.old,h.bg,ot,h.ap,h.next⟩ rs d/\Below b w w':=by
 have hi: [some T,O.ownBlock,E.ownBlock,F.ownBlock][0]? =some (some T):=rfl;obtain ⟨n1,n2,n3⟩:=Y;refine ⟨⟨V,Z,o.rO.kept A (Or.inr fun e=>zvr o.sep (j:=2) (by decide) hi (congrArg some e)),o.rR.kept A (Or.inr fun e=>zvr o.sep (j:=3) (by decide) hi (congrArg some e)),o.lk.kept ⟨A.size,fun j W X=>A.block j X (by have:=o.le;have:=o.bT;have:=W;intro e;injection e;omega)⟩,o.le,o.bT,?_⟩,(br b w).grown A (by have:=bz o.blk;have:=o.bT;omega) (fun j e=>by cases e;exact o.bT)⟩;have D:=o.sep;unfold sepB at D ⊢;simp only [List.pairwise_cons,List.mem_cons,List.not_mem_nil,or_false,forall_eq_or_imp,forall_eq,List.Pairwise.nil,and_true,false_implies,implies_true]at D ⊢;exact ⟨⟨fun k e u=>by cases e;cases u;exact Nat.lt_irrefl _ n1,D.1.2.1,D.1.2.2⟩,⟨fun k e u=>by cases e;exact Nat.lt_irrefl _ (n2 _ u),fun k e u=>by cases e;exact Nat.lt_irrefl _ (n3 _ u)⟩,D.2.2⟩
theorem zz8 (w:World) (b B T:Nat) (nW nO nR kC kS kF kN kT:Value) (h:bd) (rs:List Int) (d:be) (o:ow b B w T nW nO nR kC kS kF kN kT h rs d) (ec:Nat) (v:Value) (ts:List bp) (bl:w.ownsRow ec 101 4 v ts.length (gc ts))
 (i1:h.ab.length<=50000) (hm:1<=h.ae/\h.ae+1<=h.ab.length) (bn:∀t∈ts,FitT d t/\1<=t.loc/\t.loc+3+t.len<=h.ab.length) (ex:(ts.map bp.loc).Nodup) (i0:ts.length<=50000) (hd:h.ap.length<=1000000) (h4:h.ae+1+gp ts<=h.ab.length) (ix:rs.length<=1000) (e4:∀x∈rs,(Lit.int .i64 x).wf=true) (e8:∀x∈h.ab,(Lit.int .i64 x).wf=true):
 Calls Tryz.prog 149 #[.pointer (some ⟨T,0,none⟩),v] w fun r w'=>r=.returned (.tuple #[])/\Below b w w'/\∃nW':Value,ow b B w' T nW' (.slice none 0 0) nR kC kS kF kN kT (leaveY ⟨oa d.fields (mu (h.ae+1) ts) h.ab (mu (h.ae+1) ts),h.ae,h.old,h.bg,h.ae+1+gp ts,h.ap,h.next⟩) (rs.map (ku (mu (h.ae+1) ts))) d:=by
 have it:=@run_makeMap Tryz.prog;obtain ⟨iI,gx,e9,fa,fe⟩:=info_parts Tryz.infoInt;obtain ⟨gW,dW,g8,ih⟩:∃gW dW,nW=.slice (some ⟨gW,0,none⟩) h.ab.length dW/\h.ab.length<=dW:=by
  rcases o.rW.2 with ⟨e,h0⟩ | ⟨g,cap,f4,e,-,-,hc,-⟩
  ·omega
  exact ⟨g,cap,e,hc⟩
 subst g8;obtain ⟨aO,cO,g5⟩:=kh o.rO;subst g5;obtain ⟨aR,cR,g6⟩:=kh o.rR;subst g6;obtain ⟨aV,cV,g7⟩:=kh bl;subst g7;obtain ⟨aC,cC,aS,cS,aF,cF,aN,cN,aT,cT,rfl,rfl,rfl,rfl,rfl⟩:=o.lk.agg;have HO:=ag o;have d8:=ag bl;have eb:=ag bn;have f0:=ag ex;have cy:Hid (∀k,(hk:k<ts.length)->0<=gp (ts.take k)/\gp (ts.take k)+(3+ts[k].len)<=gp ts):=fun k hk=>zy3 ts (fun t ht=>(bn t ht).1.lo) k hk;have hst:0<=gp ts:=by
  cases hk:ts with
  | nil=>exact Int.le_refl _
  | cons x l=>have:=cy.o 0 (by rw [hk];simp);have:=(bn (ts[0]'(by rw [hk];simp)) (gm _)).1.lo;rw [<-hk];omega
 have c1:=ag (And.intro e4 e8);have d4:Hid (∀x,wfI (ku (mu (h.ae+1) ts) x)):=fun x=>zz4 ts (h.ae+1) (by omega) (by omega) (fun t ht=>(bn t ht).1.lo) x;have lT:=bz o.blk;have h9:=o.bT;have t1:=ba o.blk 1 (x:=.int .i64 h.ae) rfl;have w1:IntKind.i64.wrap (h.ae+1)=h.ae+1:=by rw [IntKind.wrap_i64];omega
 obtain ⟨W0,a8⟩:∃W0,W0=w.alloc (.map #[] 0):=⟨_,rfl⟩;have eg:Below w.heap.size w W0:=a8 ▸ (br _ _).alloc (nlq _) _;have es:j8 W0 w.heap.size []:=⟨.map [],by rw [a8];exact World.ownsMap_made _ _ _ _,zvp⟩;have e5:W0.heap.size=w.heap.size+1:=by rw [a8];simp
 have fk:=ag a8;have cs:=ag (And.intro es (And.intro eg e5));clear o bl bn ex e4 e8 a8 eg es e5;go_enter Tryz.func149,Tryz.ntmps149;go_wp2_with fail;rw [<-fk.o];go_loopw [4,7,26] (fun u _ i wr=>∃k:Nat,u=.int .i64 (h.ae+1+gp (ts.take k))/\i=.int .i64 (k:Int)/\k<=ts.length/\Hid (j8 wr w.heap.size (mu (h.ae+1) (ts.take k))/\Below w.heap.size w wr/\w.heap.size<wr.heap.size)) (fun _ _ i _=>ts.length - (intOf i).toNat)
 case atStart=>exact ⟨0,by simp [gp],rfl,n0q _,cs.o.1,cs.o.2.1,by have:=cs.o.2.2;omega⟩
 case round=>
  obtain ⟨k,rfl,rfl,hk,HI⟩:=hrel;by_cases ah:k<ts.length
  ·have bi:(k:Int)<(ts.length:Int):=by omega
   obtain ⟨t,ht⟩:∃t,ts[k]=t:=⟨_,rfl⟩;have hT:=eb.o ts[k] (gm _);have bm:=cy.o k ah;obtain ⟨Z,J,G⟩:=HI.o;obtain ⟨gV,off,rfl,lV,q0,q1,q2,q3⟩:=(zhw (kg d8.o J) (by omega)).atTh k ah;have ca:=zy1 ts (h.ae+1) k ah;have cl:gp (ts.take (k+1))=gp (ts.take k)+(3+ts[k].len):=by rw [zy0 ts k ah,zyx]
   rw [ht]at hT bm q0 q1 q2 q3 ca cl;obtain ⟨ff,em,en⟩:=hT;have gt:=ff.lo;obtain ⟨u,ac⟩:∃u,h.ae+1+gp (ts.take k)=u:=⟨_,rfl⟩;have cm:h.ae+1+gp (ts.take (k+1))=u+(3+t.len):=by omega
   rw [ac]at ca;have hl:0<=u/\u+(3+t.len)<=50000:=by omega
   obtain ⟨W1,ak⟩:∃W1,W1=wr.alloc (.cells #[.int .i64 t.loc,.int .i64 t.tag,.int .i64 t.len,.int .i64 t.hash] 101):=⟨_,rfl⟩;have af:Below wr.heap.size wr W1:=ak ▸ (br _ _).alloc (nlq _) _;have bx:W1.heap[wr.heap.size]? =some (.cells #[.int .i64 t.loc,.int .i64 t.tag,.int .i64 t.len,.int .i64 t.hash] 101 (0,0)):=ak ▸ heap_alloc_new wr _;obtain ⟨D,A,hD⟩:=Z.below af G;have I:keyOf Tryz.prog 3 (.int .i64 t.loc)=some (jc t.loc):=keyOf_int_mk Tryz.underlying3 (WalkArith.wf_i64 (by omega));have da:(mu (h.ae+1) (ts.take k)).length<=50000:=by rw [zyz,List.length_take];omega
   obtain ⟨w2,aw,aa,ai⟩:=World.ownsMap.update (w:=W1) A law3 Tryz.underlying194 (by unfold maxLen;omega) I (plainElem_int (H:=Unit) Tryz.underlying3 (a:=u) (WalkArith.wf_i64 (by omega)));have ez:j8 w2 w.heap.size (mu (h.ae+1) (ts.take (k+1))):=by rw [ca];exact ⟨_,by rw [List.length_append];exact aa,zvq hD (A.tidy law3) (t.loc,(⟨u,t.tag,t.len,t.hash⟩:bp))⟩
   have a6:=(ai.block wr.heap.size (bz bx) (fun e=>by have:=ojq e;omega)).trans bx;have an:Below w.heap.size w w2:=(J.trans (af.mono (by omega))).grown ai (by have:=J.size;have:=af.size;omega) (fun j e=>by cases e;exact nlq _);have cf:w.heap.size<w2.heap.size:=by have:=ai.size;have:=af.size;omega
   have u0:=ba bx 0 (x:=.int .i64 t.loc) rfl;have v0:=ba a6 0 (x:=.int .i64 t.loc) rfl;have v1:=ba a6 1 (x:=.int .i64 t.tag) rfl;have v2:=ba a6 2 (x:=.int .i64 t.len) rfl;have v3:=ba a6 3 (x:=.int .i64 t.hash) rfl;have i4:=bz bx;have i5:=bz a6;have c0:=ag (zyj w2 t (by unfold small;omega) (by unfold small;omega));have i6:IntKind.i64.wrap (u+(3+t.len))=u+(3+t.len):=by rw [IntKind.wrap_i64];omega
   have i7:IntKind.i64.wrap ((k:Int)+1)=(k:Int)+1:=by rw [IntKind.wrap_i64];omega
   have cp:=ag ak;have a1:=ag (And.intro ez (And.intro an cf));have f1:=ag cm;unfold mx at c0;rw [ac];clear Z J G ca cl ff em en bm ak af bx A hD I da aa ai ez a6 an cf ac cm ht HI;go_wp2_with fail;rw [<-cp.o];go_wp2_with fail;rw [aw];go_wp2_with fail;refine c0.o.mono ?_;rintro r w3 ⟨rfl,b5⟩;have fz:Hid (j8 w3 w.heap.size (mu (h.ae+1) (ts.take (k+1)))/\Below w.heap.size w w3/\w.heap.size<w3.heap.size):=⟨a1.o.1.below b5 a1.o.2.2,a1.o.2.1.trans (b5.mono (Nat.le_of_lt a1.o.2.2)),ll3 a1.o.2.2 b5.size⟩;clear b5 c0 a1;go_wp2_with fail;go_roundw
   case rel=>exact ⟨k+1,by rw [f1.o],by simp,ah,fz⟩
   case measure=>simp [intOf];omega
  have bi:(ts.length:Int)<=(k:Int):=by omega
  have c8:k=ts.length:=by omega
  subst c8;rw [List.take_length]at HI ⊢;obtain ⟨Z,J,G⟩:=HI.o;have F:=(J.block T lT).trans HO.o.blk;have a0:=ba F 0 (x:=.slice (some ⟨gW,0,none⟩) h.ab.length dW) rfl;have hs:=bz F;have b1:Hid (iI.bytes*h.ab.length<=281474976710656/\h.ab.length<=maxLen/\w.heap.size<=wr.heap.size):=⟨by rw [fe];omega,by unfold maxLen;omega,by omega⟩;clear Z J G F t1;go_wp2_with (refine wpList_make_full _ rfl _ _ 22 rfl w.heap.size 3 iI (.int .i64 0) 1 Tryz.underlying22 gx e9 fa .i64 .i64 (h.ab.length:Int) (h.ab.length:Int) h.ab.length rfl rfl rfl rfl b1.o.1 b1.o.2.1 b1.o.2.2 ?_);intro w1 A a5;obtain ⟨Z,J,G⟩:=HI.o;rw [<-zzt]at A;have af:Below wr.heap.size wr w1:=⟨a5.os,a5.tape,a5.output,a5.size,fun j hj=>a5.block j hj (by simp)⟩;obtain ⟨E,b7⟩:∃E,E=wr.heap.size:=⟨_,rfl⟩;have h8:w.heap.size<E:=by omega
  obtain ⟨mv,dd⟩:∃mv,mv=mu (h.ae+1) ts:=⟨_,rfl⟩;have az:=ag dd;rw [<-dd]at Z;have fr:Hid (w1.ownsRow w.heap.size 3 1 (.slice (some ⟨E,0,none⟩) h.ab.length h.ab.length) h.ab.length (bv (List.replicate h.ab.length 0))/\j8 w1 w.heap.size mv/\Below w.heap.size w w1/\E<w1.heap.size):=⟨by rw [b7];exact A,Z.below af (by omega),J.trans (af.mono (by omega)),by rw [b7];exact (A.lt _ rfl).2⟩;rw [<-b7];clear Z J G A a5 af HI b1 dd;clear b7;go_wp2_with fail;go_loopw [10,11,13,49] (fun _ _ _ i wq=>∃k:Nat,i=.int .i64 (k:Int)/\k<=ts.length/\Hid (wq.ownsRow w.heap.size 3 1 (.slice (some ⟨E,0,none⟩) h.ab.length h.ab.length) h.ab.length (bv (oa d.fields mv h.ab (mv.take k)))/\j8 wq w.heap.size mv/\Below w.heap.size w wq/\E<wq.heap.size)) (fun _ _ _ i _=>ts.length - (intOf i).toNat)
  case atStart=>exact ⟨0,rfl,n0q _,fr⟩
  case round=>
   obtain ⟨k,rfl,hk,HI⟩:=hrel;by_cases ah:k<ts.length
   ·have bi:(k:Int)<(ts.length:Int):=by omega
    obtain ⟨t,ht⟩:∃t,ts[k]=t:=⟨_,rfl⟩;have hT:=eb.o ts[k] (gm _);have bm:=cy.o k ah;obtain ⟨A,Z,J,G⟩:=HI.o;obtain ⟨gV,off,rfl,lV,q0,q1,q2,q3⟩:=(zhw (kg d8.o J) (by omega)).atTh k ah;have al:=zzy ts (h.ae+1) k ah;rw [<-az.o]at al;rw [ht]at hT bm q0 q1 q2 q3 al;obtain ⟨ff,em,en⟩:=hT;have gt:=ff.lo;obtain ⟨u,ac⟩:∃u,h.ae+1+gp (ts.take k)=u:=⟨_,rfl⟩;rw [ac]at al;have hl:1<=u/\u+(3+t.len)<=h.ab.length:=by omega
    have g4:k<mv.length:=(List.getElem?_eq_some_iff.1 al).1;have er:mv.take (k+1)=mv.take k++ [(t.loc,(⟨u,t.tag,t.len,t.hash⟩:bp))]:=by rw [List.take_add_one,al];rfl
    have cj:kr mv t.loc=some u:=zus (List.mem_of_getElem? al) (by rw [az.o,zzz];exact f0.o);have dg:oa d.fields mv h.ab (mv.take (k+1))=(refsOf d.fields ⟨u,t.tag,t.len,t.hash⟩).foldl (trnW mv) (lj (oa d.fields mv h.ab (mv.take k)) u.toNat (nr h.ab t.loc.toNat (t.len+3).toNat)):=by rw [er,oa,List.foldl_append];rfl
    obtain ⟨ws,ar⟩:∃ws,oa d.fields mv h.ab (mv.take k)=ws:=⟨_,rfl⟩;rw [ar]at A dg;have bu:ws.length=h.ab.length:=by have:=A.1;rw [zir,Nat.mul_one]at this;exact this
    obtain ⟨W1,ak,b3,he,kx,ky⟩:=nk wr #[.int .i64 t.loc,.int .i64 t.tag,.int .i64 t.len,.int .i64 t.hash] #[.int .i64 t.loc,.int .i64 t.tag,.int .i64 t.len,.int .i64 t.hash] 101 101;obtain ⟨D,N,hD⟩:=Z.below b3 (by omega);have I:keyOf Tryz.prog 3 (.int .i64 t.loc)=some (jc t.loc):=keyOf_int_mk Tryz.underlying3 (WalkArith.wf_i64 (by omega));obtain ⟨W2,a9⟩:∃W2,W2=W1.setCell ⟨wr.heap.size+1,0,none⟩ (.int .i64 u):=⟨_,rfl⟩;have ai:W1.grownBy W2 (some (wr.heap.size+1)):=a9 ▸ nh (World.grownBy.refl _ _) _ _ (Or.inl rfl);have ch:W2.heap[wr.heap.size+1]? =some (.cells #[.int .i64 u,.int .i64 t.tag,.int .i64 t.len,.int .i64 t.hash] 101 (0,0)):=a9 ▸ zg6 ky _;have au:=(ai.block wr.heap.size (bz kx) (fun e=>by have:=ojq e;omega)).trans kx;have an:Below wr.heap.size wr W2:=b3.grown ai b3.size (fun j e=>by cases e;omega);have bb:Below w.heap.size w W2:=J.trans (an.mono (by omega));have aa:W2.ownsRow w.heap.size 3 1 (.slice (some ⟨E,0,none⟩) h.ab.length h.ab.length) h.ab.length (bv ws):=kg A an;have et:j8 W2 w.heap.size mv:=Z.below an (by omega);have du:=(bb.block T lT).trans HO.o.blk;have f5:=ba kx 0 (x:=.int .i64 t.loc) rfl;have f6:=ba kx 1 (x:=.int .i64 t.tag) rfl;have f7:=ba kx 2 (x:=.int .i64 t.len) rfl;have f8:=ba kx 3 (x:=.int .i64 t.hash) rfl;have gb:=ba ky 0 (x:=.int .i64 t.loc) rfl;have gg:=nu ky 0;have lx:=bz kx;have ly:=bz ky;have cp:=ag ak;have fl:=ag a9;have HN:=ag cj;have HD:=ag hD;have HK:=ag I;have H2:=ag (And.intro aa (And.intro et bb));have cu:=ag dg;have f2:Hid (∀x∈ws,wfI x):=by show ∀x∈ws,wfI x;rw [<-ar];exact zz3 (by rw [az.o];exact d4.o) c1.o.2 _
    have d1:=ag (And.intro au ch);have b2:=ag ff;have cv:Hid (W2.heap.size=wr.heap.size+2/\E<wr.heap.size):=⟨by rw [a9,World.size_setCell];omega,G⟩;have d2:Hid (∀W,Calls Tryz.prog 72 #[.agg #[.int .i64 t.loc,.int .i64 t.tag,.int .i64 t.len,.int .i64 t.hash]] W fun r w'=>r=.returned (.int .i64 (t.loc+3+t.len))/\Below W.heap.size W w'):=fun W=>ze2 W t (by unfold small;omega) (by unfold small;omega);have r3:∀V,(Instr.slice 22 (.slice (some ⟨E,0,none⟩) h.ab.length h.ab.length) (some (.int .i64 u)) none none).run Tryz.prog V=.ok (.slice (some ⟨E,u.toNat,none⟩) (h.ab.length - u.toNat) (h.ab.length - u.toNat)) V:=fun V=>by rw [run_slice_l V 22 _ _ _ Tryz.underlying22 .i64 u (by omega) (by omega)];show Result.ok (sliced (some ⟨E,0,none⟩) u.toNat h.ab.length h.ab.length 1) V=_;unfold sliced;rw [if_neg (by omega),Option.map_some,zg1,Nat.mul_one,Nat.zero_add]
    have hz:∀V,(Instr.slice 22 (.slice (some ⟨gW,0,none⟩) h.ab.length dW) (some (.int .i64 t.loc)) (some (.int .i64 (t.loc+3+t.len))) none).run Tryz.prog V=.ok (.slice (some ⟨gW,t.loc.toNat,none⟩) (t.len+3).toNat (dW - t.loc.toNat)) V:=fun V=>by rw [run_slice_lh V 22 _ _ _ Tryz.underlying22 .i64 .i64 t.loc (t.loc+3+t.len) (by omega) (by omega) (by omega)];show Result.ok (sliced (some ⟨gW,0,none⟩) t.loc.toNat (t.loc+3+t.len).toNat dW 1) V=_;unfold sliced;rw [if_neg (by omega),Option.map_some,zg1,Nat.mul_one,Nat.zero_add,show (t.loc+3+t.len).toNat - t.loc.toNat=(t.len+3).toNat by omega]
    have nT:¬T=E:=by omega
    have nP:¬wr.heap.size=E:=by have:=cv.o.2;omega
    have nQ:¬wr.heap.size+1=E:=by have:=cv.o.2;omega
    have g0:=ba au 0 (x:=.int .i64 t.loc) rfl;have g1:=ba au 1 (x:=.int .i64 t.tag) rfl;have g2:=ba au 2 (x:=.int .i64 t.len) rfl;have g3:=ba au 3 (x:=.int .i64 t.hash) rfl;have y0:=ba ch 0 (x:=.int .i64 u) rfl;have a2:=ba du 0 (x:=.slice (some ⟨gW,0,none⟩) h.ab.length dW) rfl;have hw:=bz au;have hy:=bz ch;have hu:=bz du;clear bm A Z J G al ff ac g4 er cj dg ar ak b3 he kx ky hD I a9 ai ch au an bb aa et du HI ht a0 hs;go_wp2_with (at_lookup;rw [<-cp.o];refine wpList_lookup_own_int _ rfl _ _ 194 rfl 3 3 .i64 law3 Tryz.underlying194 Tryz.underlying3 (zero3 _) w.heap.size mv.length D rfl N _ _ rfl HK.o ?_);intro c L dl;have bc:c=u:=by have e:=L;rw [HD.o.at_ t.loc u _ HN.o]at e;exact ((Lit.int.inj (DataW.lit.inj e)).2).symm
    rw [bc];clear bc L dl N;go_wp2_with fail;rw [<-fl.o];refine wp_region_held_drew (S:=fun W'=>∀p:Addr,p.block<W2.heap.size->p.block≠E->W'.cell? p=W2.cell? p) (by kernel_rfl) (fun p hp _=>rfl) fun F=>?_;refine ta 0 (.slice (some ⟨E,0,none⟩) h.ab.length h.ab.length) rfl F ?_;refine ta 1 (.pointer (some ⟨wr.heap.size+1,0,none⟩)) rfl F ?_;refine ta 2 (.int .i64 u) rfl F ?_;refine ta 3 (.slice (some ⟨E,u.toNat,none⟩) (h.ab.length - u.toNat) (h.ab.length - u.toNat)) rfl F ?_;refine ta 4 (.pointer (some ⟨T,0,none⟩)) rfl F ?_;refine ta 5 (.pointer (some ⟨T,0,none⟩)) rfl F ?_;refine ta 6 (.pointer (some ⟨T,0,none⟩)) rfl F ?_;refine ta 7 (.pointer (some ⟨T,0,none⟩)) rfl F ?_;refine ta 8 (.pointer (some ⟨T,0,none⟩)) rfl F ?_;refine ta 9 (.slice (some ⟨gW,0,none⟩) h.ab.length dW) rfl F ?_;refine ta 10 (.pointer (some ⟨wr.heap.size,0,none⟩)) rfl F ?_;refine ta 11 (.int .i64 t.loc) rfl F ?_;refine ta 12 (.agg #[.int .i64 t.loc,.int .i64 t.tag,.int .i64 t.len,.int .i64 t.hash]) rfl F ?_;refine wpAnyH_ready (rs:=[13]) (by kernel_rfl) (by simp) ?_;refine AllReadyH.cons rfl (fun h6 eh=>?_) AllReadyH.nil;go_simp;refine (d2.o _).mono ?_;rintro r w5 ⟨rfl,b6⟩;have O:Below W2.heap.size W2 w5:=(br W2.heap.size W2).drew.trans b6;refine eh.o _ _ (fun p hp _=>O.cell hp) fun F=>?_;refine ta 14 (.slice (some ⟨gW,t.loc.toNat,none⟩) (t.len+3).toNat (dW - t.loc.toNat)) rfl F ?_;refine wpAnyH_ready (rs:=[15]) (by kernel_rfl) (by simp) ?_;refine AllReadyH.cons rfl (fun h7 ei=>?_) AllReadyH.nil;have av:Below w.heap.size w w5:=H2.o.2.2.trans (O.mono H2.o.2.2.size);have o5:=kg H2.o.1 O;have s5:=kg HO.o.rW av;refine zy4 rfl (.tmp 62) (.tmp 73) rfl w.heap.size E u.toNat t.loc.toNat (t.len+3).toNat (h.ab.length - u.toNat) (h.ab.length - u.toNat) (dW - t.loc.toNat) h.ab.length ws b gW dW h.ab s5 (by rw [bu];exact o5) rfl rfl (by omega) (by omega) (by omega) ?_;intro w4 a4 cc;refine ei.o _ _ (fun p hp g9=>(World.cell?_of_block (a:=p) (a4.block p.block (ll3 hp O.size) (fun e=>g9 (ojq e)))).trans (O.cell hp)) fun F=>?_;refine wpAnyH_done (by kernel_rfl) ?_ _;clear F;try simp only [Act.put,p1q,p4q,p3q,p2q,p5q,p6q]
    have ce:(lj ws u.toNat (nr h.ab t.loc.toNat (t.len+3).toNat)).length=h.ab.length:=by rw [zug (by rw [zuh (by omega)];omega),bu]
    obtain ⟨X,ay⟩:∃X,X=lj ws u.toNat (nr h.ab t.loc.toNat (t.len+3).toNat):=⟨_,rfl⟩;have cn:∀x∈X,wfI x:=ay ▸ zz1 f2.o (zz2 c1.o.2);rw [<-ay]at cc ce;rw [ce,bu]at cc;have hg:=a4.size;have hh:=O.size;have cf:=cv.o;have c3:Below w.heap.size w w4:=av.grown a4 av.size (fun j e=>by cases e;omega);have eu:j8 w4 w.heap.size mv:=(H2.o.2.1.below O (by omega)).kept a4 (fun e=>by have:=ojq e;omega);have a7:=(a4.block (wr.heap.size+1) (by omega) (fun e=>by have:=ojq e;omega)).trans ((O.block _ (by omega)).trans d1.o.2);have dz:=(c3.block T lT).trans HO.o.blk;have d5:Hid (∀V,Below w.heap.size w V->Calls Tryz.prog 178 #[.pointer (some ⟨T,0,none⟩),.agg #[.int .i64 u,.int .i64 t.tag,.int .i64 t.len,.int .i64 t.hash]] V fun r w'=>Below V.heap.size V w'/\∃v,r=.returned v/\w'.ownsRow V.heap.size 3 1 v (refsOf d.fields ⟨u,t.tag,t.len,t.hash⟩).length (bv (refsOf d.fields ⟨u,t.tag,t.len,t.hash⟩))):=fun V hV=>zht V _ T _ _ _ _ _ _ _ h d ((HO.o.below hV).gd (by omega) hd) ⟨u,t.tag,t.len,t.hash⟩ ⟨b2.o.tag,b2.o.lo,b2.o.hi,⟨by show 0<=u;omega,by show u<=1000000;omega⟩⟩ ⟨by show 0<=u;omega,by show u<=100000;omega⟩ (by show t.len<=100000;omega);have d6:Hid (∀a∈refsOf d.fields ⟨u,t.tag,t.len,t.hash⟩,u+3<=a/\a<u+3+t.len):=fun a ha=>zh2 d.fields ⟨u,t.tag,t.len,t.hash⟩ ha;have h3:(refsOf d.fields ⟨u,t.tag,t.len,t.hash⟩).length<=100000:=lt3 (zhr d.fields ⟨u,t.tag,t.len,t.hash⟩ t.len.toNat) (by omega);rw [<-ay]at cu;generalize refsOf d.fields ⟨u,t.tag,t.len,t.hash⟩=rf at*;have co:=ag c3;have H4:=ag (And.intro cc (And.intro eu (And.intro cn (And.intro (show E<w4.heap.size by omega) ce))));have z0:=ba a7 0 (x:=.int .i64 u) rfl;have z1:=ba a7 1 (x:=.int .i64 t.tag) rfl;have z2:=ba a7 2 (x:=.int .i64 t.len) rfl;have z3:=ba a7 3 (x:=.int .i64 t.hash) rfl;have b0:=ba dz 0 (x:=.slice (some ⟨gW,0,none⟩) h.ab.length dW) rfl;have lz:=bz a7;have hv:=bz dz;clear g0 g1 g2 g3 y0 a2 hw hy hu f5 f6 f7 f8 gb gg lx ly ce cn hg hh cf c3 eu a7 dz cc a4 O b6 av o5 s5 r3 hz d2 d1 b2 H2 nT nP nQ q0 q1 q2 q3 ay;go_wp2_with fail;refine wp_region_held_drew (S:=fun W'=>∀p:Addr,p.block<w4.heap.size->W'.cell? p=w4.cell? p) (by kernel_rfl) (fun p hp=>rfl) fun F=>?_;refine ta 0 (.pointer (some ⟨T,0,none⟩)) rfl F ?_;refine ta 1 (.pointer (some ⟨T,0,none⟩)) rfl F ?_;refine ta 2 (.pointer (some ⟨T,0,none⟩)) rfl F ?_;refine ta 3 (.agg #[.int .i64 u,.int .i64 t.tag,.int .i64 t.len,.int .i64 t.hash]) rfl F ?_;refine ta 6 (.int .i64 0) rfl F ?_;refine wpAnyH_ready (rs:=[4]) (by kernel_rfl) (by simp) ?_;refine AllReadyH.cons rfl (fun K4 gk=>?_) AllReadyH.nil;go_simp;refine (d5.o _ co.o.drew).mono ?_;rintro r w6 ⟨O,vq,rfl,dk⟩;obtain ⟨aQ,cQ,rfl⟩:=kh dk;have a3:Below w4.heap.size w4 w6:=(br w4.heap.size w4).drew.trans O;refine gk.o _ _ (fun p hp=>a3.cell hp) fun F=>?_;refine ta 5 (.int .i64 (rf.length:Int)) rfl F ?_;refine wpAnyH_done (by kernel_rfl) ?_ _;clear F;try simp only [Act.put,p1q,p4q,p3q,p2q,p5q,p6q]
    have d0:Hid (Below w.heap.size w w6):=co.o.trans (a3.mono co.o.size);have H6:Hid (w6.ownsRow w.heap.size 3 1 (.slice (some ⟨E,0,none⟩) h.ab.length h.ab.length) h.ab.length (bv X)/\j8 w6 w.heap.size mv):=⟨kg H4.o.1 a3,H4.o.2.1.below a3 (by have:=H4.o.2.2.2.1;omega)⟩;have ea:=ag dk;have cx:Hid (E<w4.heap.size/\w4.heap.size<=w6.heap.size):=⟨H4.o.2.2.2.1,a3.size⟩;clear O a3 dk z0 z1 z2 z3 b0 lz hv d5;go_wp2_with fail;go_loopw [13,81] (fun _ i wq=>∃j:Nat,i=.int .i64 (j:Int)/\j<=rf.length/\Hid (wq.ownsRow w.heap.size 3 1 (.slice (some ⟨E,0,none⟩) h.ab.length h.ab.length) h.ab.length (bv ((rf.take j).foldl (trnW mv) X))/\j8 wq w.heap.size mv/\Below w.heap.size w wq/\wq.ownsRow w4.heap.size 3 1 (.slice aQ rf.length cQ) rf.length (bv rf)/\w4.heap.size<=wq.heap.size)) (fun _ i _=>rf.length - (intOf i).toNat)
    case atStart=>exact ⟨0,rfl,n0q _,H6.o.1,H6.o.2,d0.o,ea.o,cx.o.2⟩
    case round=>
     obtain ⟨j,rfl,hj,HJ⟩:=hrel;by_cases bf:j<rf.length
     ·have bh:(j:Int)<(rf.length:Int):=by omega
      obtain ⟨ho,Z,J,hq,e6⟩:=HJ.o;obtain ⟨gQ,off,rfl,lQ,e0⟩:=(zfb hq (by omega)).atI j bf;have el:=d6.o rf[j] (gm _);obtain ⟨a,ha⟩:∃a:Nat,rf[j]=(a:Int):=⟨rf[j].toNat,by omega⟩;rw [ha]at el e0;have ao:(rf.take (j+1)).foldl (trnW mv) X=trnW mv ((rf.take j).foldl (trnW mv) X) (a:Int):=by rw [zy0 rf j bf,List.foldl_append,ha];rfl
      have bq:=zz0 (mv:=mv) (by rw [az.o];exact d4.o) (rf.take j) X H4.o.2.2.1;have eq:((rf.take j).foldl (trnW mv) X).length=h.ab.length:=by rw [zy2];exact H4.o.2.2.2.2
      obtain ⟨wj,e7⟩:∃wj,(rf.take j).foldl (trnW mv) X=wj:=⟨_,rfl⟩;rw [e7]at ao bq eq ho;have ej:a<wj.length:=by omega
      have xv:=(ho.cellAt a (by rw [Nat.mul_one];omega)).trans (zmp ej);have xz:=ho.frozenAt a;have xl:=(ho.lt E rfl).2;obtain ⟨D,N,hD⟩:=Z;have I:keyOf Tryz.prog 3 (.int .i64 wj[a])=some (jc wj[a]):=keyOf_int_mk Tryz.underlying3 (bq wj[a] (gm _));have c5:(rf.take (j+1)).foldl (trnW mv) X=wj.set a (ku mv wj[a]):=by rw [ao,trnW,zen ej,Int.toNat_natCast]
      obtain ⟨x,hx⟩:∃x,wj[a]=x:=⟨_,rfl⟩;rw [hx]at xv I c5;obtain ⟨W3,ad⟩:∃W3,W3=wr.setCell ⟨E,a,none⟩ (.int .i64 (ku mv x)):=⟨_,rfl⟩;have Y:wr.grownBy W3 (some E):=ad ▸ nh (World.grownBy.refl _ _) _ _ (Or.inl rfl);have hf:=cx.o;have ct:Hid (W3.ownsRow w.heap.size 3 1 (.slice (some ⟨E,0,none⟩) h.ab.length h.ab.length) h.ab.length (bv ((rf.take (j+1)).foldl (trnW mv) X))/\j8 W3 w.heap.size mv/\Below w.heap.size w W3/\W3.ownsRow w4.heap.size 3 1 (.slice (some ⟨gQ,off,none⟩) rf.length cQ) rf.length (bv rf)/\w4.heap.size<=W3.heap.size):=by refine ⟨?_,HJ.o.2.1.kept Y (fun e=>by have:=ojq e;omega),J.grown Y J.size (fun j e=>by cases e;omega),hq.kept Y (Or.inr fun e=>by have:=(hq.lt _ e).1;omega),lt3 e6 Y.size⟩;rw [c5,bv,List.map_set,ad];exact zg7 ho a _
      have cr:=ag ad;have HD:=ag hD;have HK:=ag I;have i9:IntKind.i64.wrap ((j:Int)+1)=(j:Int)+1:=by rw [IntKind.wrap_i64];omega
      have h2:(a:Int)<(h.ab.length:Int):=by omega
      clear ho J hq e6 el ha ao bq eq e7 hD I c5 hx ad Y hf HJ;go_wp2_with (at_lookup;refine wpList_lookup_own_int _ rfl _ _ 194 rfl 3 3 .i64 law3 Tryz.underlying194 Tryz.underlying3 (zero3 _) w.heap.size mv.length D rfl N _ _ rfl HK.o ?_);intro c L dl;have bc:=zz5 HD.o L;rw [bc];clear bc L dl N;go_wp2_with fail;rw [<-cr.o];go_roundw
      case rel=>exact ⟨j+1,by go_num,by omega,ct⟩
      case measure=>simp [intOf];omega
     have bh:(rf.length:Int)<=(j:Int):=by omega
     have c7:j=rf.length:=by omega
     subst c7;rw [List.take_length]at HJ;rw [<-cu.o]at HJ;have i8:IntKind.i64.wrap ((k:Int)+1)=(k:Int)+1:=by rw [IntKind.wrap_i64];omega
     have ft:Hid (wr.ownsRow w.heap.size 3 1 (.slice (some ⟨E,0,none⟩) h.ab.length h.ab.length) h.ab.length (bv (oa d.fields mv h.ab (mv.take (k+1))))/\j8 wr w.heap.size mv/\Below w.heap.size w wr/\E<wr.heap.size):=⟨HJ.o.1,HJ.o.2.1,HJ.o.2.2.1,by have:=cx.o;have:=HJ.o.2.2.2.2;omega⟩;clear HJ H4 d6 ea d0 H6 cu;go_wp2_with fail;go_roundw
     case rel=>exact ⟨k+1,by go_num,by omega,ft⟩
     case measure=>simp [intOf];omega
   have bi:(ts.length:Int)<=(k:Int):=by omega
   have c8:k=ts.length:=by omega
   subst c8;have da:mv.length=ts.length:=by rw [az.o,zyz]
   rw [List.take_of_length_le (by omega:mv.length<=ts.length)]at HI;obtain ⟨A,Z,J,G⟩:=HI.o;obtain ⟨ws,ar⟩:∃ws,oa d.fields mv h.ab mv=ws:=⟨_,rfl⟩;rw [ar]at A;have f3:=ag ar;have oT:=HO.o.below J;have ee:=ba oT.blk 12 (x:=.slice aR rs.length cR) rfl;have fi:=bz oT.blk;have fv:Hid (ow b B wr T (.slice (some ⟨gW,0,none⟩) h.ab.length dW) (.slice aO h.ap.length cO) (.slice aR rs.length cR) (.slice aC d.aj.length cC) (.slice aS d.ax.length cS) (.slice aF d.fields.length cF) (.slice aN d.names.length cN) (.slice aT d.aq.length cT) h rs d/\wr.ownsRow w.heap.size 3 1 (.slice (some ⟨E,0,none⟩) h.ab.length h.ab.length) h.ab.length (bv ws)/\j8 wr w.heap.size mv/\Below b w wr/\E<wr.heap.size):=⟨oT,A,Z,J.mono (by omega),G⟩;clear A Z J G ar oT HI da;go_wp2_with fail;go_loopw [14,15,101] (fun _ _ i wq=>∃j:Nat,i=.int .i64 (j:Int)/\j<=rs.length/\Hid (ow b B wq T (.slice (some ⟨gW,0,none⟩) h.ab.length dW) (.slice aO h.ap.length cO) (.slice aR rs.length cR) (.slice aC d.aj.length cC) (.slice aS d.ax.length cS) (.slice aF d.fields.length cF) (.slice aN d.names.length cN) (.slice aT d.aq.length cT) h ((rs.take j).map (ku mv)++rs.drop j) d/\wq.ownsRow w.heap.size 3 1 (.slice (some ⟨E,0,none⟩) h.ab.length h.ab.length) h.ab.length (bv ws)/\j8 wq w.heap.size mv/\Below b w wq/\E<wq.heap.size)) (fun _ _ i _=>rs.length - (intOf i).toNat)
   case atStart=>exact ⟨0,rfl,n0q _,fv⟩
   case round=>
    obtain ⟨j,rfl,hj,HJ⟩:=hrel;by_cases bf:j<rs.length
    ·have bh:(j:Int)<(rs.length:Int):=by omega
     obtain ⟨o4,A,Z,J,G⟩:=HJ.o;have c9:((rs.take j).map (ku mv)++rs.drop j).length=rs.length:=by simp;omega
     have hR:=o4.rR;obtain ⟨gR,gs⟩:∃gR,aR=some ⟨gR,0,none⟩:=by
      rcases hR.2 with ⟨-,h0⟩ | ⟨g,cap,f4,e,-⟩
      ·omega
      injection e with e1 e2 e3;exact ⟨g,e1⟩
     subst gs;rw [c9]at hR;have xv:=(hR.cellAt j (by rw [Nat.mul_one];omega)).trans (zmp (by omega:j<((rs.take j).map (ku mv)++rs.drop j).length));rw [show ((rs.take j).map (ku mv)++rs.drop j)[j]'(by omega)=rs[j] from ojq ((List.getElem?_eq_getElem (by omega)).symm.trans (zz6 (ku mv) rs j bf))]at xv;have ds:=c1.o.1 rs[j] (gm _);have df:=zz7 (ku mv) rs j bf;obtain ⟨x,hx⟩:∃x,rs[j]=x:=⟨_,rfl⟩;rw [hx]at xv ds df;have xz:=hR.frozenAt j;have xl:=(hR.lt gR rfl).2;obtain ⟨D,N,hD⟩:=Z.below (br _ wr).drew (by omega);obtain ⟨c,aw,L,-⟩:=N.lookup_int law3 Tryz.underlying194 Tryz.underlying3 (zero3 _) (keyOf_int_mk Tryz.underlying3 ds);rw [zz5 hD L]at aw;have ef:=ba o4.blk 12 (x:=.slice (some ⟨gR,0,none⟩) rs.length cR) rfl;have i2:=bz o4.blk;obtain ⟨W3,ad⟩:∃W3,W3=wr.setCell ⟨gR,j,none⟩ (.int .i64 (ku mv x)):=⟨_,rfl⟩;have Y:wr.grownBy W3 (some gR):=ad ▸ nh (World.grownBy.refl _ _) _ _ (Or.inl rfl);have gv:gR<w.heap.size:=(HO.o.rR.lt gR rfl).2;have ct:Hid (ow b B W3.drew T (.slice (some ⟨gW,0,none⟩) h.ab.length dW) (.slice aO h.ap.length cO) (.slice (some ⟨gR,0,none⟩) rs.length cR) (.slice aC d.aj.length cC) (.slice aS d.ax.length cS) (.slice aF d.fields.length cF) (.slice aN d.names.length cN) (.slice aT d.aq.length cT) h ((rs.take (j+1)).map (ku mv)++rs.drop (j+1)) d/\W3.drew.ownsRow w.heap.size 3 1 (.slice (some ⟨E,0,none⟩) h.ab.length h.ab.length) h.ab.length (bv ws)/\j8 W3.drew w.heap.size mv/\Below b w W3.drew/\E<W3.drew.heap.size):=by
      obtain ⟨o5,b6⟩:=o4.roots (k:=gR) (rs':=(rs.take (j+1)).map (ku mv)++rs.drop (j+1)) rfl Y (by
       rw [df,List.length_set,c9,bv,List.map_set,ad];exact zg7 hR j _)
      have hr:=Y.size;exact ⟨o5.below (br _ _).drew,kg (A.kept Y (Or.inr fun e=>by have e':E=gR:=ojq e;omega)) (br _ _).drew,(Z.kept Y (fun e=>by have:=ojq e;omega)).below (br W3.heap.size _).drew (by omega),J.trans (b6.trans (br _ _).drew),ll3 G hr⟩
     have cr:=ag ad;have h5:IntKind.i64.wrap ((j:Int)+1)=(j:Int)+1:=by rw [IntKind.wrap_i64];omega
     clear o4 A Z J G c9 hR ds df hx N hD L ad Y gv HJ ee fi;go_wp2_with fail;refine zrq (fun W'=>W'.cell? ⟨T,12,none⟩=some (.slice (some ⟨gR,0,none⟩) rs.length cR)/\(Instr.lookup 194 (.map (some w.heap.size)) (.int .i64 x) false).run Tryz.prog W'=.ok (.int .i64 (ku mv x)) W') 9 (by kernel_rfl) ⟨ef,aw⟩ fun F=>?_;refine zrn 0 (.pointer (some ⟨T,0,none⟩)) rfl (by kernel_rfl) (by kernel_rfl) (fun _ _ _ h=>h) ?_ F ?_
     ·intro w;go_simp
     refine zrn 1 (.pointer (some ⟨T,0,none⟩)) rfl (by kernel_rfl) (by kernel_rfl) (fun _ _ _ h=>h) ?_ F ?_
     ·intro w;go_simp
     refine zrn 2 (.pointer (some ⟨T,12,none⟩)) rfl (by kernel_rfl) (by kernel_rfl) (fun _ _ _ h=>h) ?_ F ?_
     ·intro w;go_simp
     refine zrm 3 (.slice (some ⟨gR,0,none⟩) rs.length cR) rfl (by kernel_rfl) (by kernel_rfl) (by kernel_rfl) (fun _ _ _ h=>h) ?_ F ?_
     ·intro w c2;obtain ⟨s0,s1⟩:=c2;go_simp
     refine zrn 4 (.int .i64 (j:Int)) rfl (by kernel_rfl) (by kernel_rfl) (fun _ _ _ h=>h) ?_ F ?_
     ·intro w;go_simp
     refine zrn 5 (.map (some w.heap.size)) rfl (by kernel_rfl) (by kernel_rfl) (fun _ _ _ h=>h) ?_ F ?_
     ·intro w;go_simp
     refine zrn 6 (.int .i64 x) rfl (by kernel_rfl) (by kernel_rfl) (fun _ _ _ h=>h) ?_ F ?_
     ·intro w;go_simp
     refine zrm 7 (.int .i64 (ku mv x)) rfl (by kernel_rfl) (by kernel_rfl) (by kernel_rfl) (fun _ _ _ h=>h) ?_ F ?_
     ·intro w c2;obtain ⟨s0,s1⟩:=c2;go_simp
     refine zrn 8 (.pointer (some ⟨gR,j,none⟩)) rfl (by kernel_rfl) (by kernel_rfl) (fun _ _ _ h=>h) ?_ F ?_
     ·intro w;go_simp
     refine zro (rs:=[9]) (by kernel_rfl) (by simp) ?_;refine TilR.cons rfl (fun K9 gl=>?_) TilR.nil;go_simp;refine gl.o _ _ (fun h=>absurd rfl h) ?_;rw [<-cr.o];refine zrp (by kernel_rfl) ?_ _;try simp only [Act.put,p1q,p4q,p3q,p2q,p5q,p6q]
     go_wp2_with fail;go_roundw
     case rel=>exact ⟨j+1,by go_num,by omega,ct⟩
     case measure=>simp [intOf];omega
    have bh:(rs.length:Int)<=(j:Int):=by omega
    have c7:j=rs.length:=by omega
    subst c7;obtain ⟨o4,A,Z,J,G⟩:=HJ.o;rw [List.take_length,List.drop_length,List.append_nil]at o4;have bs:ws.length=h.ab.length:=by have:=A.1;rw [zir,Nat.mul_one]at this;exact this
    have k0:=ba o4.blk 0 (x:=.slice (some ⟨gW,0,none⟩) h.ab.length dW) rfl;have k4:=ba o4.blk 4 (x:=.int .i64 h.bk) rfl;have kz:=fun i=>nu o4.blk i;have i3:=bz o4.blk;obtain ⟨W8,b4⟩:∃W8,W8=(wr.setCell ⟨T,0,none⟩ (.slice (some ⟨E,0,none⟩) h.ab.length h.ab.length)).setCell ⟨T,4,none⟩ (.int .i64 (h.ae+1+gp ts)):=⟨_,rfl⟩;have c6:wr.grownBy W8 (some T):=b4 ▸ nh (nh (World.grownBy.refl _ _) _ _ (Or.inl rfl)) _ _ (Or.inl rfl);have c4:=zg6 (zg6 o4.blk (j:=0) (.slice (some ⟨E,0,none⟩) h.ab.length h.ab.length)) (j:=4) (.int .i64 (h.ae+1+gp ts));rw [<-b4]at c4;obtain ⟨o8,ci⟩:=o4.newW (g:=E) (cap:=h.ab.length) (ws:=ws) (ot:=h.ae+1+gp ts) c6 (by rw [bs];exact c4) (by rw [bs];exact zhp (A.kept c6 (Or.inr fun e=>by have e':E=T:=ojq e;omega)) (by omega)) ⟨by omega,fun k e=>by have:=(HO.o.rO.lt k e).2;omega,fun k e=>by have:=(HO.o.rR.lt k e).2;omega⟩;have d3:=ag (zwo W8 b B T _ _ _ _ _ _ _ _ _ _ d o8 ⟨hm.1,by show h.ae<=1000000;omega⟩ (by show h.ae+1<=(ws.length:Int);omega));have fj:Hid (Below b w W8):=J.trans ci;have fo:=ag b4;clear o4 A Z J G bs b4 c6 c4 o8 ci HJ ee fi;go_wp2_with fail;rw [<-fo.o];refine d3.o.mono ?_;rintro r w9 ⟨rfl,o9,ek⟩;have HF:=ag (And.intro o9 ek);clear o9 ek d3;go_wp2_with fail;go_end0;rw [<-az.o,f3.o];exact ⟨rfl,fj.o.trans HF.o.2,_,HF.o.1⟩
end Go.Proofs.YtjdnmblggdobgaaGreat
