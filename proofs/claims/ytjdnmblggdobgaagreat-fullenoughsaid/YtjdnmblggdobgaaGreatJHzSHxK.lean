import Derived.Test.YtjdnmblggdobgaaGreatJHzTHxE
import Derived.Test.YtjdnmblggdobgaaGreatJHzGHzH
import Derived.Test.YtjdnmblggdobgaaGreatJHxGHxI
set_option maxHeartbeats 8000000
set_option maxRecDepth 100000
namespace Go.Proofs.YtjdnmblggdobgaaGreat
open Go.RowKit Go.Maps Tryz
def pa (p:Int):List bk->List (Int×bk)
 | []=>[]
 | t::r=>(t.loc,⟨p,t.tag,t.len,t.hash⟩)::pa (p+3+t.len) r
def ic (ts:List bk):Int:=(ts.map (fun t:bk=>3+t.len)).sum
theorem zyx (ts:List bk) (t:bk):ic (ts++ [t])=ic ts+(3+t.len):=by simp [ic]
theorem zyy (l:List bk) (t:bk):∀p,pa p (l++ [t])=pa p l++ [(t.loc,⟨p+ic l,t.tag,t.len,t.hash⟩)]:=by
 induction l with
 | nil=>intro p;simp [pa,ic]
 | cons x l ih=>
   intro p;rw [List.cons_append,pa,ih,pa,List.cons_append];have:p+3+x.len+ic l=p+ic (x::l):=by simp only [ic,List.map_cons,List.sum_cons];omega
   rw [this]
theorem zyz (l:List bk):∀p,(pa p l).length=l.length:=by
 induction l with
 | nil=>intro p;rfl
 | cons x l ih=>intro p;rw [pa,List.length_cons,ih,List.length_cons]
theorem zy0 {α:Type} (l:List α) (k:Nat) (A:k<l.length):l.take (k+1)=l.take k++ [l[k]]:=by rw [List.take_add_one,List.getElem?_eq_getElem A];rfl
theorem zy1 (l:List bk) (p:Int) (k:Nat) (A:k<l.length):pa p (l.take (k+1))=pa p (l.take k)++ [(l[k].loc,⟨p+ic (l.take k),l[k].tag,l[k].len,l[k].hash⟩)]:=by rw [zy0 l k A,zyy]
def mg (mv:List (Int×bk)) (n:Int):Int:=(ij mv n).getD 0
def re (mv:List (Int×bk)) (ws:List Int) (a:Int):List Int:=ws.set a.toNat (mg mv (wd ws a))
def ue (fs:List (List bq)) (mv:List (Int×bk)) (us ws:List Int) (q:Int×bk):List Int:=(refsOf fs q.2).foldl (re mv) (ma ws q.2.loc.toNat (lj us q.1.toNat (q.2.len+3).toNat))
def qm (fs:List (List bq)) (mv:List (Int×bk)) (us:List Int) (l:List (Int×bk)):List Int:=l.foldl (ue fs mv us) (List.replicate us.length 0)
theorem zy2 (mv:List (Int×bk)) (l:List Int):∀ws:List Int,(l.foldl (re mv) ws).length=ws.length:=by
 induction l with
 | nil=>intro ws;rfl
 | cons a l ih=>intro ws;rw [List.foldl_cons,ih,re,List.length_set]
theorem zy3 (ts:List bk) (h:∀t∈ts,0<=t.len) (k:Nat) (G:k<ts.length):0<=ic (ts.take k)/\ic (ts.take k)+(3+ts[k].len)<=ic ts:=by
 have E:∀l:List bk,(∀t∈l,0<=t.len)->0<=ic l:=by
  intro l;induction l with
  | nil=>intro _;exact Int.le_refl _
  | cons x l ih=>
    intro D;have h1:=ih fun t A=>D t (List.mem_cons_of_mem _ A);have F:=D x (List.mem_cons_self ..);simp only [ic,List.map_cons,List.sum_cons]at h1 ⊢;omega
 have e:ic ts=ic (ts.take k)+(3+ts[k].len)+ic (ts.drop (k+1)):=by
  have:ts=ts.take k++ts[k]::ts.drop (k+1):=by rw [<-List.drop_eq_getElem_cons G,List.take_append_drop]
  have:=congrArg ic this;simp only [ic,List.map_append,List.map_cons,List.sum_append,List.sum_cons]at this ⊢;omega
 have h1:=E (ts.take k) fun t A=>h t (List.mem_of_mem_take A);have F:=E (ts.drop (k+1)) fun t A=>h t (List.mem_of_mem_drop A);omega
theorem zy4 {ops:Array Oper} {o:Oper} {a:Act} {w:World} {K:Act->World->Prop} {Q:Exit->Act->World->Prop} {E:Prop} (aj:o.guard=none) (dd s:Operand)
 (ho:o.op=.call { callee:=.builtin .copy,args:=#[dd,s],argTypes:=#[22,22] }) (b g off A n F I L cap:Nat) (ws:List Int) (b' g' W:Nat) (D:List Int) (aa:w.ownsRow b' 3 1 (.slice (some ⟨g',0,none⟩) D.length W) D.length (bw D)) (Y:w.ownsRow b 3 1 (.slice (some ⟨g,0,none⟩) ws.length cap) ws.length (bw ws))
 (hd:a.eval dd=.slice (some ⟨g,off,none⟩) F I) (hs:a.eval s=.slice (some ⟨g',A,none⟩) n L) (ap:off+n<=ws.length) (an:A+n<=D.length) (ai:n<=F)
 (h:∀w',w.grownBy w' (some g)->w'.ownsRow b 3 1 (.slice (some ⟨g,0,none⟩) ws.length cap) (ma ws off (lj D A n)).length (bw (ma ws off (lj D A n)))->K (a.put o.dst (goInt n)) w'):
 if Region.wanted o (yielded ops a.tmps)=true then Oper.wp prog o a w K Q else E:=by
 have hw:Region.wanted o (yielded ops a.tmps)=true:=by simp [Region.wanted,aj]
 rw [if_pos hw];have G:(lj D A n).length=n:=zuh an;obtain ⟨h1,h2⟩:=Y;rcases h2 with ⟨e,h0⟩ | ⟨g1,ao,N,e,ad,hg,al,af,ah,X⟩
 ·cases e
 cases e;rw [Nat.mul_one]at X ah;have au:ws.length<=N.size:=by omega
 have J:=run_copy_row (P:=prog) w 22 22 o.type 3 g off F I ⟨g',A,none⟩ n L N 3 (bw (lj D A n)) underlying22 (by kernel_rfl) hg (by rw [ui,G];exact (Nat.min_eq_left ai).symm) (by
  intro j v O;rw [bw,List.getElem?_map]at O;cases hx:(lj D A n)[j]? with
  | none=>rw [hx]at O;cases O
  | some x=>
    rw [hx]at O;have O:=ojq O;subst O;have ak:j<n:=by have:=(List.getElem?_eq_some_iff.1 hx).1;omega
    have ac:D[A+j]? =some x:=by unfold lj at hx;rw [List.getElem?_take_of_lt ak,List.getElem?_drop]at hx;exact hx
    have V:A+j<D.length:=by omega
    have:=aa.cellAt (A+j) (by rw [Nat.mul_one];exact V);rw [A8 V]at this;rw [List.getElem?_eq_getElem V]at ac;rw [<-ojq ac];rw [ua];exact this) (by rw [ui,G];omega) (by
  intro v hv;obtain ⟨x,-,rfl⟩:=List.mem_map.1 hv;rfl)
 rw [ui,G]at J;unfold Oper.wp;simp [execOp,ho,resolve,invoke,builtin,hd,hs,J,Result.andThen];have Z:(ma ws off (lj D A n)).length=ws.length:=Cp (by omega);refine h _ ⟨rfl,rfl,rfl,by simp [World.setRow],fun k _ hk=>setRow_other w g k _ (fun e=>hk (by rw [e]))⟩ ?_;rw [Z];refine ⟨by rw [ui,Z];simp,Or.inr ⟨g,cap,_,rfl,ad,setRow_heap w g N _ 3 _ hg,al,af,?_,?_⟩⟩
 ·simp [ui,G];omega
 rw [Nat.mul_one];have:=zvt (l:=lj D A n) (off:=off) X (by omega);rw [G]at this;exact this
theorem zzt (n:Nat):bw (List.replicate n 0)=(madeCells #[Value.int .i64 0] n).toList:=by
 have D:(madeCells #[Value.int .i64 0] n).toList=List.replicate n (Value.int .i64 0):=by rw [List.eq_replicate_iff];refine ⟨by simp [madeCells],fun b A=>?_⟩;simp [madeCells,Nat.mod_one]at A;exact A.2.symm
 rw [D,bw,List.map_replicate]
theorem zzv (d:bd) (h:ar) (A:List bk) (order:List Int) (lo:Int):(ny d h A order lo).ab.length=h.ab.length:=by unfold ny;rw [zwm,zwl,List.length_replicate]
theorem zzy (ts:List bk):∀(p:Int) (k:Nat) (A:k<ts.length),(pa p ts)[k]? =some (ts[k].loc,⟨p+ic (ts.take k),ts[k].tag,ts[k].len,ts[k].hash⟩):=by
 induction ts with
 | nil=>intro p k A;cases A
 | cons x l ih=>
   intro p k A;cases k with
   | zero=>simp [pa,ic]
   | succ k=>
     rw [pa,List.getElem?_cons_succ,ih (p+3+x.len) k (by simpa using A)];have:p+3+x.len+ic (l.take k)=p+ic ((x::l).take (k+1)):=by simp only [ic,List.take_succ_cons,List.map_cons,List.sum_cons];omega
     rw [this];rfl
theorem zzz (ts:List bk):∀p,(pa p ts).map (·.1)=ts.map bk.loc:=by
 induction ts with
 | nil=>intro p;rfl
 | cons x l ih=>intro p;rw [pa,List.map_cons,ih,List.map_cons]
def xr (x:Int):Prop:=(Lit.int .i64 x).wf=true
theorem zz0 {mv:List (Int×bk)} (A:∀x,xr (mg mv x)) (l:List Int):∀ws:List Int,(∀x∈ws,xr x)->∀x∈l.foldl (re mv) ws,xr x:=by
 induction l with
 | nil=>intro ws h;exact h
 | cons a l ih=>
   intro ws h;rw [List.foldl_cons];refine ih _ fun x D=>?_;rcases List.mem_or_eq_of_mem_set D with h1 | h1
   ·exact h x h1
   exact h1 ▸ A _
theorem zz1 {ws l:List Int} {off:Nat} (h1:∀x∈ws,xr x) (D:∀x∈l,xr x):∀x∈ma ws off l,xr x:=by
 intro x A;unfold ma at A;rcases List.mem_append.1 A with h | h
 ·exact h1 x (List.mem_of_mem_take h)
 rcases List.mem_append.1 h with h | h
 ·exact D x h
 exact h1 x (List.mem_of_mem_drop h)
theorem zz2 {ws:List Int} {a n:Nat} (h:∀x∈ws,xr x):∀x∈lj ws a n,xr x:=fun x A=>h x (List.mem_of_mem_drop (List.mem_of_mem_take A))
theorem zz3 {fs:List (List bq)} {mv:List (Int×bk)} {D:List Int} (E:∀x,xr (mg mv x)) (F:∀x∈D,xr x) (l:List (Int×bk)):∀x∈qm fs mv D l,xr x:=by
 have A:∀(l:List (Int×bk)) (ws:List Int),(∀x∈ws,xr x)->∀x∈l.foldl (ue fs mv D) ws,xr x:=by
  intro l;induction l with
  | nil=>intro ws h;exact h
  | cons q l ih=>
    intro ws h;rw [List.foldl_cons];exact ih _ (zz0 E _ _ (zz1 h (zz2 F)))
 exact A l _ fun x G=>by rw [(List.mem_replicate.1 G).2];rfl
theorem zz4 (ts:List bk) (p:Int) (h0:0<=p) (h1:p+ic ts<=1000000) (D:∀t∈ts,0<=t.len) (x:Int):xr (mg (pa p ts) x):=by
 unfold mg;cases hn:ij (pa p ts) x with
 | none=>rfl
 | some y=>
   obtain ⟨q,E,-,rfl⟩:=zut hn;obtain ⟨k,A,e⟩:=List.mem_iff_getElem.1 E;rw [zyz]at A;have:=zzy ts p k A;rw [List.getElem?_eq_getElem (by rw [zyz];exact A),e]at this;have F:=zy3 ts D k A;have:=ojq this;rw [this];have:=D ts[k] (gm _);show xr (p+ic (ts.take k));exact WalkArith.wf_i64 (by omega)
theorem zz5 {mv:List (Int×bk)} {D:DataW Unit} (h:NwD mv D) {v c:Int} (e:D.atKey (jm v) (.lit (.i 0))=.lit (.i c)):c=mg mv v:=by
 unfold mg;cases hn:ij mv v with
 | none=>
   rw [h.no v _ hn]at e;exact ((Lit.int.inj (DataW.lit.inj e)).2).symm
 | some y=>
   rw [h.at_ v y _ hn]at e;exact ((Lit.int.inj (DataW.lit.inj e)).2).symm
theorem zz6 (f:Int->Int) (rs:List Int) (j:Nat) (A:j<rs.length):((rs.take j).map f++rs.drop j)[j]? =some rs[j]:=by
 have e:((rs.take j).map f).length=j:=by rw [List.length_map,List.length_take];omega
 rw [List.getElem?_append_right (by omega),e,Nat.sub_self,List.getElem?_drop,Nat.add_zero,List.getElem?_eq_getElem A]
theorem zz7 (f:Int->Int) (rs:List Int) (j:Nat) (A:j<rs.length):(rs.take (j+1)).map f++rs.drop (j+1)=((rs.take j).map f++rs.drop j).set j (f rs[j]):=by
 have e:((rs.take j).map f).length=j:=by rw [List.length_map,List.length_take];omega
 rw [zy0 rs j A,List.map_append,List.append_assoc,List.set_append_right _ _ (by omega),e,Nat.sub_self,List.drop_eq_getElem_cons A];rfl
theorem nc.roots {b B T:Nat} {w:World} {F E D I N J L O:Value} {h:ar} {rs:List Int} {d:bd} (o:nc b B w T F E D I N J L O h rs d) {w':World} {k:Nat} {rs':List Int} (G:D.ownBlock=some k) (A:w.grownBy w' (some k)) (Y:w'.ownsRow b 3 1 D rs'.length (bw rs')):nc b B w' T F E D I N J L O h rs' d/\Below b w w':=
 have V:b<=k:=(o.rR.lt k G).1;have hi: [some T,F.ownBlock,E.ownBlock,D.ownBlock][3]? =some (some k):=congrArg some G
 ⟨⟨(A.block T (bz o.blk) (fun e=>Ak o.sep (i:=0) (by decide) hi (congrArg some e))).trans o.blk,o.rW.kept A (Or.inr fun e=>Ak o.sep (i:=1) (by decide) hi (congrArg some e)),o.rO.kept A (Or.inr fun e=>Ak o.sep (i:=2) (by decide) hi (congrArg some e)),Y,o.lk.kept ⟨A.size,fun j W X=>A.block j X (by have:=o.le;have:=W;intro e;injection e;omega)⟩,o.le,o.bT,o.sep⟩,(br b w).grown A (by have:=bz o.blk;have:=o.bT;omega) (fun j e=>by cases e;exact V)⟩
theorem nc.newW {b B T:Nat} {w:World} {V F G I N J L O:Value} {h:ar} {rs:List Int} {d:bd} (o:nc b B w T V F G I N J L O h rs d) {w':World} {g cap:Nat} {ws:List Int} {ot:Int} (D:w.grownBy w' (some T)) (W:w'.heap[T]? =some (.cells #[.slice (some ⟨g,0,none⟩) ws.length cap,.i h.ae,.i h.old,.i h.bo,.i ot,F,.i h.next,I,N,J,L,O,G] 131 (0,0)))
 (hw:w'.ownsRow b 3 1 (.slice (some ⟨g,0,none⟩) ws.length cap) ws.length (bw ws)) (Z:T<g/\(∀k,F.ownBlock=some k->k<g)/\(∀k,G.ownBlock=some k->k<g)):nc b B w' T (.slice (some ⟨g,0,none⟩) ws.length cap) F G I N J L O ⟨ws,h.ae,h.old,h.bo,ot,h.am,h.next⟩ rs d/\Below b w w':=by
 have hi: [some T,V.ownBlock,F.ownBlock,G.ownBlock][0]? =some (some T):=rfl;obtain ⟨n1,n2,n3⟩:=Z;refine ⟨⟨W,hw,o.rO.kept D (Or.inr fun e=>pw o.sep (j:=2) (by decide) hi (congrArg some e)),o.rR.kept D (Or.inr fun e=>pw o.sep (j:=3) (by decide) hi (congrArg some e)),o.lk.kept ⟨D.size,fun j X Y=>D.block j Y (by have:=o.le;have:=o.bT;have:=X;intro e;injection e;omega)⟩,o.le,o.bT,?_⟩,(br b w).grown D (by have:=bz o.blk;have:=o.bT;omega) (fun j e=>by cases e;exact o.bT)⟩;have E:=o.sep;unfold si at E ⊢;simp only [List.pairwise_cons,List.mem_cons,List.not_mem_nil,or_false,forall_eq_or_imp,forall_eq,List.Pairwise.nil,and_true,false_implies,implies_true]at E ⊢;exact ⟨⟨fun k e A=>by cases e;cases A;exact Nat.lt_irrefl _ n1,E.1.2.1,E.1.2.2⟩,⟨fun k e A=>by cases e;exact Nat.lt_irrefl _ (n2 _ A),fun k e A=>by cases e;exact Nat.lt_irrefl _ (n3 _ A)⟩,E.2.2⟩
theorem zz8 (w:World) (b B T:Nat) (nW nO nR kC kS kF kN kT:Value) (h:ar) (rs:List Int) (d:bd) (o:nc b B w T nW nO nR kC kS kF kN kT h rs d) (ea:Nat) (v:Value) (ts:List bk) (bi:w.ownsRow ea 101 4 v ts.length (fu ts))
 (h9:h.ab.length<=50000) (he:1<=h.ae/\h.ae+1<=h.ab.length) (bm:∀t∈ts,pm d t/\1<=t.loc/\t.loc+3+t.len<=h.ab.length) (es:(ts.map bk.loc).Nodup) (h8:ts.length<=50000) (g5:h.am.length<=1000000) (hw:h.ae+1+ic ts<=h.ab.length) (h7:rs.length<=1000) (eu:∀x∈rs,(Lit.int .i64 x).wf=true) (e4:∀x∈h.ab,(Lit.int .i64 x).wf=true):
 Calls prog 149 #[.p T,v] w fun r w'=>r=.returned (.tuple #[])/\Below b w w'/\∃nW':Value,nc b B w' T nW' (.nl) nR kC kS kF kN kT (qw ⟨qm d.fields (pa (h.ae+1) ts) h.ab (pa (h.ae+1) ts),h.ae,h.old,h.bo,h.ae+1+ic ts,h.am,h.next⟩) (rs.map (mg (pa (h.ae+1) ts))) d:=by
 have h6:=@run_makeMap prog;obtain ⟨iI,gl,e5,e6,e7⟩:=info_parts jy;obtain ⟨gW,dW,gy,h5⟩:∃gW dW,nW=.slice (some ⟨gW,0,none⟩) h.ab.length dW/\h.ab.length<=dW:=by
  rcases o.rW.2 with ⟨e,h0⟩ | ⟨g,cap,f0,e,-,-,hc,-⟩
  ·omega
  exact ⟨g,cap,e,hc⟩
 subst gy;obtain ⟨aO,cO,gt⟩:=kq o.rO;subst gt;obtain ⟨aR,cR,gv⟩:=kq o.rR;subst gv;obtain ⟨aV,cV,gx⟩:=kq bi;subst gx;obtain ⟨aC,cC,aS,cS,aF,cF,aN,cN,aT,cT,rfl,rfl,rfl,rfl,rfl⟩:=o.lk.agg;have HO:=ag o;have d5:=ag bi;have d8:=ag bm;have fr:=ag es;have cv:Hid (∀k,(hk:k<ts.length)->0<=ic (ts.take k)/\ic (ts.take k)+(3+ts[k].len)<=ic ts):=fun k hk=>zy3 ts (fun t ht=>(bm t ht).1.lo) k hk;have hst:0<=ic ts:=by
  cases hk:ts with
  | nil=>exact Int.le_refl _
  | cons x l=>have:=cv.o 0 (by rw [hk];simp);have:=(bm (ts[0]'(by rw [hk];simp)) (gm _)).1.lo;rw [<-hk];omega
 have cy:=ag (And.intro eu e4);have d2:Hid (∀x,xr (mg (pa (h.ae+1) ts) x)):=fun x=>zz4 ts (h.ae+1) (by omega) (by omega) (fun t ht=>(bm t ht).1.lo) x;have lT:=bz o.blk;have h4:=o.bT;have t1:=bp o.blk 1 (x:=.i h.ae) rfl;have w1:IntKind.i64.wrap (h.ae+1)=h.ae+1:=by rw [IntKind.wrap_i64];omega
 obtain ⟨W0,a8⟩:∃W0,W0=w.alloc (.map #[] 0):=⟨_,rfl⟩;have ee:Bl w W0:=a8 ▸ (br _ _).alloc (nlq _) _;have eo:js W0 w.heap.size []:=⟨.map [],by rw [a8];exact World.ownsMap_made _ _ _ _,zvp⟩;have ex:W0.heap.size=w.heap.size+1:=by rw [a8];simp
 have fa:=ag a8;have cp:=ag (And.intro eo (And.intro ee ex));clear o bi bm es eu e4 a8 ee eo ex;go_enter func149,ntmps149;go_wp2_with fail;rw [<-fa.o];go_loopw [4,7,26] (fun A _ i wr=>∃k:Nat,A=.i (h.ae+1+ic (ts.take k))/\i=.i (k:Int)/\k<=ts.length/\Hid (js wr w.heap.size (pa (h.ae+1) (ts.take k))/\Bl w wr/\w.heap.size<wr.heap.size)) (fun _ _ i _=>ts.length - (intOf i).toNat)
 case atStart=>exact ⟨0,by simp [ic],rfl,n0q _,cp.o.1,cp.o.2.1,by have:=cp.o.2.2;omega⟩
 case round=>
  obtain ⟨k,rfl,rfl,hk,HI⟩:=hrel;by_cases ah:k<ts.length
  ·have bh:(k:Int)<(ts.length:Int):=by omega
   obtain ⟨t,ht⟩:∃t,ts[k]=t:=⟨_,rfl⟩;have hT:=d8.o ts[k] (gm _);have bl:=cv.o k ah;obtain ⟨hn,L,I⟩:=HI.o;obtain ⟨gV,off,rfl,lV,q0,q1,q2,q3⟩:=(zhw (mf d5.o L) (by omega)).atTh k ah;have b7:=zy1 ts (h.ae+1) k ah;have cj:ic (ts.take (k+1))=ic (ts.take k)+(3+ts[k].len):=by rw [zy0 ts k ah,zyx]
   rw [ht]at hT bl q0 q1 q2 q3 b7 cj;obtain ⟨ff,ek,el⟩:=hT;have gg:=ff.lo;obtain ⟨A,ac⟩:∃A,h.ae+1+ic (ts.take k)=A:=⟨_,rfl⟩;have ck:h.ae+1+ic (ts.take (k+1))=A+(3+t.len):=by omega
   rw [ac]at b7;have hd:0<=A/\A+(3+t.len)<=50000:=by omega
   obtain ⟨W1,ak⟩:∃W1,W1=wr.alloc (.cells #[.i t.loc,.i t.tag,.i t.len,.i t.hash] 101):=⟨_,rfl⟩;have af:Bl wr W1:=ak ▸ (br _ _).alloc (nlq _) _;have bv:W1.heap[wr.heap.size]? =some (.cells #[.i t.loc,.i t.tag,.i t.len,.i t.hash] 101 (0,0)):=ak ▸ heap_alloc_new wr _;obtain ⟨D,E,hD⟩:=hn.below af I;have J:keyOf prog 3 (.i t.loc)=some (jm t.loc):=keyOf_int_mk underlying3 (WalkArith.wf_i64 (by omega));have c8:(pa (h.ae+1) (ts.take k)).length<=50000:=by rw [zyz,List.length_take];omega
   obtain ⟨w2,aw,aa,ai⟩:=World.ownsMap.update (w:=W1) E qc underlying194 (by unfold maxLen;omega) J (plainElem_int (H:=Unit) underlying3 (a:=A) (WalkArith.wf_i64 (by omega)));have et:js w2 w.heap.size (pa (h.ae+1) (ts.take (k+1))):=by rw [b7];exact ⟨_,by rw [List.length_append];exact aa,zvq hD (E.tidy qc) (t.loc,(⟨A,t.tag,t.len,t.hash⟩:bk))⟩
   have a6:=(ai.block wr.heap.size (bz bv) (fun e=>by have:=ojq e;omega)).trans bv;have an:Bl w w2:=(L.trans (af.mono (by omega))).grown ai (by have:=L.size;have:=af.size;omega) (fun j e=>by cases e;exact nlq _);have ce:w.heap.size<w2.heap.size:=by have:=ai.size;have:=af.size;omega
   have u0:=bp bv 0 (x:=.i t.loc) rfl;have v0:=bp a6 0 (x:=.i t.loc) rfl;have v1:=bp a6 1 (x:=.i t.tag) rfl;have v2:=bp a6 2 (x:=.i t.len) rfl;have v3:=bp a6 3 (x:=.i t.hash) rfl;have ix:=bz bv;have i0:=bz a6;have cx:=ag (zyj w2 t (by unfold small;omega) (by unfold small;omega));have i1:IntKind.i64.wrap (A+(3+t.len))=A+(3+t.len):=by rw [IntKind.wrap_i64];omega
   have i2:IntKind.i64.wrap ((k:Int)+1)=(k:Int)+1:=by rw [IntKind.wrap_i64];omega
   have cn:=ag ak;have a1:=ag (And.intro et (And.intro an ce));have ft:=ag ck;unfold nb at cx;rw [ac];clear hn L I b7 cj ff ek el bl ak af bv E hD J c8 aa ai et a6 an ce ac ck ht HI;go_wp2_with fail;rw [<-cn.o];go_wp2_with fail;rw [aw];go_wp2_with fail;refine cx.o.mono ?_;rintro r w3 ⟨rfl,b4⟩;have fo:Hid (js w3 w.heap.size (pa (h.ae+1) (ts.take (k+1)))/\Bl w w3/\w.heap.size<w3.heap.size):=⟨a1.o.1.below b4 a1.o.2.2,a1.o.2.1.trans (b4.mono (Nat.le_of_lt a1.o.2.2)),ll3 a1.o.2.2 b4.size⟩;clear b4 cx a1;go_wp2_with fail;go_roundw
   case rel=>exact ⟨k+1,by rw [ft.o],by simp,ah,fo⟩
   case measure=>simp [intOf];omega
  have bh:(ts.length:Int)<=(k:Int):=by omega
  have c6:k=ts.length:=by omega
  subst c6;rw [List.take_length]at HI ⊢;obtain ⟨hn,L,I⟩:=HI.o;have G:=(L.block T lT).trans HO.o.blk;have a0:=bp G 0 (x:=.slice (some ⟨gW,0,none⟩) h.ab.length dW) rfl;have hg:=bz G;have bx:Hid (iI.bytes*h.ab.length<=281474976710656/\h.ab.length<=maxLen/\w.heap.size<=wr.heap.size):=⟨by rw [e7];omega,by unfold maxLen;omega,by omega⟩;clear hn L I G t1;go_wp2_with (refine wpList_make_full _ rfl _ _ 22 rfl w.heap.size 3 iI (.i 0) 1 underlying22 gl e5 e6 .i64 .i64 (h.ab.length:Int) (h.ab.length:Int) h.ab.length rfl rfl rfl rfl bx.o.1 bx.o.2.1 bx.o.2.2 ?_);intro w1 E a5;obtain ⟨hn,L,I⟩:=HI.o;rw [<-zzt]at E;have af:Bl wr w1:=⟨a5.os,a5.tape,a5.output,a5.size,fun j hj=>a5.block j hj (by simp)⟩;obtain ⟨F,b6⟩:∃F,F=wr.heap.size:=⟨_,rfl⟩;have h3:w.heap.size<F:=by omega
  obtain ⟨mv,c9⟩:∃mv,mv=pa (h.ae+1) ts:=⟨_,rfl⟩;have az:=ag c9;rw [<-c9]at hn;have fj:Hid (w1.ownsRow w.heap.size 3 1 (.slice (some ⟨F,0,none⟩) h.ab.length h.ab.length) h.ab.length (bw (List.replicate h.ab.length 0))/\js w1 w.heap.size mv/\Bl w w1/\F<w1.heap.size):=⟨by rw [b6];exact E,hn.below af (by omega),L.trans (af.mono (by omega)),by rw [b6];exact (E.lt _ rfl).2⟩;rw [<-b6];clear hn L I E a5 af HI bx c9;clear b6;go_wp2_with fail;go_loopw [10,11,13,49] (fun _ _ _ i wq=>∃k:Nat,i=.i (k:Int)/\k<=ts.length/\Hid (wq.ownsRow w.heap.size 3 1 (.slice (some ⟨F,0,none⟩) h.ab.length h.ab.length) h.ab.length (bw (qm d.fields mv h.ab (mv.take k)))/\js wq w.heap.size mv/\Bl w wq/\F<wq.heap.size)) (fun _ _ _ i _=>ts.length - (intOf i).toNat)
  case atStart=>exact ⟨0,rfl,n0q _,fj⟩
  case round=>
   obtain ⟨k,rfl,hk,HI⟩:=hrel;by_cases ah:k<ts.length
   ·have bh:(k:Int)<(ts.length:Int):=by omega
    obtain ⟨t,ht⟩:∃t,ts[k]=t:=⟨_,rfl⟩;have hT:=d8.o ts[k] (gm _);have bl:=cv.o k ah;obtain ⟨E,hn,L,I⟩:=HI.o;obtain ⟨gV,off,rfl,lV,q0,q1,q2,q3⟩:=(zhw (mf d5.o L) (by omega)).atTh k ah;have al:=zzy ts (h.ae+1) k ah;rw [<-az.o]at al;rw [ht]at hT bl q0 q1 q2 q3 al;obtain ⟨ff,ek,el⟩:=hT;have gg:=ff.lo;obtain ⟨A,ac⟩:∃A,h.ae+1+ic (ts.take k)=A:=⟨_,rfl⟩;rw [ac]at al;have hd:1<=A/\A+(3+t.len)<=h.ab.length:=by omega
    have gs:k<mv.length:=(List.getElem?_eq_some_iff.1 al).1;have en:mv.take (k+1)=mv.take k++ [(t.loc,(⟨A,t.tag,t.len,t.hash⟩:bk))]:=by rw [List.take_add_one,al];rfl
    have ci:ij mv t.loc=some A:=zus (List.mem_of_getElem? al) (by rw [az.o,zzz];exact fr.o);have de:qm d.fields mv h.ab (mv.take (k+1))=(refsOf d.fields ⟨A,t.tag,t.len,t.hash⟩).foldl (re mv) (ma (qm d.fields mv h.ab (mv.take k)) A.toNat (lj h.ab t.loc.toNat (t.len+3).toNat)):=by rw [en,qm,List.foldl_append];rfl
    obtain ⟨ws,ap⟩:∃ws,qm d.fields mv h.ab (mv.take k)=ws:=⟨_,rfl⟩;rw [ap]at E de;have bu:ws.length=h.ab.length:=by have:=E.1;rw [ui,Nat.mul_one]at this;exact this
    obtain ⟨W1,ak,b2,g6,kx,ky⟩:=ro wr #[.i t.loc,.i t.tag,.i t.len,.i t.hash] #[.i t.loc,.i t.tag,.i t.len,.i t.hash] 101 101;obtain ⟨D,O,hD⟩:=hn.below b2 (by omega);have J:keyOf prog 3 (.i t.loc)=some (jm t.loc):=keyOf_int_mk underlying3 (WalkArith.wf_i64 (by omega));obtain ⟨W2,a9⟩:∃W2,W2=W1.setCell ⟨wr.heap.size+1,0,none⟩ (.i A):=⟨_,rfl⟩;have ai:W1.grownBy W2 (some (wr.heap.size+1)):=a9 ▸ ow (World.grownBy.refl _ _) _ _ (Or.inl rfl);have cf:W2.heap[wr.heap.size+1]? =some (.cells #[.i A,.i t.tag,.i t.len,.i t.hash] 101 (0,0)):=a9 ▸ rr ky _;have au:=(ai.block wr.heap.size (bz kx) (fun e=>by have:=ojq e;omega)).trans kx;have an:Bl wr W2:=b2.grown ai b2.size (fun j e=>by cases e;omega);have bb:Bl w W2:=L.trans (an.mono (by omega));have aa:W2.ownsRow w.heap.size 3 1 (.slice (some ⟨F,0,none⟩) h.ab.length h.ab.length) h.ab.length (bw ws):=mf E an;have eq:js W2 w.heap.size mv:=hn.below an (by omega);have dl:=(bb.block T lT).trans HO.o.blk;have f1:=bp kx 0 (x:=.i t.loc) rfl;have f2:=bp kx 1 (x:=.i t.tag) rfl;have f3:=bp kx 2 (x:=.i t.len) rfl;have f4:=bp kx 3 (x:=.i t.hash) rfl;have f5:=bp ky 0 (x:=.i t.loc) rfl;have f6:=pj ky 0;have lx:=bz kx;have ly:=bz ky;have cn:=ag ak;have fe:=ag a9;have HN:=ag ci;have HD:=ag hD;have HK:=ag J;have H2:=ag (And.intro aa (And.intro eq bb));have cs:=ag de;have fv:Hid (∀x∈ws,xr x):=by show ∀x∈ws,xr x;rw [<-ap];exact zz3 (by rw [az.o];exact d2.o) cy.o.2 _
    have dz:=ag (And.intro au cf);have b1:=ag ff;have ct:Hid (W2.heap.size=wr.heap.size+2/\F<wr.heap.size):=⟨by rw [a9,World.size_setCell];omega,I⟩;have d0:Hid (∀W,Calls prog 72 #[.agg #[.i t.loc,.i t.tag,.i t.len,.i t.hash]] W fun r w'=>r=.returned (.i (t.loc+3+t.len))/\Bl W w'):=fun W=>Ei W t (by unfold small;omega) (by unfold small;omega);have r3:∀V,(Instr.slice 22 (.slice (some ⟨F,0,none⟩) h.ab.length h.ab.length) (some (.i A)) none none).run prog V=.ok (.slice (some ⟨F,A.toNat,none⟩) (h.ab.length - A.toNat) (h.ab.length - A.toNat)) V:=fun V=>by rw [run_slice_l V 22 _ _ _ underlying22 .i64 A (by omega) (by omega)];show Result.ok (sliced (some ⟨F,0,none⟩) A.toNat h.ab.length h.ab.length 1) V=_;unfold sliced;rw [if_neg (by omega),Option.map_some,ua,Nat.mul_one,Nat.zero_add]
    have hs:∀V,(Instr.slice 22 (.slice (some ⟨gW,0,none⟩) h.ab.length dW) (some (.i t.loc)) (some (.i (t.loc+3+t.len))) none).run prog V=.ok (.slice (some ⟨gW,t.loc.toNat,none⟩) (t.len+3).toNat (dW - t.loc.toNat)) V:=fun V=>by rw [run_slice_lh V 22 _ _ _ underlying22 .i64 .i64 t.loc (t.loc+3+t.len) (by omega) (by omega) (by omega)];show Result.ok (sliced (some ⟨gW,0,none⟩) t.loc.toNat (t.loc+3+t.len).toNat dW 1) V=_;unfold sliced;rw [if_neg (by omega),Option.map_some,ua,Nat.mul_one,Nat.zero_add,show (t.loc+3+t.len).toNat - t.loc.toNat=(t.len+3).toNat by omega]
    have nT:¬T=F:=by omega
    have nP:¬wr.heap.size=F:=by have:=ct.o.2;omega
    have nQ:¬wr.heap.size+1=F:=by have:=ct.o.2;omega
    have g0:=bp au 0 (x:=.i t.loc) rfl;have g1:=bp au 1 (x:=.i t.tag) rfl;have g2:=bp au 2 (x:=.i t.len) rfl;have g3:=bp au 3 (x:=.i t.hash) rfl;have y0:=bp cf 0 (x:=.i A) rfl;have a2:=bp dl 0 (x:=.slice (some ⟨gW,0,none⟩) h.ab.length dW) rfl;have hm:=bz au;have hr:=bz cf;have hh:=bz dl;clear bl E hn L I al ff ac gs en ci de ap ak b2 g6 kx ky hD J a9 ai cf au an bb aa eq dl HI ht a0 hg;go_wp2_with (at_lookup;rw [<-cn.o];refine wpList_lookup_own_int _ rfl _ _ 194 rfl 3 3 .i64 qc underlying194 underlying3 (ve _) w.heap.size mv.length D rfl O _ _ rfl HK.o ?_);intro c N dg;have bc:c=A:=by have e:=N;rw [HD.o.at_ t.loc A _ HN.o]at e;exact ((Lit.int.inj (DataW.lit.inj e)).2).symm
    rw [bc];clear bc N dg O;go_wp2_with fail;rw [<-fe.o];refine wp_region_held_drew (S:=fun W'=>∀p:Addr,p.block<W2.heap.size->p.block≠F->W'.cell? p=W2.cell? p) (by kernel_rfl) (fun p hp _=>rfl) fun G=>?_;refine ta 0 (.slice (some ⟨F,0,none⟩) h.ab.length h.ab.length) rfl G ?_;refine ta 1 (.p (wr.heap.size+1)) rfl G ?_;refine ta 2 (.i A) rfl G ?_;refine ta 3 (.slice (some ⟨F,A.toNat,none⟩) (h.ab.length - A.toNat) (h.ab.length - A.toNat)) rfl G ?_;refine ta 4 (.p T) rfl G ?_;refine ta 5 (.p T) rfl G ?_;refine ta 6 (.p T) rfl G ?_;refine ta 7 (.p T) rfl G ?_;refine ta 8 (.p T) rfl G ?_;refine ta 9 (.slice (some ⟨gW,0,none⟩) h.ab.length dW) rfl G ?_;refine ta 10 (.p wr.heap.size) rfl G ?_;refine ta 11 (.i t.loc) rfl G ?_;refine ta 12 (.agg #[.i t.loc,.i t.tag,.i t.len,.i t.hash]) rfl G ?_;refine wpAnyH_ready (rs:=[13]) (by kernel_rfl) (by simp) ?_;refine AllReadyH.cons rfl (fun hz ef=>?_) AllReadyH.nil;go_simp;refine (d0.o _).mono ?_;rintro r w5 ⟨rfl,b5⟩;have X:Bl W2 w5:=(br W2.heap.size W2).drew.trans b5;refine ef.o _ _ (fun p hp _=>X.cell hp) fun G=>?_;refine ta 14 (.slice (some ⟨gW,t.loc.toNat,none⟩) (t.len+3).toNat (dW - t.loc.toNat)) rfl G ?_;refine wpAnyH_ready (rs:=[15]) (by kernel_rfl) (by simp) ?_;refine AllReadyH.cons rfl (fun h2 eg=>?_) AllReadyH.nil;have av:Bl w w5:=H2.o.2.2.trans (X.mono H2.o.2.2.size);have o5:=mf H2.o.1 X;have s5:=mf HO.o.rW av;refine zy4 rfl (.tmp 62) (.tmp 73) rfl w.heap.size F A.toNat t.loc.toNat (t.len+3).toNat (h.ab.length - A.toNat) (h.ab.length - A.toNat) (dW - t.loc.toNat) h.ab.length ws b gW dW h.ab s5 (by rw [bu];exact o5) rfl rfl (by omega) (by omega) (by omega) ?_;intro w4 a4 ca;refine eg.o _ _ (fun p hp g4=>(World.cell?_of_block (a:=p) (a4.block p.block (ll3 hp X.size) (fun e=>g4 (ojq e)))).trans (X.cell hp)) fun G=>?_;refine wpAnyH_done (by kernel_rfl) ?_ _;clear G;try simp only [Act.put,p1q,p4q,p3q,p2q,p5q,p6q]
    have cc:(ma ws A.toNat (lj h.ab t.loc.toNat (t.len+3).toNat)).length=h.ab.length:=by rw [Cp (by rw [zuh (by omega)];omega),bu]
    obtain ⟨Y,ay⟩:∃Y,Y=ma ws A.toNat (lj h.ab t.loc.toNat (t.len+3).toNat):=⟨_,rfl⟩;have cl:∀x∈Y,xr x:=ay ▸ zz1 fv.o (zz2 cy.o.2);rw [<-ay]at ca cc;rw [cc,bu]at ca;have g8:=a4.size;have g9:=X.size;have ce:=ct.o;have c1:Bl w w4:=av.grown a4 av.size (fun j e=>by cases e;omega);have er:js w4 w.heap.size mv:=(H2.o.2.1.below X (by omega)).kept a4 (fun e=>by have:=ojq e;omega);have a7:=(a4.block (wr.heap.size+1) (by omega) (fun e=>by have:=ojq e;omega)).trans ((X.block _ (by omega)).trans dz.o.2);have ds:=(c1.block T lT).trans HO.o.blk;have d3:Hid (∀V,Bl w V->Calls prog 178 #[.p T,.agg #[.i A,.i t.tag,.i t.len,.i t.hash]] V fun r w'=>Bl V w'/\∃v,r=.returned v/\w'.ownsRow V.heap.size 3 1 v (refsOf d.fields ⟨A,t.tag,t.len,t.hash⟩).length (bw (refsOf d.fields ⟨A,t.tag,t.len,t.hash⟩))):=fun V hV=>zht V _ T _ _ _ _ _ _ _ h d ((HO.o.below hV).gd (by omega) g5) ⟨A,t.tag,t.len,t.hash⟩ ⟨b1.o.tag,b1.o.lo,b1.o.hi,⟨by show 0<=A;omega,by show A<=1000000;omega⟩⟩ ⟨by show 0<=A;omega,by show A<=100000;omega⟩ (by show t.len<=100000;omega);have d4:Hid (∀a∈refsOf d.fields ⟨A,t.tag,t.len,t.hash⟩,A+3<=a/\a<A+3+t.len):=fun a ha=>zh2 d.fields ⟨A,t.tag,t.len,t.hash⟩ ha;have hv:(refsOf d.fields ⟨A,t.tag,t.len,t.hash⟩).length<=100000:=lt3 (Ek d.fields ⟨A,t.tag,t.len,t.hash⟩ t.len.toNat) (by omega);rw [<-ay]at cs;generalize refsOf d.fields ⟨A,t.tag,t.len,t.hash⟩=rf at*;have cm:=ag c1;have H4:=ag (And.intro ca (And.intro er (And.intro cl (And.intro (show F<w4.heap.size by omega) cc))));have z0:=bp a7 0 (x:=.i A) rfl;have z1:=bp a7 1 (x:=.i t.tag) rfl;have z2:=bp a7 2 (x:=.i t.len) rfl;have z3:=bp a7 3 (x:=.i t.hash) rfl;have b0:=bp ds 0 (x:=.slice (some ⟨gW,0,none⟩) h.ab.length dW) rfl;have lz:=bz a7;have hl:=bz ds;clear g0 g1 g2 g3 y0 a2 hm hr hh f1 f2 f3 f4 f5 f6 lx ly cc cl g8 g9 ce c1 er a7 ds ca a4 X b5 av o5 s5 r3 hs d0 dz b1 H2 nT nP nQ q0 q1 q2 q3 ay;go_wp2_with fail;refine wp_region_held_drew (S:=fun W'=>∀p:Addr,p.block<w4.heap.size->W'.cell? p=w4.cell? p) (by kernel_rfl) (fun p hp=>rfl) fun G=>?_;refine ta 0 (.p T) rfl G ?_;refine ta 1 (.p T) rfl G ?_;refine ta 2 (.p T) rfl G ?_;refine ta 3 (.agg #[.i A,.i t.tag,.i t.len,.i t.hash]) rfl G ?_;refine ta 6 (.i 0) rfl G ?_;refine wpAnyH_ready (rs:=[4]) (by kernel_rfl) (by simp) ?_;refine AllReadyH.cons rfl (fun K4 f7=>?_) AllReadyH.nil;go_simp;refine (d3.o _ cm.o.drew).mono ?_;rintro r w6 ⟨X,vq,rfl,df⟩;obtain ⟨aQ,cQ,rfl⟩:=kq df;have a3:Bl w4 w6:=(br w4.heap.size w4).drew.trans X;refine f7.o _ _ (fun p hp=>a3.cell hp) fun G=>?_;refine ta 5 (.i (rf.length:Int)) rfl G ?_;refine wpAnyH_done (by kernel_rfl) ?_ _;clear G;try simp only [Act.put,p1q,p4q,p3q,p2q,p5q,p6q]
    have du:Hid (Bl w w6):=cm.o.trans (a3.mono cm.o.size);have H6:Hid (w6.ownsRow w.heap.size 3 1 (.slice (some ⟨F,0,none⟩) h.ab.length h.ab.length) h.ab.length (bw Y)/\js w6 w.heap.size mv):=⟨mf H4.o.1 a3,H4.o.2.1.below a3 (by have:=H4.o.2.2.2.1;omega)⟩;have d6:=ag df;have cu:Hid (F<w4.heap.size/\w4.heap.size<=w6.heap.size):=⟨H4.o.2.2.2.1,a3.size⟩;clear X a3 df z0 z1 z2 z3 b0 lz hl d3;go_wp2_with fail;go_loopw [13,81] (fun _ i wq=>∃j:Nat,i=.i (j:Int)/\j<=rf.length/\Hid (wq.ownsRow w.heap.size 3 1 (.slice (some ⟨F,0,none⟩) h.ab.length h.ab.length) h.ab.length (bw ((rf.take j).foldl (re mv) Y))/\js wq w.heap.size mv/\Bl w wq/\wq.ownsRow w4.heap.size 3 1 (.slice aQ rf.length cQ) rf.length (bw rf)/\w4.heap.size<=wq.heap.size)) (fun _ i _=>rf.length - (intOf i).toNat)
    case atStart=>exact ⟨0,rfl,n0q _,H6.o.1,H6.o.2,du.o,d6.o,cu.o.2⟩
    case round=>
     obtain ⟨j,rfl,hj,HJ⟩:=hrel;by_cases be:j<rf.length
     ·have bf:(j:Int)<(rf.length:Int):=by omega
      obtain ⟨ho,hn,L,hq,ey⟩:=HJ.o;obtain ⟨gQ,off,rfl,lQ,e0⟩:=(ru hq (by omega)).atI j be;have ej:=d4.o rf[j] (gm _);obtain ⟨a,ha⟩:∃a:Nat,rf[j]=(a:Int):=⟨rf[j].toNat,by omega⟩;rw [ha]at ej e0;have ao:(rf.take (j+1)).foldl (re mv) Y=re mv ((rf.take j).foldl (re mv) Y) (a:Int):=by rw [zy0 rf j be,List.foldl_append,ha];rfl
      have bn:=zz0 (mv:=mv) (by rw [az.o];exact d2.o) (rf.take j) Y H4.o.2.2.1;have em:((rf.take j).foldl (re mv) Y).length=h.ab.length:=by rw [zy2];exact H4.o.2.2.2.2
      obtain ⟨wj,ez⟩:∃wj,(rf.take j).foldl (re mv) Y=wj:=⟨_,rfl⟩;rw [ez]at ao bn em ho;have eh:a<wj.length:=by omega
      have xv:=(ho.cellAt a (by rw [Nat.mul_one];omega)).trans (A8 eh);have xz:=ho.frozenAt a;have xl:=(ho.lt F rfl).2;obtain ⟨D,O,hD⟩:=hn;have J:keyOf prog 3 (.i wj[a])=some (jm wj[a]):=keyOf_int_mk underlying3 (bn wj[a] (gm _));have c3:(rf.take (j+1)).foldl (re mv) Y=wj.set a (mg mv wj[a]):=by rw [ao,re,pi eh,Int.toNat_natCast]
      obtain ⟨x,hx⟩:∃x,wj[a]=x:=⟨_,rfl⟩;rw [hx]at xv J c3;obtain ⟨W3,ad⟩:∃W3,W3=wr.setCell ⟨F,a,none⟩ (.i (mg mv x)):=⟨_,rfl⟩;have Z:wr.grownBy W3 (some F):=ad ▸ ow (World.grownBy.refl _ _) _ _ (Or.inl rfl);have g7:=cu.o;have cr:Hid (W3.ownsRow w.heap.size 3 1 (.slice (some ⟨F,0,none⟩) h.ab.length h.ab.length) h.ab.length (bw ((rf.take (j+1)).foldl (re mv) Y))/\js W3 w.heap.size mv/\Bl w W3/\W3.ownsRow w4.heap.size 3 1 (.slice (some ⟨gQ,off,none⟩) rf.length cQ) rf.length (bw rf)/\w4.heap.size<=W3.heap.size):=by refine ⟨?_,HJ.o.2.1.kept Z (fun e=>by have:=ojq e;omega),L.grown Z L.size (fun j e=>by cases e;omega),hq.kept Z (Or.inr fun e=>by have:=(hq.lt _ e).1;omega),lt3 ey Z.size⟩;rw [c3,bw,List.map_set,ad];exact A7 ho a _
      have co:=ag ad;have HD:=ag hD;have HK:=ag J;have i4:IntKind.i64.wrap ((j:Int)+1)=(j:Int)+1:=by rw [IntKind.wrap_i64];omega
      have hu:(a:Int)<(h.ab.length:Int):=by omega
      clear ho L hq ey ej ha ao bn em ez hD J c3 hx ad Z g7 HJ;go_wp2_with (at_lookup;refine wpList_lookup_own_int _ rfl _ _ 194 rfl 3 3 .i64 qc underlying194 underlying3 (ve _) w.heap.size mv.length D rfl O _ _ rfl HK.o ?_);intro c N dg;have bc:=zz5 HD.o N;rw [bc];clear bc N dg O;go_wp2_with fail;rw [<-co.o];go_roundw
      case rel=>exact ⟨j+1,by go_num,by omega,cr⟩
      case measure=>simp [intOf];omega
     have bf:(rf.length:Int)<=(j:Int):=by omega
     have c5:j=rf.length:=by omega
     subst c5;rw [List.take_length]at HJ;rw [<-cs.o]at HJ;have i3:IntKind.i64.wrap ((k:Int)+1)=(k:Int)+1:=by rw [IntKind.wrap_i64];omega
     have fk:Hid (wr.ownsRow w.heap.size 3 1 (.slice (some ⟨F,0,none⟩) h.ab.length h.ab.length) h.ab.length (bw (qm d.fields mv h.ab (mv.take (k+1))))/\js wr w.heap.size mv/\Bl w wr/\F<wr.heap.size):=⟨HJ.o.1,HJ.o.2.1,HJ.o.2.2.1,by have:=cu.o;have:=HJ.o.2.2.2.2;omega⟩;clear HJ H4 d4 d6 du H6 cs;go_wp2_with fail;go_roundw
     case rel=>exact ⟨k+1,by go_num,by omega,fk⟩
     case measure=>simp [intOf];omega
   have bh:(ts.length:Int)<=(k:Int):=by omega
   have c6:k=ts.length:=by omega
   subst c6;have c8:mv.length=ts.length:=by rw [az.o,zyz]
   rw [List.take_of_length_le (by omega:mv.length<=ts.length)]at HI;obtain ⟨E,hn,L,I⟩:=HI.o;obtain ⟨ws,ap⟩:∃ws,qm d.fields mv h.ab mv=ws:=⟨_,rfl⟩;rw [ap]at E;have fz:=ag ap;have oT:=HO.o.below L;have eb:=bp oT.blk 12 (x:=.slice aR rs.length cR) rfl;have e8:=bz oT.blk;have fl:Hid (nc b B wr T (.slice (some ⟨gW,0,none⟩) h.ab.length dW) (.slice aO h.am.length cO) (.slice aR rs.length cR) (.slice aC d.aj.length cC) (.slice aS d.bg.length cS) (.slice aF d.fields.length cF) (.slice aN d.names.length cN) (.slice aT d.ax.length cT) h rs d/\wr.ownsRow w.heap.size 3 1 (.slice (some ⟨F,0,none⟩) h.ab.length h.ab.length) h.ab.length (bw ws)/\js wr w.heap.size mv/\Below b w wr/\F<wr.heap.size):=⟨oT,E,hn,L.mono (by omega),I⟩;clear E hn L I ap oT HI c8;go_wp2_with fail;go_loopw [14,15,101] (fun _ _ i wq=>∃j:Nat,i=.i (j:Int)/\j<=rs.length/\Hid (nc b B wq T (.slice (some ⟨gW,0,none⟩) h.ab.length dW) (.slice aO h.am.length cO) (.slice aR rs.length cR) (.slice aC d.aj.length cC) (.slice aS d.bg.length cS) (.slice aF d.fields.length cF) (.slice aN d.names.length cN) (.slice aT d.ax.length cT) h ((rs.take j).map (mg mv)++rs.drop j) d/\wq.ownsRow w.heap.size 3 1 (.slice (some ⟨F,0,none⟩) h.ab.length h.ab.length) h.ab.length (bw ws)/\js wq w.heap.size mv/\Below b w wq/\F<wq.heap.size)) (fun _ _ i _=>rs.length - (intOf i).toNat)
   case atStart=>exact ⟨0,rfl,n0q _,fl⟩
   case round=>
    obtain ⟨j,rfl,hj,HJ⟩:=hrel;by_cases be:j<rs.length
    ·have bf:(j:Int)<(rs.length:Int):=by omega
     obtain ⟨o4,E,hn,L,I⟩:=HJ.o;have c7:((rs.take j).map (mg mv)++rs.drop j).length=rs.length:=by simp;omega
     have hR:=o4.rR;obtain ⟨gR,gb⟩:∃gR,aR=some ⟨gR,0,none⟩:=by
      rcases hR.2 with ⟨-,h0⟩ | ⟨g,cap,f0,e,-⟩
      ·omega
      injection e with e1 e2 e3;exact ⟨g,e1⟩
     subst gb;rw [c7]at hR;have xv:=(hR.cellAt j (by rw [Nat.mul_one];omega)).trans (A8 (by omega:j<((rs.take j).map (mg mv)++rs.drop j).length));rw [show ((rs.take j).map (mg mv)++rs.drop j)[j]'(by omega)=rs[j] from ojq ((List.getElem?_eq_getElem (by omega)).symm.trans (zz6 (mg mv) rs j be))]at xv;have dk:=cy.o.1 rs[j] (gm _);have dd:=zz7 (mg mv) rs j be;obtain ⟨x,hx⟩:∃x,rs[j]=x:=⟨_,rfl⟩;rw [hx]at xv dk dd;have xz:=hR.frozenAt j;have xl:=(hR.lt gR rfl).2;obtain ⟨D,O,hD⟩:=hn.below (br _ wr).drew (by omega);obtain ⟨c,aw,N,-⟩:=O.lookup_int qc underlying194 underlying3 (ve _) (keyOf_int_mk underlying3 dk);rw [zz5 hD N]at aw;have ec:=bp o4.blk 12 (x:=.slice (some ⟨gR,0,none⟩) rs.length cR) rfl;have ih:=bz o4.blk;obtain ⟨W3,ad⟩:∃W3,W3=wr.setCell ⟨gR,j,none⟩ (.i (mg mv x)):=⟨_,rfl⟩;have Z:wr.grownBy W3 (some gR):=ad ▸ ow (World.grownBy.refl _ _) _ _ (Or.inl rfl);have gk:gR<w.heap.size:=(HO.o.rR.lt gR rfl).2;have cr:Hid (nc b B W3.drew T (.slice (some ⟨gW,0,none⟩) h.ab.length dW) (.slice aO h.am.length cO) (.slice (some ⟨gR,0,none⟩) rs.length cR) (.slice aC d.aj.length cC) (.slice aS d.bg.length cS) (.slice aF d.fields.length cF) (.slice aN d.names.length cN) (.slice aT d.ax.length cT) h ((rs.take (j+1)).map (mg mv)++rs.drop (j+1)) d/\W3.drew.ownsRow w.heap.size 3 1 (.slice (some ⟨F,0,none⟩) h.ab.length h.ab.length) h.ab.length (bw ws)/\js W3.drew w.heap.size mv/\Below b w W3.drew/\F<W3.drew.heap.size):=by
      obtain ⟨o5,b5⟩:=o4.roots (k:=gR) (rs':=(rs.take (j+1)).map (mg mv)++rs.drop (j+1)) rfl Z (by
       rw [dd,List.length_set,c7,bw,List.map_set,ad];exact A7 hR j _)
      have hf:=Z.size;exact ⟨o5.below (br _ _).drew,mf (E.kept Z (Or.inr fun e=>by have e':F=gR:=ojq e;omega)) (br _ _).drew,(hn.kept Z (fun e=>by have:=ojq e;omega)).below (br W3.heap.size _).drew (by omega),L.trans (b5.trans (br _ _).drew),ll3 I hf⟩
     have co:=ag ad;have hy:IntKind.i64.wrap ((j:Int)+1)=(j:Int)+1:=by rw [IntKind.wrap_i64];omega
     clear o4 E hn L I c7 hR dk dd hx O hD N ad Z gk HJ eb e8;go_wp2_with fail;refine zrq (fun W'=>W'.cell? ⟨T,12,none⟩=some (.slice (some ⟨gR,0,none⟩) rs.length cR)/\(Instr.lookup 194 (.map (some w.heap.size)) (.i x) false).run prog W'=.ok (.i (mg mv x)) W') 9 (by kernel_rfl) ⟨ec,aw⟩ fun G=>?_;refine pr 0 (.p T) rfl (by kernel_rfl) (by kernel_rfl) (fun _ _ _ h=>h) ?_ G ?_
     ·intro w;go_simp
     refine pr 1 (.p T) rfl (by kernel_rfl) (by kernel_rfl) (fun _ _ _ h=>h) ?_ G ?_
     ·intro w;go_simp
     refine pr 2 (.pointer (some ⟨T,12,none⟩)) rfl (by kernel_rfl) (by kernel_rfl) (fun _ _ _ h=>h) ?_ G ?_
     ·intro w;go_simp
     refine A9 3 (.slice (some ⟨gR,0,none⟩) rs.length cR) rfl (by kernel_rfl) (by kernel_rfl) (by kernel_rfl) (fun _ _ _ h=>h) ?_ G ?_
     ·intro w c0;obtain ⟨s0,s1⟩:=c0;go_simp
     refine pr 4 (.i (j:Int)) rfl (by kernel_rfl) (by kernel_rfl) (fun _ _ _ h=>h) ?_ G ?_
     ·intro w;go_simp
     refine pr 5 (.map (some w.heap.size)) rfl (by kernel_rfl) (by kernel_rfl) (fun _ _ _ h=>h) ?_ G ?_
     ·intro w;go_simp
     refine pr 6 (.i x) rfl (by kernel_rfl) (by kernel_rfl) (fun _ _ _ h=>h) ?_ G ?_
     ·intro w;go_simp
     refine A9 7 (.i (mg mv x)) rfl (by kernel_rfl) (by kernel_rfl) (by kernel_rfl) (fun _ _ _ h=>h) ?_ G ?_
     ·intro w c0;obtain ⟨s0,s1⟩:=c0;go_simp
     refine pr 8 (.pointer (some ⟨gR,j,none⟩)) rfl (by kernel_rfl) (by kernel_rfl) (fun _ _ _ h=>h) ?_ G ?_
     ·intro w;go_simp
     refine Aj (rs:=[9]) (by kernel_rfl) (by simp) ?_;refine ku.cons rfl (fun K9 f8=>?_) ku.nil;go_simp;refine f8.o _ _ (fun h=>absurd rfl h) ?_;rw [<-co.o];refine zrp (by kernel_rfl) ?_ _;try simp only [Act.put,p1q,p4q,p3q,p2q,p5q,p6q]
     go_wp2_with fail;go_roundw
     case rel=>exact ⟨j+1,by go_num,by omega,cr⟩
     case measure=>simp [intOf];omega
    have bf:(rs.length:Int)<=(j:Int):=by omega
    have c5:j=rs.length:=by omega
    subst c5;obtain ⟨o4,E,hn,L,I⟩:=HJ.o;rw [List.take_length,List.drop_length,List.append_nil]at o4;have bs:ws.length=h.ab.length:=by have:=E.1;rw [ui,Nat.mul_one]at this;exact this
    have k0:=bp o4.blk 0 (x:=.slice (some ⟨gW,0,none⟩) h.ab.length dW) rfl;have k4:=bp o4.blk 4 (x:=.i h.ba) rfl;have kz:=fun i=>pj o4.blk i;have it:=bz o4.blk;obtain ⟨W8,b3⟩:∃W8,W8=(wr.setCell ⟨T,0,none⟩ (.slice (some ⟨F,0,none⟩) h.ab.length h.ab.length)).setCell ⟨T,4,none⟩ (.i (h.ae+1+ic ts)):=⟨_,rfl⟩;have c4:wr.grownBy W8 (some T):=b3 ▸ ow (ow (World.grownBy.refl _ _) _ _ (Or.inl rfl)) _ _ (Or.inl rfl);have c2:=rr (rr o4.blk (j:=0) (.slice (some ⟨F,0,none⟩) h.ab.length h.ab.length)) (j:=4) (.i (h.ae+1+ic ts));rw [<-b3]at c2;obtain ⟨o8,ch⟩:=o4.newW (g:=F) (cap:=h.ab.length) (ws:=ws) (ot:=h.ae+1+ic ts) c4 (by rw [bs];exact c2) (by rw [bs];exact yy (E.kept c4 (Or.inr fun e=>by have e':F=T:=ojq e;omega)) (by omega)) ⟨by omega,fun k e=>by have:=(HO.o.rO.lt k e).2;omega,fun k e=>by have:=(HO.o.rR.lt k e).2;omega⟩;have d1:=ag (zwo W8 b B T _ _ _ _ _ _ _ _ _ _ d o8 ⟨he.1,by show h.ae<=1000000;omega⟩ (by show h.ae+1<=(ws.length:Int);omega));have e9:Hid (Below b w W8):=L.trans ch;have fi:=ag b3;clear o4 E hn L I bs b3 c4 c2 o8 ch HJ eb e8;go_wp2_with fail;rw [<-fi.o];refine d1.o.mono ?_;rintro r w9 ⟨rfl,o9,ei⟩;have HF:=ag (And.intro o9 ei);clear o9 ei d1;go_wp2_with fail;go_end0;rw [<-az.o,fz.o];exact ⟨rfl,e9.o.trans HF.o.2,_,HF.o.1⟩
end Go.Proofs.YtjdnmblggdobgaaGreat
