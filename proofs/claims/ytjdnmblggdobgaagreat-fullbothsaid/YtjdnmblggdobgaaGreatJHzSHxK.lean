import Derived.Test.YtjdnmblggdobgaaGreatJHzTHxE
import Derived.Test.YtjdnmblggdobgaaGreatJHzGHzH
import Derived.Test.YtjdnmblggdobgaaGreatJHxGHxI
set_option maxHeartbeats 8000000
set_option maxRecDepth 100000
namespace Go.Proofs.YtjdnmblggdobgaaGreat
open Go.Maps Go.RowKit Tryz List Or World
variable {ws:List Int} {a b B T:Nat} {w:World} {V F:Value} (f:Int->Int) (rs:List Int) (j:Nat) {fs:List (List bv)} {mv:List (Int×bq)} (ts l:List bq) (p:Int) (t:bq)
def pm (p:Int):List bq->List (Int×bq)
 | []=>[]
 | t::r=>(t.loc,⟨p,t.tag,t.len,t.hash⟩)::pm (p+3+t.len) r
def ii (ts:List bq):Int:=(ts.map (fun t:bq=>3+t.len)).sum
theorem zyn:ii (ts++ [t])=ii ts+(3+t.len):=by simp [ii]
theorem zyo:∀p,pm p (l++ [t])=pm p l++ [(t.loc,⟨p+ii l,t.tag,t.len,t.hash⟩)]:=by
 induction l with
 | nil=>intro p;simp [pm,ii]
 | cons x l ih=>
   intro p;rw [cons_append,pm,ih,pm,cons_append];have:p+3+x.len+ii l=p+ii (x::l):=by simp only [ii,map_cons,sum_cons];omega
   rw [this]
theorem zyp:∀p,(pm p l).length=l.length:=by
 induction l with
 | nil=>intro p;rfl
 | cons x l ih=>intro p;rw [pm,length_cons,ih,length_cons]
theorem zyq {α:Type} (l:List α) (k:Nat) (A:k<l.length):l.take (k+1)=l.take k++ [l[k]]:=by rw [take_add_one,getElem?_eq_getElem A];rfl
theorem zyr (k:Nat) (A:k<l.length):pm p (l.take (k+1))=pm p (l.take k)++ [(l[k].loc,⟨p+ii (l.take k),l[k].tag,l[k].len,l[k].hash⟩)]:=by rw [zyq l k A,zyo]
def nc (mv:List (Int×bq)) (n:Int):Int:=(io mv n).getD 0
def sj (mv:List (Int×bq)) (ws:List Int) (a:Int):List Int:=ws.set a.toNat (nc mv (wd ws a))
def u6 (fs:List (List bv)) (mv:List (Int×bq)) (us ws:List Int) (q:Int×bq):List Int:=(refsOf fs q.2).foldl (sj mv) (mx ws q.2.loc.toNat (mi us q.1.toNat (q.2.len+3).toNat))
def qx (fs:List (List bv)) (mv:List (Int×bq)) (us:List Int) (l:List (Int×bq)):List Int:=l.foldl (u6 fs mv us) (replicate us.length 0)
theorem zys (mv:List (Int×bq)) (l:List Int):∀ws:List Int,(l.foldl (sj mv) ws).length=ws.length:=by
 induction l with
 | nil=>intro ws;rfl
 | cons a l ih=>intro ws;rw [foldl_cons,ih,sj,length_set]
theorem zyt (h:∀t∈ts,0<=t.len) (k:Nat) (G:k<ts.length):0<=ii (ts.take k)/\ii (ts.take k)+(3+ts[k].len)<=ii ts:=by
 have E:∀l:List bq,(∀t∈l,0<=t.len)->0<=ii l:=by
  intro l;induction l with
  | nil=>intro _;exact Int.le_refl _
  | cons x l ih=>
    intro D;have h1:=ih fun t A=>D t (mem_cons_of_mem _ A);have F:=D x (mem_cons_self ..);simp only [ii,map_cons,sum_cons]at h1 ⊢;omega
 have e:ii ts=ii (ts.take k)+(3+ts[k].len)+ii (ts.drop (k+1)):=by
  have:ts=ts.take k++ts[k]::ts.drop (k+1):=by rw [<-drop_eq_getElem_cons G,take_append_drop]
  have:=congrArg ii this;simp only [ii,map_append,map_cons,sum_append,sum_cons]at this ⊢;omega
 have h1:=E (ts.take k) fun t A=>h t (mem_of_mem_take A);have F:=E (ts.drop (k+1)) fun t A=>h t (mem_of_mem_drop A);omega
theorem zyu {ops:Array Oper} {o:Oper} {a:Act} {w:World} {K:Act->World->Prop} {Q:Exit->Act->World->Prop} {E:Prop} (ai:o.guard=none) (dd s:Operand)
 (ho:o.op=.call { callee:=.builtin .copy,args:=#[dd,s],argTypes:=#[22,22] }) (b g off A n F I L cap:Nat) (ws:List Int) (b' g' W:Nat) (D:List Int) (aa:w.ownsRow b' 3 1 (.slice (some ⟨g',0,none⟩) D.length W) D.length (b8 D)) (Y:w.ownsRow b 3 1 (.slice (some ⟨g,0,none⟩) ws.length cap) ws.length (b8 ws))
 (hd:a.eval dd=.slice (some ⟨g,off,none⟩) F I) (hs:a.eval s=.slice (some ⟨g',A,none⟩) n L) (au:off+n<=ws.length) (am:A+n<=D.length) (ah:n<=F)
 (h:∀w',w.grownBy w' (some g)->w'.ownsRow b 3 1 (.slice (some ⟨g,0,none⟩) ws.length cap) (mx ws off (mi D A n)).length (b8 (mx ws off (mi D A n)))->K (a.put o.dst (goInt n)) w'):
 if Region.wanted o (yielded ops a.tmps)=true then Oper.wp prog o a w K Q else E:=by
 have hw:Region.wanted o (yielded ops a.tmps)=true:=by simp [Region.wanted,ai]
 rw [if_pos hw];have G:(mi D A n).length=n:=zt7 am;obtain ⟨h1,h2⟩:=Y;rcases h2 with ⟨e,h0⟩ | ⟨g1,an,N,e,ad,hg,al,ae,af,X⟩
 ·cases e
 cases e;rw [Nat.mul_one]at X af;have av:ws.length<=N.size:=by omega
 have J:=run_copy_row (P:=prog) w 22 22 o.type 3 g off F I ⟨g',A,none⟩ n L N 3 (b8 (mi D A n)) underlying22 (by kernel_rfl) hg (by rw [vi,G];exact (Nat.min_eq_left ah).symm) (by
  intro j v O;rw [b8,getElem?_map]at O;cases hx:(mi D A n)[j]? with
  | none=>rw [hx]at O;cases O
  | some x=>
    rw [hx]at O;have O:=ojq O;subst O;have ak:j<n:=by have:=(List.getElem?_eq_some_iff.1 hx).1;omega
    have ac:D[A+j]? =some x:=by unfold mi at hx;rw [getElem?_take_of_lt ak,getElem?_drop]at hx;exact hx
    have V:A+j<D.length:=by omega
    have:=aa.cellAt (A+j) (by rw [Nat.mul_one];exact V);rw [Dy V]at this;rw [getElem?_eq_getElem V]at ac;rw [<-ojq ac];rw [zd];exact this) (by rw [vi,G];omega) (by
  intro v hv;obtain ⟨x,-,rfl⟩:=mem_map.1 hv;rfl)
 rw [vi,G]at J;unfold Oper.wp;simp [execOp,ho,resolve,invoke,builtin,hd,hs,J,Result.andThen];have Z:(mx ws off (mi D A n)).length=ws.length:=C5 (by omega);refine h _ ⟨rfl,rfl,rfl,by simp [setRow],fun k _ hk=>setRow_other w g k _ (fun e=>hk (by rw [e]))⟩ ?_;rw [Z];refine ⟨by rw [vi,Z];simp,inr ⟨g,cap,_,rfl,ad,setRow_heap w g N _ 3 _ hg,al,ae,?_,?_⟩⟩
 ·simp [vi,G];omega
 rw [Nat.mul_one];have:=zvj (l:=mi D A n) (off:=off) X (by omega);rw [G]at this;exact this
theorem zzj (n:Nat):b8 (replicate n 0)=(madeCells #[Value.int .i64 0] n).toList:=by
 have D:(madeCells #[Value.int .i64 0] n).toList=replicate n (Value.int .i64 0):=by rw [eq_replicate_iff];refine ⟨by simp [madeCells],fun b A=>?_⟩;simp [madeCells,Nat.mod_one]at A;exact A.2.symm
 rw [D,b8,map_replicate]
theorem zzl (d:ax) (h:ar) (A:List bq) (order:List Int) (lo:Int):(pc d h A order lo).ab.length=h.ab.length:=by unfold pc;rw [zwc,zwb,length_replicate]
theorem zzo:∀(p:Int) (k:Nat) (A:k<ts.length),(pm p ts)[k]? =some (ts[k].loc,⟨p+ii (ts.take k),ts[k].tag,ts[k].len,ts[k].hash⟩):=by
 induction ts with
 | nil=>intro p k A;cases A
 | cons x l ih=>
   intro p k A;cases k with
   | zero=>simp [pm,ii]
   | succ k=>
     rw [pm,getElem?_cons_succ,ih (p+3+x.len) k (by simpa using A)];have:p+3+x.len+ii (l.take k)=p+ii ((x::l).take (k+1)):=by simp only [ii,take_succ_cons,map_cons,sum_cons];omega
     rw [this];rfl
theorem zzp:∀p,(pm p ts).map (·.1)=ts.map bq.loc:=by
 induction ts with
 | nil=>intro p;rfl
 | cons x l ih=>intro p;rw [pm,map_cons,ih,map_cons]
def yz (x:Int):Prop:=(Lit.int .i64 x).wf=true
theorem zzq (A:∀x,yz (nc mv x)) (l:List Int):∀ws:List Int,(∀x∈ws,yz x)->∀x∈l.foldl (sj mv) ws,yz x:=by
 induction l with
 | nil=>intro ws h;exact h
 | cons a l ih=>
   intro ws h;rw [foldl_cons];refine ih _ fun x D=>?_;rcases mem_or_eq_of_mem_set D with h1 | h1
   ·exact h x h1
   exact h1 ▸ A _
theorem zzr {l:List Int} {off:Nat} (h1:∀x∈ws,yz x) (D:∀x∈l,yz x):∀x∈mx ws off l,yz x:=by
 intro x A;unfold mx at A;rcases mem_append.1 A with h | h
 ·exact h1 x (mem_of_mem_take h)
 rcases mem_append.1 h with h | h
 ·exact D x h
 exact h1 x (mem_of_mem_drop h)
theorem zzs {n:Nat} (h:∀x∈ws,yz x):∀x∈mi ws a n,yz x:=fun x A=>h x (mem_of_mem_drop (mem_of_mem_take A))
theorem zzt {D:List Int} (E:∀x,yz (nc mv x)) (F:∀x∈D,yz x) (l:List (Int×bq)):∀x∈qx fs mv D l,yz x:=by
 have A:∀(l:List (Int×bq)) (ws:List Int),(∀x∈ws,yz x)->∀x∈l.foldl (u6 fs mv D) ws,yz x:=by
  intro l;induction l with
  | nil=>intro ws h;exact h
  | cons q l ih=>
    intro ws h;rw [foldl_cons];exact ih _ (zzq E _ _ (zzr h (zzs F)))
 exact A l _ fun x G=>by rw [(mem_replicate.1 G).2];rfl
theorem zzu (h0:0<=p) (h1:p+ii ts<=1000000) (D:∀t∈ts,0<=t.len) (x:Int):yz (nc (pm p ts) x):=by
 unfold nc;cases hn:io (pm p ts) x with
 | none=>rfl
 | some y=>
   obtain ⟨q,E,-,rfl⟩:=zuj hn;obtain ⟨k,A,e⟩:=mem_iff_getElem.1 E;rw [zyp]at A;have:=zzo ts p k A;rw [getElem?_eq_getElem (by rw [zyp];exact A),e]at this;have F:=zyt ts D k A;have:=ojq this;rw [this];have:=D ts[k] (gm _);show yz (p+ii (ts.take k));exact WalkArith.wf_i64 (by omega)
theorem zzv {D:DataW Unit} (h:NwD mv D) {v c:Int} (e:D.atKey (jt v) (.lit (.i 0))=.lit (.i c)):c=nc mv v:=by
 unfold nc;cases hn:io mv v with
 | none=>
   rw [h.no v _ hn]at e;exact ((Lit.int.inj (DataW.lit.inj e)).2).symm
 | some y=>
   rw [h.at_ v y _ hn]at e;exact ((Lit.int.inj (DataW.lit.inj e)).2).symm
theorem zzw (A:j<rs.length):((rs.take j).map f++rs.drop j)[j]? =some rs[j]:=by
 have e:((rs.take j).map f).length=j:=by rw [length_map,length_take];omega
 rw [getElem?_append_right (by omega),e,Nat.sub_self,getElem?_drop,Nat.add_zero,getElem?_eq_getElem A]
theorem zzx (A:j<rs.length):(rs.take (j+1)).map f++rs.drop (j+1)=((rs.take j).map f++rs.drop j).set j (f rs[j]):=by
 have e:((rs.take j).map f).length=j:=by rw [length_map,length_take];omega
 rw [zyq rs j A,map_append,append_assoc,set_append_right _ _ (by omega),e,Nat.sub_self,drop_eq_getElem_cons A];rfl
theorem qd.roots {E D I N J L O:Value} {h:ar} {rs:List Int} {d:ax} (o:qd b B w T F E D I N J L O h rs d) {w':World} {k:Nat} {rs':List Int} (G:D.ownBlock=some k) (A:w.grownBy w' (some k)) (Y:w'.ownsRow b 3 1 D rs'.length (b8 rs')):qd b B w' T F E D I N J L O h rs' d/\Below b w w':=
 have V:b<=k:=(o.rR.lt k G).1;have hi: [some T,F.ownBlock,E.ownBlock,D.ownBlock][3]? =some (some k):=congrArg some G
 ⟨⟨(A.block T (bz o.blk) (fun e=>Bc o.sep (i:=0) (by decide) hi (congrArg some e))).trans o.blk,o.rW.kept A (inr fun e=>Bc o.sep (i:=1) (by decide) hi (congrArg some e)),o.rO.kept A (inr fun e=>Bc o.sep (i:=2) (by decide) hi (congrArg some e)),Y,o.lk.kept ⟨A.size,fun j W X=>A.block j X (by have:=o.le;have:=W;intro e;injection e;omega)⟩,o.le,o.bT,o.sep⟩,(br b w).grown A (by have:=bz o.blk;have:=o.bT;omega) (fun j e=>by cases e;exact V)⟩
theorem qd.newW {G I N J L O:Value} {h:ar} {rs:List Int} {d:ax} (o:qd b B w T V F G I N J L O h rs d) {w':World} {g cap:Nat} {ws:List Int} {ot:Int} (D:w.grownBy w' (some T)) (W:w'.heap[T]? =some (.cells #[.slice (some ⟨g,0,none⟩) ws.length cap,.i h.ae,.i h.old,.i h.bk,.i ot,F,.i h.next,I,N,J,L,O,G] 131 (0,0))) (hw:w'.ownsRow b 3 1 (.slice (some ⟨g,0,none⟩) ws.length cap) ws.length (b8 ws)) (Z:T<g/\(∀k,F.ownBlock=some k->k<g)/\(∀k,G.ownBlock=some k->k<g)):qd b B w' T (.slice (some ⟨g,0,none⟩) ws.length cap) F G I N J L O ⟨ws,h.ae,h.old,h.bk,ot,h.ap,h.next⟩ rs d/\Below b w w':=by
 have hi: [some T,V.ownBlock,F.ownBlock,G.ownBlock][0]? =some (some T):=rfl;obtain ⟨n1,n2,n3⟩:=Z;refine ⟨⟨W,hw,o.rO.kept D (inr fun e=>qr o.sep (j:=2) (by decide) hi (congrArg some e)),o.rR.kept D (inr fun e=>qr o.sep (j:=3) (by decide) hi (congrArg some e)),o.lk.kept ⟨D.size,fun j X Y=>D.block j Y (by have:=o.le;have:=o.bT;have:=X;intro e;injection e;omega)⟩,o.le,o.bT,?_⟩,(br b w).grown D (by have:=bz o.blk;have:=o.bT;omega) (fun j e=>by cases e;exact o.bT)⟩;have E:=o.sep;unfold sr at E ⊢;simp only [pairwise_cons,mem_cons,not_mem_nil,or_false,forall_eq_or_imp,forall_eq,Pairwise.nil,and_true,false_implies,implies_true]at E ⊢;exact ⟨⟨fun k e A=>by cases e;cases A;exact Nat.lt_irrefl _ n1,E.1.2.1,E.1.2.2⟩,⟨fun k e A=>by cases e;exact Nat.lt_irrefl _ (n2 _ A),fun k e A=>by cases e;exact Nat.lt_irrefl _ (n3 _ A)⟩,E.2.2⟩
theorem zzy (w:World) (b B T:Nat) (nW nO nR kC kS kF kN kT:Value) (h:ar) (rs:List Int) (d:ax) (o:qd b B w T nW nO nR kC kS kF kN kT h rs d) (ec:Nat) (v:Value) (ts:List bq) (bm:w.ownsRow ec 101 4 v ts.length (fy ts))
 (h9:h.ab.length<=50000) (he:1<=h.ae/\h.ae+1<=h.ab.length) (bo:∀t∈ts,qf d t/\1<=t.loc/\t.loc+3+t.len<=h.ab.length) (eu:(ts.map bq.loc).Nodup) (h8:ts.length<=50000) (g5:h.ap.length<=1000000) (hw:h.ae+1+ii ts<=h.ab.length) (h7:rs.length<=1000) (ey:∀x∈rs,(Lit.int .i64 x).wf=true) (e6:∀x∈h.ab,(Lit.int .i64 x).wf=true):
 Calls prog 149 #[.p T,v] w fun r w'=>r=.returned (.tuple #[])/\Below b w w'/\∃nW':Value,qd b B w' T nW' (.nl) nR kC kS kF kN kT (rq ⟨qx d.fields (pm (h.ae+1) ts) h.ab (pm (h.ae+1) ts),h.ae,h.old,h.bk,h.ae+1+ii ts,h.ap,h.next⟩) (rs.map (nc (pm (h.ae+1) ts))) d:=by
 have h6:=@run_makeMap prog;obtain ⟨iI,gs,e7,e8,e9⟩:=info_parts kh;obtain ⟨gW,dW,gz,h5⟩:∃gW dW,nW=.slice (some ⟨gW,0,none⟩) h.ab.length dW/\h.ab.length<=dW:=by
  rcases o.rW.2 with ⟨e,h0⟩ | ⟨g,cap,f1,e,-,-,hc,-⟩
  ·omega
  exact ⟨g,cap,e,hc⟩
 subst gz;obtain ⟨aO,cO,gv⟩:=ku o.rO;subst gv;obtain ⟨aR,cR,gx⟩:=ku o.rR;subst gx;obtain ⟨aV,cV,gy⟩:=ku bm;subst gy;obtain ⟨aC,cC,aS,cS,aF,cF,aN,cN,aT,cT,rfl,rfl,rfl,rfl,rfl⟩:=o.lk.agg;have HO:=aj o;have d8:=aj bm;have eb:=aj bo;have ft:=aj eu;have cy:Hid (∀k,(hk:k<ts.length)->0<=ii (ts.take k)/\ii (ts.take k)+(3+ts[k].len)<=ii ts):=fun k hk=>zyt ts (fun t ht=>(bo t ht).1.lo) k hk;have hst:0<=ii ts:=by
  cases hk:ts with
  | nil=>exact Int.le_refl _
  | cons x l=>have:=cy.o 0 (by rw [hk];simp);have:=(bo (ts[0]'(by rw [hk];simp)) (gm _)).1.lo;rw [<-hk];omega
 have c1:=aj (And.intro ey e6);have d4:Hid (∀x,yz (nc (pm (h.ae+1) ts) x)):=fun x=>zzu ts (h.ae+1) (by omega) (by omega) (fun t ht=>(bo t ht).1.lo) x;have lT:=bz o.blk;have h4:=o.bT;have t1:=bg o.blk 1 (x:=.i h.ae) rfl;have w1:IntKind.i64.wrap (h.ae+1)=h.ae+1:=by rw [IntKind.wrap_i64];omega
 obtain ⟨W0,bb⟩:∃W0,W0=w.alloc (.map #[] 0):=⟨_,rfl⟩;have eg:Bl w W0:=bb ▸ (br _ _).alloc (nlq _) _;have er:j9 W0 w.heap.size []:=⟨.map [],by rw [bb];exact ownsMap_made _ _ _ _,zvf⟩;have ez:W0.heap.size=w.heap.size+1:=by rw [bb];simp
 have fe:=aj bb;have cs:=aj (And.intro er (And.intro eg ez));clear o bm bo eu ey e6 bb eg er ez;go_enter func149,ntmps149;go_wp2_with fail;rw [<-fe.o];go_loopw [4,7,26] (fun A _ i wr=>∃k:Nat,A=.i (h.ae+1+ii (ts.take k))/\i=.i (k:Int)/\k<=ts.length/\Hid (j9 wr w.heap.size (pm (h.ae+1) (ts.take k))/\Bl w wr/\w.heap.size<wr.heap.size)) (fun _ _ i _=>ts.length - (intOf i).toNat)
 case atStart=>exact ⟨0,by simp [ii],rfl,n0q _,cs.o.1,cs.o.2.1,by have:=cs.o.2.2;omega⟩
 case round=>
  obtain ⟨k,rfl,rfl,hk,HI⟩:=hrel;by_cases ah:k<ts.length
  ·have bl:(k:Int)<(ts.length:Int):=by omega
   obtain ⟨t,ht⟩:∃t,ts[k]=t:=⟨_,rfl⟩;have hT:=eb.o ts[k] (gm _);have bn:=cy.o k ah;obtain ⟨hn,L,I⟩:=HI.o;obtain ⟨gV,off,rfl,lV,q0,q1,q2,q3⟩:=(zhn (km d8.o L) (by omega)).atTh k ah;have ca:=zyr ts (h.ae+1) k ah;have ck:ii (ts.take (k+1))=ii (ts.take k)+(3+ts[k].len):=by rw [zyq ts k ah,zyn]
   rw [ht]at hT bn q0 q1 q2 q3 ca ck;obtain ⟨ff,em,en⟩:=hT;have gk:=ff.lo;obtain ⟨A,ac⟩:∃A,h.ae+1+ii (ts.take k)=A:=⟨_,rfl⟩;have cm:h.ae+1+ii (ts.take (k+1))=A+(3+t.len):=by omega
   rw [ac]at ca;have hd:0<=A/\A+(3+t.len)<=50000:=by omega
   obtain ⟨W1,ak⟩:∃W1,W1=wr.alloc (.cells #[.i t.loc,.i t.tag,.i t.len,.i t.hash] 101):=⟨_,rfl⟩;have af:Bl wr W1:=ak ▸ (br _ _).alloc (nlq _) _;have b1:W1.heap[wr.heap.size]? =some (.cells #[.i t.loc,.i t.tag,.i t.len,.i t.hash] 101 (0,0)):=ak ▸ heap_alloc_new wr _;obtain ⟨D,E,hD⟩:=hn.below af I;have J:keyOf prog 3 (.i t.loc)=some (jt t.loc):=keyOf_int_mk underlying3 (WalkArith.wf_i64 (by omega));have dd:(pm (h.ae+1) (ts.take k)).length<=50000:=by rw [zyp,length_take];omega
   obtain ⟨w2,az,aa,ai⟩:=ownsMap.update (w:=W1) E qq underlying194 (by unfold maxLen;omega) J (plainElem_int (H:=Unit) underlying3 (a:=A) (WalkArith.wf_i64 (by omega)));have ex:j9 w2 w.heap.size (pm (h.ae+1) (ts.take (k+1))):=by rw [ca];exact ⟨_,by rw [length_append];exact aa,zvg hD (E.tidy qq) (t.loc,(⟨A,t.tag,t.len,t.hash⟩:bq))⟩
   have a8:=(ai.block wr.heap.size (bz b1) (fun e=>by have:=ojq e;omega)).trans b1;have an:Bl w w2:=(L.trans (af.mono (by omega))).grown ai (by have:=L.size;have:=af.size;omega) (fun j e=>by cases e;exact nlq _);have cf:w.heap.size<w2.heap.size:=by have:=ai.size;have:=af.size;omega
   have u0:=bg b1 0 (x:=.i t.loc) rfl;have v0:=bg a8 0 (x:=.i t.loc) rfl;have v1:=bg a8 1 (x:=.i t.tag) rfl;have v2:=bg a8 2 (x:=.i t.len) rfl;have v3:=bg a8 3 (x:=.i t.hash) rfl;have ix:=bz b1;have i0:=bz a8;have c0:=aj (zx9 w2 t (by unfold small;omega) (by unfold small;omega));have i1:IntKind.i64.wrap (A+(3+t.len))=A+(3+t.len):=by rw [IntKind.wrap_i64];omega
   have i2:IntKind.i64.wrap ((k:Int)+1)=(k:Int)+1:=by rw [IntKind.wrap_i64];omega
   have cp:=aj ak;have a4:=aj (And.intro ex (And.intro an cf));have fv:=aj cm;unfold nw at c0;rw [ac];clear hn L I ca ck ff em en bn ak af b1 E hD J dd aa ai ex a8 an cf ac cm ht HI;go_wp2_with fail;rw [<-cp.o];go_wp2_with fail;rw [az];go_wp2_with fail;refine c0.o.mono ?_;rintro r w3 ⟨rfl,b6⟩;have fr:Hid (j9 w3 w.heap.size (pm (h.ae+1) (ts.take (k+1)))/\Bl w w3/\w.heap.size<w3.heap.size):=⟨a4.o.1.below b6 a4.o.2.2,a4.o.2.1.trans (b6.mono (Nat.le_of_lt a4.o.2.2)),ll3 a4.o.2.2 b6.size⟩;clear b6 c0 a4;go_wp2_with fail;go_roundw
   case rel=>exact ⟨k+1,by rw [fv.o],by simp,ah,fr⟩
   case measure=>simp [intOf];omega
  have bl:(ts.length:Int)<=(k:Int):=by omega
  have c8:k=ts.length:=by omega
  subst c8;rw [take_length]at HI ⊢;obtain ⟨hn,L,I⟩:=HI.o;have G:=(L.block T lT).trans HO.o.blk;have a0:=bg G 0 (x:=.slice (some ⟨gW,0,none⟩) h.ab.length dW) rfl;have hg:=bz G;have b2:Hid (iI.bytes*h.ab.length<=281474976710656/\h.ab.length<=maxLen/\w.heap.size<=wr.heap.size):=⟨by rw [e9];omega,by unfold maxLen;omega,by omega⟩;clear hn L I G t1;go_wp2_with (refine wpList_make_full _ rfl _ _ 22 rfl w.heap.size 3 iI (.i 0) 1 underlying22 gs e7 e8 .i64 .i64 (h.ab.length:Int) (h.ab.length:Int) h.ab.length rfl rfl rfl rfl b2.o.1 b2.o.2.1 b2.o.2.2 ?_);intro w1 E a7;obtain ⟨hn,L,I⟩:=HI.o;rw [<-zzj]at E;have af:Bl wr w1:=⟨a7.os,a7.tape,a7.output,a7.size,fun j hj=>a7.block j hj (by simp)⟩;obtain ⟨F,b9⟩:∃F,F=wr.heap.size:=⟨_,rfl⟩;have h3:w.heap.size<F:=by omega
  obtain ⟨mv,df⟩:∃mv,mv=pm (h.ae+1) ts:=⟨_,rfl⟩;have a3:=aj df;rw [<-df]at hn;have fk:Hid (w1.ownsRow w.heap.size 3 1 (.slice (some ⟨F,0,none⟩) h.ab.length h.ab.length) h.ab.length (b8 (replicate h.ab.length 0))/\j9 w1 w.heap.size mv/\Bl w w1/\F<w1.heap.size):=⟨by rw [b9];exact E,hn.below af (by omega),L.trans (af.mono (by omega)),by rw [b9];exact (E.lt _ rfl).2⟩;rw [<-b9];clear hn L I E a7 af HI b2 df;clear b9;go_wp2_with fail;go_loopw [10,11,13,49] (fun _ _ _ i wq=>∃k:Nat,i=.i (k:Int)/\k<=ts.length/\Hid (wq.ownsRow w.heap.size 3 1 (.slice (some ⟨F,0,none⟩) h.ab.length h.ab.length) h.ab.length (b8 (qx d.fields mv h.ab (mv.take k)))/\j9 wq w.heap.size mv/\Bl w wq/\F<wq.heap.size)) (fun _ _ _ i _=>ts.length - (intOf i).toNat)
  case atStart=>exact ⟨0,rfl,n0q _,fk⟩
  case round=>
   obtain ⟨k,rfl,hk,HI⟩:=hrel;by_cases ah:k<ts.length
   ·have bl:(k:Int)<(ts.length:Int):=by omega
    obtain ⟨t,ht⟩:∃t,ts[k]=t:=⟨_,rfl⟩;have hT:=eb.o ts[k] (gm _);have bn:=cy.o k ah;obtain ⟨E,hn,L,I⟩:=HI.o;obtain ⟨gV,off,rfl,lV,q0,q1,q2,q3⟩:=(zhn (km d8.o L) (by omega)).atTh k ah;have al:=zzo ts (h.ae+1) k ah;rw [<-a3.o]at al;rw [ht]at hT bn q0 q1 q2 q3 al;obtain ⟨ff,em,en⟩:=hT;have gk:=ff.lo;obtain ⟨A,ac⟩:∃A,h.ae+1+ii (ts.take k)=A:=⟨_,rfl⟩;rw [ac]at al;have hd:1<=A/\A+(3+t.len)<=h.ab.length:=by omega
    have gt:k<mv.length:=(List.getElem?_eq_some_iff.1 al).1;have eq:mv.take (k+1)=mv.take k++ [(t.loc,(⟨A,t.tag,t.len,t.hash⟩:bq))]:=by rw [take_add_one,al];rfl
    have cj:io mv t.loc=some A:=zui (mem_of_getElem? al) (by rw [a3.o,zzp];exact ft.o);have dj:qx d.fields mv h.ab (mv.take (k+1))=(refsOf d.fields ⟨A,t.tag,t.len,t.hash⟩).foldl (sj mv) (mx (qx d.fields mv h.ab (mv.take k)) A.toNat (mi h.ab t.loc.toNat (t.len+3).toNat)):=by rw [eq,qx,foldl_append];rfl
    obtain ⟨ws,av⟩:∃ws,qx d.fields mv h.ab (mv.take k)=ws:=⟨_,rfl⟩;rw [av]at E dj;have bx:ws.length=h.ab.length:=by have:=E.1;rw [vi,Nat.mul_one]at this;exact this
    obtain ⟨W1,ak,b4,g6,kx,ky⟩:=nf wr #[.i t.loc,.i t.tag,.i t.len,.i t.hash] #[.i t.loc,.i t.tag,.i t.len,.i t.hash] 101 101;obtain ⟨D,O,hD⟩:=hn.below b4 (by omega);have J:keyOf prog 3 (.i t.loc)=some (jt t.loc):=keyOf_int_mk underlying3 (WalkArith.wf_i64 (by omega));obtain ⟨W2,bc⟩:∃W2,W2=W1.setCell ⟨wr.heap.size+1,0,none⟩ (.i A):=⟨_,rfl⟩;have ai:W1.grownBy W2 (some (wr.heap.size+1)):=bc ▸ pi (grownBy.refl _ _) _ _ (inl rfl);have ch:W2.heap[wr.heap.size+1]? =some (.cells #[.i A,.i t.tag,.i t.len,.i t.hash] 101 (0,0)):=bc ▸ s9 ky _;have aw:=(ai.block wr.heap.size (bz kx) (fun e=>by have:=ojq e;omega)).trans kx;have an:Bl wr W2:=b4.grown ai b4.size (fun j e=>by cases e;omega);have bd:Bl w W2:=L.trans (an.mono (by omega));have aa:W2.ownsRow w.heap.size 3 1 (.slice (some ⟨F,0,none⟩) h.ab.length h.ab.length) h.ab.length (b8 ws):=km E an;have es:j9 W2 w.heap.size mv:=hn.below an (by omega);have du:=(bd.block T lT).trans HO.o.blk;have f2:=bg kx 0 (x:=.i t.loc) rfl;have f3:=bg kx 1 (x:=.i t.tag) rfl;have f4:=bg kx 2 (x:=.i t.len) rfl;have f5:=bg kx 3 (x:=.i t.hash) rfl;have f6:=bg ky 0 (x:=.i t.loc) rfl;have f7:=pq ky 0;have lx:=bz kx;have ly:=bz ky;have cp:=aj ak;have fi:=aj bc;have HN:=aj cj;have HD:=aj hD;have HK:=aj J;have H2:=aj (And.intro aa (And.intro es bd));have cu:=aj dj;have fz:Hid (∀x∈ws,yz x):=by show ∀x∈ws,yz x;rw [<-av];exact zzt (by rw [a3.o];exact d4.o) c1.o.2 _
    have d1:=aj (And.intro aw ch);have b3:=aj ff;have cv:Hid (W2.heap.size=wr.heap.size+2/\F<wr.heap.size):=⟨by rw [bc,size_setCell];omega,I⟩;have d2:Hid (∀W,Calls prog 72 #[.agg #[.i t.loc,.i t.tag,.i t.len,.i t.hash]] W fun r w'=>r=.returned (.i (t.loc+3+t.len))/\Bl W w'):=fun W=>Er W t (by unfold small;omega) (by unfold small;omega);have r3:∀V,(Instr.slice 22 (.slice (some ⟨F,0,none⟩) h.ab.length h.ab.length) (some (.i A)) none none).run prog V=.ok (.slice (some ⟨F,A.toNat,none⟩) (h.ab.length - A.toNat) (h.ab.length - A.toNat)) V:=fun V=>by rw [run_slice_l V 22 _ _ _ underlying22 .i64 A (by omega) (by omega)];show Result.ok (sliced (some ⟨F,0,none⟩) A.toNat h.ab.length h.ab.length 1) V=_;unfold sliced;rw [if_neg (by omega),Option.map_some,zd,Nat.mul_one,Nat.zero_add]
    have hs:∀V,(Instr.slice 22 (.slice (some ⟨gW,0,none⟩) h.ab.length dW) (some (.i t.loc)) (some (.i (t.loc+3+t.len))) none).run prog V=.ok (.slice (some ⟨gW,t.loc.toNat,none⟩) (t.len+3).toNat (dW - t.loc.toNat)) V:=fun V=>by rw [run_slice_lh V 22 _ _ _ underlying22 .i64 .i64 t.loc (t.loc+3+t.len) (by omega) (by omega) (by omega)];show Result.ok (sliced (some ⟨gW,0,none⟩) t.loc.toNat (t.loc+3+t.len).toNat dW 1) V=_;unfold sliced;rw [if_neg (by omega),Option.map_some,zd,Nat.mul_one,Nat.zero_add,show (t.loc+3+t.len).toNat - t.loc.toNat=(t.len+3).toNat by omega]
    have nT:¬T=F:=by omega
    have nP:¬wr.heap.size=F:=by have:=cv.o.2;omega
    have nQ:¬wr.heap.size+1=F:=by have:=cv.o.2;omega
    have g0:=bg aw 0 (x:=.i t.loc) rfl;have g1:=bg aw 1 (x:=.i t.tag) rfl;have g2:=bg aw 2 (x:=.i t.len) rfl;have g3:=bg aw 3 (x:=.i t.hash) rfl;have y0:=bg ch 0 (x:=.i A) rfl;have a2:=bg du 0 (x:=.slice (some ⟨gW,0,none⟩) h.ab.length dW) rfl;have hm:=bz aw;have hr:=bz ch;have hh:=bz du;clear bn E hn L I al ff ac gt eq cj dj av ak b4 g6 kx ky hD J bc ai ch aw an bd aa es du HI ht a0 hg;go_wp2_with (at_lookup;rw [<-cp.o];refine wpList_lookup_own_int _ rfl _ _ 194 rfl 3 3 .i64 qq underlying194 underlying3 (xh _) w.heap.size mv.length D rfl O _ _ rfl HK.o ?_);intro c N dl;have bf:c=A:=by have e:=N;rw [HD.o.at_ t.loc A _ HN.o]at e;exact ((Lit.int.inj (DataW.lit.inj e)).2).symm
    rw [bf];clear bf N dl O;go_wp2_with fail;rw [<-fi.o];refine wp_region_held_drew (S:=fun W'=>∀p:Addr,p.block<W2.heap.size->p.block≠F->W'.cell? p=W2.cell? p) (by kernel_rfl) (fun p hp _=>rfl) fun G=>?_;refine ta 0 (.slice (some ⟨F,0,none⟩) h.ab.length h.ab.length) rfl G ?_;refine ta 1 (.p (wr.heap.size+1)) rfl G ?_;refine ta 2 (.i A) rfl G ?_;refine ta 3 (.slice (some ⟨F,A.toNat,none⟩) (h.ab.length - A.toNat) (h.ab.length - A.toNat)) rfl G ?_;refine ta 4 (.p T) rfl G ?_;refine ta 5 (.p T) rfl G ?_;refine ta 6 (.p T) rfl G ?_;refine ta 7 (.p T) rfl G ?_;refine ta 8 (.p T) rfl G ?_;refine ta 9 (.slice (some ⟨gW,0,none⟩) h.ab.length dW) rfl G ?_;refine ta 10 (.p wr.heap.size) rfl G ?_;refine ta 11 (.i t.loc) rfl G ?_;refine ta 12 (.agg #[.i t.loc,.i t.tag,.i t.len,.i t.hash]) rfl G ?_;refine wpAnyH_ready (rs:=[13]) (by kernel_rfl) (by simp) ?_;refine AllReadyH.cons rfl (fun hz eh=>?_) AllReadyH.nil;go_simp;refine (d2.o _).mono ?_;rintro r w5 ⟨rfl,b7⟩;have X:Bl W2 w5:=(br W2.heap.size W2).drew.trans b7;refine eh.o _ _ (fun p hp _=>X.cell hp) fun G=>?_;refine ta 14 (.slice (some ⟨gW,t.loc.toNat,none⟩) (t.len+3).toNat (dW - t.loc.toNat)) rfl G ?_;refine wpAnyH_ready (rs:=[15]) (by kernel_rfl) (by simp) ?_;refine AllReadyH.cons rfl (fun h2 ei=>?_) AllReadyH.nil;have ay:Bl w w5:=H2.o.2.2.trans (X.mono H2.o.2.2.size);have o5:=km H2.o.1 X;have s5:=km HO.o.rW ay;refine zyu rfl (.tmp 62) (.tmp 73) rfl w.heap.size F A.toNat t.loc.toNat (t.len+3).toNat (h.ab.length - A.toNat) (h.ab.length - A.toNat) (dW - t.loc.toNat) h.ab.length ws b gW dW h.ab s5 (by rw [bx];exact o5) rfl rfl (by omega) (by omega) (by omega) ?_;intro w4 a6 cc;refine ei.o _ _ (fun p hp g4=>(cell?_of_block (a:=p) (a6.block p.block (ll3 hp X.size) (fun e=>g4 (ojq e)))).trans (X.cell hp)) fun G=>?_;refine wpAnyH_done (by kernel_rfl) ?_ _;clear G;try simp only [Act.put,p1q,p4q,p3q,p2q,p5q,p6q]
    have ce:(mx ws A.toNat (mi h.ab t.loc.toNat (t.len+3).toNat)).length=h.ab.length:=by rw [C5 (by rw [zt7 (by omega)];omega),bx]
    obtain ⟨Y,a1⟩:∃Y,Y=mx ws A.toNat (mi h.ab t.loc.toNat (t.len+3).toNat):=⟨_,rfl⟩;have cn:∀x∈Y,yz x:=a1 ▸ zzr fz.o (zzs c1.o.2);rw [<-a1]at cc ce;rw [ce,bx]at cc;have g8:=a6.size;have g9:=X.size;have cf:=cv.o;have c3:Bl w w4:=ay.grown a6 ay.size (fun j e=>by cases e;omega);have et:j9 w4 w.heap.size mv:=(H2.o.2.1.below X (by omega)).kept a6 (fun e=>by have:=ojq e;omega);have a9:=(a6.block (wr.heap.size+1) (by omega) (fun e=>by have:=ojq e;omega)).trans ((X.block _ (by omega)).trans d1.o.2);have dz:=(c3.block T lT).trans HO.o.blk;have d5:Hid (∀V,Bl w V->Calls prog 178 #[.p T,.agg #[.i A,.i t.tag,.i t.len,.i t.hash]] V fun r w'=>Bl V w'/\∃v,r=.returned v/\w'.ownsRow V.heap.size 3 1 v (refsOf d.fields ⟨A,t.tag,t.len,t.hash⟩).length (b8 (refsOf d.fields ⟨A,t.tag,t.len,t.hash⟩))):=fun V hV=>zhk V _ T _ _ _ _ _ _ _ h d ((HO.o.below hV).gd (by omega) g5) ⟨A,t.tag,t.len,t.hash⟩ ⟨b3.o.tag,b3.o.lo,b3.o.hi,⟨by show 0<=A;omega,by show A<=1000000;omega⟩⟩ ⟨by show 0<=A;omega,by show A<=100000;omega⟩ (by show t.len<=100000;omega);have d6:Hid (∀a∈refsOf d.fields ⟨A,t.tag,t.len,t.hash⟩,A+3<=a/\a<A+3+t.len):=fun a ha=>zht d.fields ⟨A,t.tag,t.len,t.hash⟩ ha;have hv:(refsOf d.fields ⟨A,t.tag,t.len,t.hash⟩).length<=100000:=lt3 (Et d.fields ⟨A,t.tag,t.len,t.hash⟩ t.len.toNat) (by omega);rw [<-a1]at cu;generalize refsOf d.fields ⟨A,t.tag,t.len,t.hash⟩=rf at*;have co:=aj c3;have H4:=aj (And.intro cc (And.intro et (And.intro cn (And.intro (show F<w4.heap.size by omega) ce))));have z0:=bg a9 0 (x:=.i A) rfl;have z1:=bg a9 1 (x:=.i t.tag) rfl;have z2:=bg a9 2 (x:=.i t.len) rfl;have z3:=bg a9 3 (x:=.i t.hash) rfl;have b0:=bg dz 0 (x:=.slice (some ⟨gW,0,none⟩) h.ab.length dW) rfl;have lz:=bz a9;have hl:=bz dz;clear g0 g1 g2 g3 y0 a2 hm hr hh f2 f3 f4 f5 f6 f7 lx ly ce cn g8 g9 cf c3 et a9 dz cc a6 X b7 ay o5 s5 r3 hs d2 d1 b3 H2 nT nP nQ q0 q1 q2 q3 a1;go_wp2_with fail;refine wp_region_held_drew (S:=fun W'=>∀p:Addr,p.block<w4.heap.size->W'.cell? p=w4.cell? p) (by kernel_rfl) (fun p hp=>rfl) fun G=>?_;refine ta 0 (.p T) rfl G ?_;refine ta 1 (.p T) rfl G ?_;refine ta 2 (.p T) rfl G ?_;refine ta 3 (.agg #[.i A,.i t.tag,.i t.len,.i t.hash]) rfl G ?_;refine ta 6 (.i 0) rfl G ?_;refine wpAnyH_ready (rs:=[4]) (by kernel_rfl) (by simp) ?_;refine AllReadyH.cons rfl (fun K4 f8=>?_) AllReadyH.nil;go_simp;refine (d5.o _ co.o.drew).mono ?_;rintro r w6 ⟨X,vq,rfl,dk⟩;obtain ⟨aQ,cQ,rfl⟩:=ku dk;have a5:Bl w4 w6:=(br w4.heap.size w4).drew.trans X;refine f8.o _ _ (fun p hp=>a5.cell hp) fun G=>?_;refine ta 5 (.i (rf.length:Int)) rfl G ?_;refine wpAnyH_done (by kernel_rfl) ?_ _;clear G;try simp only [Act.put,p1q,p4q,p3q,p2q,p5q,p6q]
    have d0:Hid (Bl w w6):=co.o.trans (a5.mono co.o.size);have H6:Hid (w6.ownsRow w.heap.size 3 1 (.slice (some ⟨F,0,none⟩) h.ab.length h.ab.length) h.ab.length (b8 Y)/\j9 w6 w.heap.size mv):=⟨km H4.o.1 a5,H4.o.2.1.below a5 (by have:=H4.o.2.2.2.1;omega)⟩;have ea:=aj dk;have cx:Hid (F<w4.heap.size/\w4.heap.size<=w6.heap.size):=⟨H4.o.2.2.2.1,a5.size⟩;clear X a5 dk z0 z1 z2 z3 b0 lz hl d5;go_wp2_with fail;go_loopw [13,81] (fun _ i wq=>∃j:Nat,i=.i (j:Int)/\j<=rf.length/\Hid (wq.ownsRow w.heap.size 3 1 (.slice (some ⟨F,0,none⟩) h.ab.length h.ab.length) h.ab.length (b8 ((rf.take j).foldl (sj mv) Y))/\j9 wq w.heap.size mv/\Bl w wq/\wq.ownsRow w4.heap.size 3 1 (.slice aQ rf.length cQ) rf.length (b8 rf)/\w4.heap.size<=wq.heap.size)) (fun _ i _=>rf.length - (intOf i).toNat)
    case atStart=>exact ⟨0,rfl,n0q _,H6.o.1,H6.o.2,d0.o,ea.o,cx.o.2⟩
    case round=>
     obtain ⟨j,rfl,hj,HJ⟩:=hrel;by_cases bh:j<rf.length
     ·have bi:(j:Int)<(rf.length:Int):=by omega
      obtain ⟨ho,hn,L,hq,e4⟩:=HJ.o;obtain ⟨gQ,off,rfl,lQ,e0⟩:=(rg hq (by omega)).atI j bh;have el:=d6.o rf[j] (gm _);obtain ⟨a,ha⟩:∃a:Nat,rf[j]=(a:Int):=⟨rf[j].toNat,by omega⟩;rw [ha]at el e0;have au:(rf.take (j+1)).foldl (sj mv) Y=sj mv ((rf.take j).foldl (sj mv) Y) (a:Int):=by rw [zyq rf j bh,foldl_append,ha];rfl
      have bs:=zzq (mv:=mv) (by rw [a3.o];exact d4.o) (rf.take j) Y H4.o.2.2.1;have eo:((rf.take j).foldl (sj mv) Y).length=h.ab.length:=by rw [zys];exact H4.o.2.2.2.2
      obtain ⟨wj,e5⟩:∃wj,(rf.take j).foldl (sj mv) Y=wj:=⟨_,rfl⟩;rw [e5]at au bs eo ho;have ej:a<wj.length:=by omega
      have xv:=(ho.cellAt a (by rw [Nat.mul_one];omega)).trans (Dy ej);have xz:=ho.frozenAt a;have xl:=(ho.lt F rfl).2;obtain ⟨D,O,hD⟩:=hn;have J:keyOf prog 3 (.i wj[a])=some (jt wj[a]):=keyOf_int_mk underlying3 (bs wj[a] (gm _));have c5:(rf.take (j+1)).foldl (sj mv) Y=wj.set a (nc mv wj[a]):=by rw [au,sj,qm ej,Int.toNat_natCast]
      obtain ⟨x,hx⟩:∃x,wj[a]=x:=⟨_,rfl⟩;rw [hx]at xv J c5;obtain ⟨W3,ad⟩:∃W3,W3=wr.setCell ⟨F,a,none⟩ (.i (nc mv x)):=⟨_,rfl⟩;have Z:wr.grownBy W3 (some F):=ad ▸ pi (grownBy.refl _ _) _ _ (inl rfl);have g7:=cx.o;have ct:Hid (W3.ownsRow w.heap.size 3 1 (.slice (some ⟨F,0,none⟩) h.ab.length h.ab.length) h.ab.length (b8 ((rf.take (j+1)).foldl (sj mv) Y))/\j9 W3 w.heap.size mv/\Bl w W3/\W3.ownsRow w4.heap.size 3 1 (.slice (some ⟨gQ,off,none⟩) rf.length cQ) rf.length (b8 rf)/\w4.heap.size<=W3.heap.size):=by refine ⟨?_,HJ.o.2.1.kept Z (fun e=>by have:=ojq e;omega),L.grown Z L.size (fun j e=>by cases e;omega),hq.kept Z (inr fun e=>by have:=(hq.lt _ e).1;omega),lt3 e4 Z.size⟩;rw [c5,b8,map_set,ad];exact B4 ho a _
      have cr:=aj ad;have HD:=aj hD;have HK:=aj J;have i4:IntKind.i64.wrap ((j:Int)+1)=(j:Int)+1:=by rw [IntKind.wrap_i64];omega
      have hu:(a:Int)<(h.ab.length:Int):=by omega
      clear ho L hq e4 el ha au bs eo e5 hD J c5 hx ad Z g7 HJ;go_wp2_with (at_lookup;refine wpList_lookup_own_int _ rfl _ _ 194 rfl 3 3 .i64 qq underlying194 underlying3 (xh _) w.heap.size mv.length D rfl O _ _ rfl HK.o ?_);intro c N dl;have bf:=zzv HD.o N;rw [bf];clear bf N dl O;go_wp2_with fail;rw [<-cr.o];go_roundw
      case rel=>exact ⟨j+1,by go_num,by omega,ct⟩
      case measure=>simp [intOf];omega
     have bi:(rf.length:Int)<=(j:Int):=by omega
     have c7:j=rf.length:=by omega
     subst c7;rw [take_length]at HJ;rw [<-cu.o]at HJ;have i3:IntKind.i64.wrap ((k:Int)+1)=(k:Int)+1:=by rw [IntKind.wrap_i64];omega
     have fl:Hid (wr.ownsRow w.heap.size 3 1 (.slice (some ⟨F,0,none⟩) h.ab.length h.ab.length) h.ab.length (b8 (qx d.fields mv h.ab (mv.take (k+1))))/\j9 wr w.heap.size mv/\Bl w wr/\F<wr.heap.size):=⟨HJ.o.1,HJ.o.2.1,HJ.o.2.2.1,by have:=cx.o;have:=HJ.o.2.2.2.2;omega⟩;clear HJ H4 d6 ea d0 H6 cu;go_wp2_with fail;go_roundw
     case rel=>exact ⟨k+1,by go_num,by omega,fl⟩
     case measure=>simp [intOf];omega
   have bl:(ts.length:Int)<=(k:Int):=by omega
   have c8:k=ts.length:=by omega
   subst c8;have dd:mv.length=ts.length:=by rw [a3.o,zyp]
   rw [take_of_length_le (by omega:mv.length<=ts.length)]at HI;obtain ⟨E,hn,L,I⟩:=HI.o;obtain ⟨ws,av⟩:∃ws,qx d.fields mv h.ab mv=ws:=⟨_,rfl⟩;rw [av]at E;have f0:=aj av;have oT:=HO.o.below L;have ee:=bg oT.blk 12 (x:=.slice aR rs.length cR) rfl;have fa:=bz oT.blk;have fo:Hid (qd b B wr T (.slice (some ⟨gW,0,none⟩) h.ab.length dW) (.slice aO h.ap.length cO) (.slice aR rs.length cR) (.slice aC d.am.length cC) (.slice aS d.bj.length cS) (.slice aF d.fields.length cF) (.slice aN d.names.length cN) (.slice aT d.ba.length cT) h rs d/\wr.ownsRow w.heap.size 3 1 (.slice (some ⟨F,0,none⟩) h.ab.length h.ab.length) h.ab.length (b8 ws)/\j9 wr w.heap.size mv/\Below b w wr/\F<wr.heap.size):=⟨oT,E,hn,L.mono (by omega),I⟩;clear E hn L I av oT HI dd;go_wp2_with fail;go_loopw [14,15,101] (fun _ _ i wq=>∃j:Nat,i=.i (j:Int)/\j<=rs.length/\Hid (qd b B wq T (.slice (some ⟨gW,0,none⟩) h.ab.length dW) (.slice aO h.ap.length cO) (.slice aR rs.length cR) (.slice aC d.am.length cC) (.slice aS d.bj.length cS) (.slice aF d.fields.length cF) (.slice aN d.names.length cN) (.slice aT d.ba.length cT) h ((rs.take j).map (nc mv)++rs.drop j) d/\wq.ownsRow w.heap.size 3 1 (.slice (some ⟨F,0,none⟩) h.ab.length h.ab.length) h.ab.length (b8 ws)/\j9 wq w.heap.size mv/\Below b w wq/\F<wq.heap.size)) (fun _ _ i _=>rs.length - (intOf i).toNat)
   case atStart=>exact ⟨0,rfl,n0q _,fo⟩
   case round=>
    obtain ⟨j,rfl,hj,HJ⟩:=hrel;by_cases bh:j<rs.length
    ·have bi:(j:Int)<(rs.length:Int):=by omega
     obtain ⟨o4,E,hn,L,I⟩:=HJ.o;have c9:((rs.take j).map (nc mv)++rs.drop j).length=rs.length:=by simp;omega
     have hR:=o4.rR;obtain ⟨gR,gg⟩:∃gR,aR=some ⟨gR,0,none⟩:=by
      rcases hR.2 with ⟨-,h0⟩ | ⟨g,cap,f1,e,-⟩
      ·omega
      injection e with e1 e2 e3;exact ⟨g,e1⟩
     subst gg;rw [c9]at hR;have xv:=(hR.cellAt j (by rw [Nat.mul_one];omega)).trans (Dy (by omega:j<((rs.take j).map (nc mv)++rs.drop j).length));rw [show ((rs.take j).map (nc mv)++rs.drop j)[j]'(by omega)=rs[j] from ojq ((getElem?_eq_getElem (by omega)).symm.trans (zzw (nc mv) rs j bh))]at xv;have ds:=c1.o.1 rs[j] (gm _);have dg:=zzx (nc mv) rs j bh;obtain ⟨x,hx⟩:∃x,rs[j]=x:=⟨_,rfl⟩;rw [hx]at xv ds dg;have xz:=hR.frozenAt j;have xl:=(hR.lt gR rfl).2;obtain ⟨D,O,hD⟩:=hn.below (br _ wr).drew (by omega);obtain ⟨c,az,N,-⟩:=O.lookup_int qq underlying194 underlying3 (xh _) (keyOf_int_mk underlying3 ds);rw [zzv hD N]at az;have ef:=bg o4.blk 12 (x:=.slice (some ⟨gR,0,none⟩) rs.length cR) rfl;have ih:=bz o4.blk;obtain ⟨W3,ad⟩:∃W3,W3=wr.setCell ⟨gR,j,none⟩ (.i (nc mv x)):=⟨_,rfl⟩;have Z:wr.grownBy W3 (some gR):=ad ▸ pi (grownBy.refl _ _) _ _ (inl rfl);have gl:gR<w.heap.size:=(HO.o.rR.lt gR rfl).2;have ct:Hid (qd b B W3.drew T (.slice (some ⟨gW,0,none⟩) h.ab.length dW) (.slice aO h.ap.length cO) (.slice (some ⟨gR,0,none⟩) rs.length cR) (.slice aC d.am.length cC) (.slice aS d.bj.length cS) (.slice aF d.fields.length cF) (.slice aN d.names.length cN) (.slice aT d.ba.length cT) h ((rs.take (j+1)).map (nc mv)++rs.drop (j+1)) d/\W3.drew.ownsRow w.heap.size 3 1 (.slice (some ⟨F,0,none⟩) h.ab.length h.ab.length) h.ab.length (b8 ws)/\j9 W3.drew w.heap.size mv/\Below b w W3.drew/\F<W3.drew.heap.size):=by
      obtain ⟨o5,b7⟩:=o4.roots (k:=gR) (rs':=(rs.take (j+1)).map (nc mv)++rs.drop (j+1)) rfl Z (by
       rw [dg,length_set,c9,b8,map_set,ad];exact B4 hR j _)
      have hf:=Z.size;exact ⟨o5.below (br _ _).drew,km (E.kept Z (inr fun e=>by have e':F=gR:=ojq e;omega)) (br _ _).drew,(hn.kept Z (fun e=>by have:=ojq e;omega)).below (br W3.heap.size _).drew (by omega),L.trans (b7.trans (br _ _).drew),ll3 I hf⟩
     have cr:=aj ad;have hy:IntKind.i64.wrap ((j:Int)+1)=(j:Int)+1:=by rw [IntKind.wrap_i64];omega
     clear o4 E hn L I c9 hR ds dg hx O hD N ad Z gl HJ ee fa;go_wp2_with fail;refine zrg (fun W'=>W'.cell? ⟨T,12,none⟩=some (.slice (some ⟨gR,0,none⟩) rs.length cR)/\(Instr.lookup 194 (.map (some w.heap.size)) (.i x) false).run prog W'=.ok (.i (nc mv x)) W') 9 (by kernel_rfl) ⟨ef,az⟩ fun G=>?_;refine qi 0 (.p T) rfl (by kernel_rfl) (by kernel_rfl) (fun _ _ _ h=>h) ?_ G ?_
     ·intro w;go_simp
     refine qi 1 (.p T) rfl (by kernel_rfl) (by kernel_rfl) (fun _ _ _ h=>h) ?_ G ?_
     ·intro w;go_simp
     refine qi 2 (.pointer (some ⟨T,12,none⟩)) rfl (by kernel_rfl) (by kernel_rfl) (fun _ _ _ h=>h) ?_ G ?_
     ·intro w;go_simp
     refine B6 3 (.slice (some ⟨gR,0,none⟩) rs.length cR) rfl (by kernel_rfl) (by kernel_rfl) (by kernel_rfl) (fun _ _ _ h=>h) ?_ G ?_
     ·intro w c2;obtain ⟨s0,s1⟩:=c2;go_simp
     refine qi 4 (.i (j:Int)) rfl (by kernel_rfl) (by kernel_rfl) (fun _ _ _ h=>h) ?_ G ?_
     ·intro w;go_simp
     refine qi 5 (.map (some w.heap.size)) rfl (by kernel_rfl) (by kernel_rfl) (fun _ _ _ h=>h) ?_ G ?_
     ·intro w;go_simp
     refine qi 6 (.i x) rfl (by kernel_rfl) (by kernel_rfl) (fun _ _ _ h=>h) ?_ G ?_
     ·intro w;go_simp
     refine B6 7 (.i (nc mv x)) rfl (by kernel_rfl) (by kernel_rfl) (by kernel_rfl) (fun _ _ _ h=>h) ?_ G ?_
     ·intro w c2;obtain ⟨s0,s1⟩:=c2;go_simp
     refine qi 8 (.pointer (some ⟨gR,j,none⟩)) rfl (by kernel_rfl) (by kernel_rfl) (fun _ _ _ h=>h) ?_ G ?_
     ·intro w;go_simp
     refine Ba (rs:=[9]) (by kernel_rfl) (by simp) ?_;refine lr.cons rfl (fun K9 gb=>?_) lr.nil;go_simp;refine gb.o _ _ (fun h=>absurd rfl h) ?_;rw [<-cr.o];refine zrf (by kernel_rfl) ?_ _;try simp only [Act.put,p1q,p4q,p3q,p2q,p5q,p6q]
     go_wp2_with fail;go_roundw
     case rel=>exact ⟨j+1,by go_num,by omega,ct⟩
     case measure=>simp [intOf];omega
    have bi:(rs.length:Int)<=(j:Int):=by omega
    have c7:j=rs.length:=by omega
    subst c7;obtain ⟨o4,E,hn,L,I⟩:=HJ.o;rw [take_length,drop_length,append_nil]at o4;have bu:ws.length=h.ab.length:=by have:=E.1;rw [vi,Nat.mul_one]at this;exact this
    have k0:=bg o4.blk 0 (x:=.slice (some ⟨gW,0,none⟩) h.ab.length dW) rfl;have k4:=bg o4.blk 4 (x:=.i h.be) rfl;have kz:=fun i=>pq o4.blk i;have it:=bz o4.blk;obtain ⟨W8,b5⟩:∃W8,W8=(wr.setCell ⟨T,0,none⟩ (.slice (some ⟨F,0,none⟩) h.ab.length h.ab.length)).setCell ⟨T,4,none⟩ (.i (h.ae+1+ii ts)):=⟨_,rfl⟩;have c6:wr.grownBy W8 (some T):=b5 ▸ pi (pi (grownBy.refl _ _) _ _ (inl rfl)) _ _ (inl rfl);have c4:=s9 (s9 o4.blk (j:=0) (.slice (some ⟨F,0,none⟩) h.ab.length h.ab.length)) (j:=4) (.i (h.ae+1+ii ts));rw [<-b5]at c4;obtain ⟨o8,ci⟩:=o4.newW (g:=F) (cap:=h.ab.length) (ws:=ws) (ot:=h.ae+1+ii ts) c6 (by rw [bu];exact c4) (by rw [bu];exact vb (E.kept c6 (inr fun e=>by have e':F=T:=ojq e;omega)) (by omega)) ⟨by omega,fun k e=>by have:=(HO.o.rO.lt k e).2;omega,fun k e=>by have:=(HO.o.rR.lt k e).2;omega⟩;have d3:=aj (zwe W8 b B T _ _ _ _ _ _ _ _ _ _ d o8 ⟨he.1,by show h.ae<=1000000;omega⟩ (by show h.ae+1<=(ws.length:Int);omega));have fc:Hid (Below b w W8):=L.trans ci;have fj:=aj b5;clear o4 E hn L I bu b5 c6 c4 o8 ci HJ ee fa;go_wp2_with fail;rw [<-fj.o];refine d3.o.mono ?_;rintro r w9 ⟨rfl,o9,ek⟩;have HF:=aj (And.intro o9 ek);clear o9 ek d3;go_wp2_with fail;go_end0;rw [<-a3.o,f0.o];exact ⟨rfl,fc.o.trans HF.o.2,_,HF.o.1⟩
end Go.Proofs.YtjdnmblggdobgaaGreat
