import Derived.Test.YtjdnmblggdobgaaGreatJHpMHpP
import Derived.Test.YtjdnmblggdobgaaGreatJLSetLQs
import Derived.Deep.AppendLies
set_option maxHeartbeats 4000000
set_option maxRecDepth 100000
namespace Go.Proofs.YtjdnmblggdobgaaGreat
open Go.Maps Go.RowKit Tryz List Or World
variable (w:World) (Q B c:Nat) (vW vO kC kS kF kN kT:Value) (h:ar) (d:ax)
theorem zez (a b c e:Value) {x0 x1 x2 x3:Value} (h0:w.cell? ⟨Q,0,none⟩=some x0) (h1:w.cell? ⟨Q,1,none⟩=some x1) (h2:w.cell? ⟨Q,2,none⟩=some x2) (h3:w.cell? ⟨Q,3,none⟩=some x3):
 ∃W,W=(((w.setCell ⟨Q,0,none⟩ a).setCell ⟨Q,1,none⟩ b).setCell ⟨Q,2,none⟩ c).setCell ⟨Q,3,none⟩ e/\w.grownBy W (some Q)/\W.cell? ⟨Q,0,none⟩=some a/\W.cell? ⟨Q,1,none⟩=some b/\W.cell? ⟨Q,2,none⟩=some c/\W.cell? ⟨Q,3,none⟩=some e:=by
 have o:∀(W:World) (i j:Nat) (v:Value),i≠j->(W.setCell ⟨Q,i,none⟩ v).cell? ⟨Q,j,none⟩=W.cell? ⟨Q,j,none⟩:=fun W i j v A=>cell?_setCell_other _ _ _ _ (fun h=>A (congrArg Addr.off h));have Z:w.grownBy (w.setCell ⟨Q,0,none⟩ a) (some Q):=pi (grownBy.refl _ _) _ _ (inl rfl);have D:=cell?_setCell_same w ⟨Q,0,none⟩ a h0;have E:=(o w 0 1 a (by decide)).trans h1;have F:=(o w 0 2 a (by decide)).trans h2;have G:=(o w 0 3 a (by decide)).trans h3;generalize w.setCell ⟨Q,0,none⟩ a=w1 at*;have g2:=pi Z ⟨Q,1,none⟩ b (inl rfl);have I:=(o w1 1 0 b (by decide)).trans D;have J:=cell?_setCell_same w1 ⟨Q,1,none⟩ b E;have L:=(o w1 1 2 b (by decide)).trans F;have N:=(o w1 1 3 b (by decide)).trans G;generalize w1.setCell ⟨Q,1,none⟩ b=w2 at*;have g3:=pi g2 ⟨Q,2,none⟩ c (inl rfl);have O:=(o w2 2 0 c (by decide)).trans I;have V:=(o w2 2 1 c (by decide)).trans J;have X:=cell?_setCell_same w2 ⟨Q,2,none⟩ c L;have Y:=(o w2 2 3 c (by decide)).trans N;generalize w2.setCell ⟨Q,2,none⟩ c=w3 at*;have g4:=pi g3 ⟨Q,3,none⟩ e (inl rfl);exact ⟨_,rfl,g4,(o w3 3 0 e (by decide)).trans O,(o w3 3 1 e (by decide)).trans V,(o w3 3 2 e (by decide)).trans X,cell?_setCell_same w3 ⟨Q,3,none⟩ e Y⟩
theorem ze0 (g:Gd B w c vW vO kC kS kF kN kT h d) (A:Nat) (hl:A+2<h.ab.length):
 Calls prog 141 #[.p c,.i (A:Int)] w fun r w'=>r=.returned (nw (bp h.ab A))/\Bl w w':=by
 obtain ⟨E,N⟩:∃E,E=w.alloc (.cells #[.i 0,.i 0,.i 0,.i 0] 101):=⟨_,rfl⟩;have G:Bl w E:=N ▸ (br w.heap.size w).alloc (nlq _) _;have D:E.heap[w.heap.size]? =some (.cells #[.i 0,.i 0,.i 0,.i 0] 101 (0,0)):=N ▸ heap_alloc_new w _;have F:=g.below G;have ad:=F.lt;have ae:=g.lt;have c0:=F.c0;have X:=aj N;have W:=aj G;obtain ⟨aW,cW,rfl,-,hm,-⟩:=F.sW;unfold maxLen at hm;obtain ⟨bW,oW,rfl,ac,e0⟩:=F.sW.atI A (by omega);obtain ⟨b1,o1,J,-,e1⟩:=F.sW.atI (A+1) (by omega);obtain ⟨b2,o2,L,-,e2⟩:=F.sW.atI (A+2) (by omega);obtain ⟨rfl,rfl⟩:b1=bW/\o1=oW:=by simpa using J.symm
 obtain ⟨rfl,rfl⟩:b2=b1/\o2=o1:=by simpa using L.symm
 have V:Hid (bp h.ab A=⟨A,h.ab[A],h.ab[A+1],h.ab[A+2]⟩):=by show bp h.ab A=_;rw [bp,qm (by omega:A<h.ab.length),show (A:Int)+1=((A+1:Nat):Int) by omega,qm (by omega:A+1<h.ab.length),show (A:Int)+2=((A+2:Nat):Int) by omega,qm hl]
 have O:Hid (b2<w.heap.size):=ll3 (by obtain ⟨_,_,e,-,-,hh⟩:=g.sW;obtain ⟨b',_,_,e',Z,_⟩:=hh A (by omega);cases e;cases e';exact Z) g.le;have aa:=O.o;have q0:(0:Int)<=A:=by omega
 have q1:(A:Int)<h.ab.length:=by omega
 have q2:(0:Int)<=(A:Int)+1:=by omega
 have q3:(A:Int)+1<h.ab.length:=by omega
 have q4:(0:Int)<=(A:Int)+2:=by omega
 have q5:(A:Int)+2<h.ab.length:=by omega
 have q6:((A:Int)+1).toNat=A+1:=by omega
 have q7:((A:Int)+2).toNat=A+2:=by omega
 have w1:IntKind.i64.wrap ((A:Int)+1)=(A:Int)+1:=gw _ (by omega) (by omega);have w2:IntKind.i64.wrap ((A:Int)+2)=(A:Int)+2:=gw _ (by omega) (by omega);have r0:=bg D 0 (x:=.i 0) rfl;have r1:=bg D 1 (x:=.i 0) rfl;have r2:=bg D 2 (x:=.i 0) rfl;have r3:=bg D 3 (x:=.i 0) rfl;have z0:=pq D;have lz:=bz D;generalize h.ab[A]=x0 at*;generalize h.ab[A+1]=x1 at*;generalize h.ab[A+2]=x2 at*;generalize h.ab.length=wl at*;clear g F J L D N hl;go_enter func141,ntmps141
 go_wp21
 rw [<-X.o]
 go_region_held3 (fun W'=>∀p:Addr,p.block<w.heap.size->W'.cell? p=E.cell? p) (exact fun p hp=>Below.cell (B:=w.heap.size) (w:=E) (by repeat (first | assumption | exact br _ _ | refine Below.drew ?_ | refine Below.setCell ?_ (by simp) _)) hp) (fail)
 all_goals
  rename_i hH;clear hH;obtain ⟨W9,h9,I,t0,t1,t2,t3⟩:=zez E w.heap.size (.i (A:Int)) (.i x0) (.i x1) (.i x2) r0 r1 r2 r3;rw [<-h9];have Y:=pf W.o I (nlq _);clear h9 I
  go_wp21
  exact bodyPost_ret (v:=.agg #[.i (A:Int),.i x0,.i x1,.i x2]) (by simp [results,results141,go_sem,t0,t1,t2,t3]) rfl ⟨by rw [V.o];rfl,Y.drew⟩
def jw (fs:List (List bv)) (t:bq) (n:Nat):Bool:=if 3<=t.tag then (match (iu fs t.tag)[n]? with | some f=>decide (f.kind.kind≠1) | none=>false) else decide (t.tag=2)
structure qf (d:ax) (t:bq):Prop where
 tag:3<=t.tag->t.tag<3+d.fields.length/\t.len=(iu d.fields t.tag).length
 lo:0<=t.len
 hi:t.len<=1000000
 loc:0<=t.loc/\t.loc<=1000000
theorem ze1 (g:Gd B w c vW vO kC kS kF kN kT h d) (t:bq) (N:qf d t) (n:Nat) (hn:(n:Int)<t.len):
 Calls prog 131 #[.p c,nw t,.i (n:Int)] w fun r w'=>r=.returned (.bool (jw d.fields t n))/\Bl w w':=by
 have aa:=g.lt;have c9:=g.c9;have L:=aj g.lk.F;have A:=aj (fun o=>(br w.heap.size w).alloc (nlq _) o);obtain ⟨aF,cF,rfl,-,hm,-⟩:=g.lk.F;unfold maxLen at hm;unfold nw;by_cases h1:3<=t.tag
 ·obtain ⟨V,W⟩:=N.tag h1;obtain ⟨k,X⟩:∃k:Nat,t.tag=3+k:=⟨(t.tag - 3).toNat,by omega⟩;have G:k<d.fields.length:=by omega
  obtain ⟨bF,oF,aV,cV,rfl,Y,e1,O⟩:=L.o.atSl k G;have D:iu d.fields t.tag=d.fields[k]:=by unfold iu;rw [X,show ((3+(k:Int)) - 3).toNat=k by omega];simp [G]
  rw [D]at W;have I:n<d.fields[k].length:=by omega
  obtain ⟨bV,oV,rfl,Z,-,e2,-⟩:=O.atF n I;have J:Hid (jw d.fields t n=decide (d.fields[k][n].kind.kind≠1)):=by show jw d.fields t n=_;rw [jw,if_pos h1,D];simp [I]
  have q1:(0:Int)<=k:=by omega
  have q2:(k:Int)<d.fields.length:=by omega
  have q3:t.tag - 3=k:=by omega
  have q4:(0:Int)<=n:=by omega
  have wk:IntKind.i64.wrap (k:Int)=k:=gw _ (by omega) (by omega);have ae:IntKind.i64.wrap (3+(k:Int) - 3)=k:=(by rw [show 3+(k:Int) - 3=k by omega];exact wk);have q5:(n:Int)<d.fields[k].length:=by omega
  have ad:d.fields[k].length<=9223372036854775807:=by obtain ⟨_,_,-,-,h,-⟩:=O;unfold maxLen at h;omega
  generalize d.fields[k][n].kind.kind=kk at*;generalize d.fields[k].length=fl at*;clear O D L g N W hn;rw [X]at*;by_cases E:kk=1
  ·subst E;go_enter func131,ntmps131
   go_wp21
   go_quiet (fail)
   go_wp21
   go_ret;exact ⟨by rw [J.o];rfl,pa (A.o _) _⟩
  have ac:(kk==1)=false:=beq_eq_false_iff_ne.2 E;go_enter func131,ntmps131
  go_wp21
  go_quiet (fail)
  go_wp21
  go_ret;exact ⟨by rw [J.o];simp [E],pa (A.o _) _⟩
 have J:Hid (jw d.fields t n=decide (t.tag=2)):=by show jw d.fields t n=_;rw [jw,if_neg h1]
 clear L g N;go_enter func131,ntmps131
 go_wp21
 go_ret;exact ⟨by rw [J.o];by_cases V:t.tag=2<;>simp [V],A.o _⟩
def refsOf (fs:List (List bv)) (t:bq):List Int:=((range t.len.toNat).filter (jw fs t)).map fun (n:Nat)=>t.loc+3+(n:Int)
def b8 (ns:List Int):List Value:=ns.map fun x=>.i x
theorem rg {w:World} {B:Nat} {v:Value} {ns:List Int} (h:w.ownsRow B 3 1 v ns.length (b8 ns)) (E:ns.length<=1000000):SL 1 RI (MT B [3] w) w v ns:=by
 have A:(ns.map fun x:Int=>([Value.int .i64 x],x)).length=ns.length:=by simp
 have D:(ns.map fun x:Int=>([Value.int .i64 x],x)).flatMap (·.1)=b8 ns:=by
  rw [flatMap_map,b8];clear h E A;induction ns with
  | nil=>rfl
  | cons x r ih=>rw [flatMap_cons,ih];rfl
 have:=xr (n:=1) (R:=RI) (T:=[3]) (zs:=ns.map fun x:Int=>([Value.int .i64 x],x)) (by rw [A,D];exact h) (fun z A=>by
  obtain ⟨s,F,rfl⟩:=mem_map.1 A;exact ⟨rfl,rfl⟩) (by simp) (by rw [A];unfold maxLen;omega)
 rwa [map_map,show ((·.2)∘fun x:Int=>([Value.int .i64 x],x))=id from rfl,map_id]at this
theorem ze3 (g:Gd B w c vW vO kC kS kF kN kT h d) (D:Nat) (E:Int) (bk:D<=1000000) (ht:E<=h.ab.length) (bc:d.fields.length=d.am.length) (bd:∀f∈d.fields,f.length<=1000) (bb:d.am.length<=1000):
 Calls prog 217 #[.p c,.i (D:Int),.i E] w fun r w'=>Bl w w'/\∃t,r=.returned (.tuple #[nw t,.bool (je d.am.length d.fields h.ab D E)])/\(je d.am.length d.fields h.ab D E=true->t=bp h.ab D):=by
 have HG:=aj g;have ac:Bl w (w.alloc (.cells #[.i 0,.i 0,.i 0,.i 0] 101)):=(br w.heap.size w).alloc (nlq _) _;have ay:=aj ac;by_cases h1:(D:Int)+3<=E
 rotate_left
 ·have HR:Hid (je d.am.length d.fields h.ab D E=false):=by show je _ _ _ _ _=false;simp [je,h1]
  have h2:E<(D:Int)+3:=by omega
  clear g ac;go_enter func217,ntmps217
  go_wp21
  exact bodyPost_ret (v:=.tuple #[nw ⟨0,0,0,0⟩,.bool false]) (by simp [results,results217,go_sem,nw]) rfl ⟨ay.o,⟨0,0,0,0⟩,by rw [HR.o],fun hh=>by rw [HR.o]at hh;cases hh⟩
 have bf:D+2<h.ab.length:=by omega
 have a2:Hid (Calls prog 141 #[.p c,.i (D:Int)] (w.alloc (.cells #[.i 0,.i 0,.i 0,.i 0] 101)) fun r w'=>r=.returned (.agg #[.i (bp h.ab D).loc,.i (bp h.ab D).tag,.i (bp h.ab D).len,.i (bp h.ab D).hash])/\Below (w.alloc (.cells #[.i 0,.i 0,.i 0,.i 0] 101)).heap.size (w.alloc (.cells #[.i 0,.i 0,.i 0,.i 0] 101)) w'):=ze0 _ B c _ _ _ _ _ _ _ h d (g.below ac) D bf;have g1:=g.below ac;have a5:(w.alloc (.cells #[.i 0,.i 0,.i 0,.i 0] 101)).heap[w.heap.size]? =some (.cells #[.i 0,.i 0,.i 0,.i 0] 101 (0,0)):=heap_alloc_new w _;have ak:=aj a5;have h2:¬E<(D:Int)+3:=by omega
 have a8:Hid ((bp h.ab D).loc=D):=rfl;have X:Hid (je d.am.length d.fields h.ab D E=(dx d.am.length (bp h.ab D).tag&&da d.fields (bp h.ab D).tag (bp h.ab D).len&&decide ((bp h.ab D).fin<=E))):=by show je _ _ _ _ _=_;rw [je,decide_eq_true h1];rfl
 have aw:da d.fields (bp h.ab D).tag (bp h.ab D).len=true->0<=(bp h.ab D).len/\(bp h.ab D).len<=1000:=fun V=>by
  refine ⟨yb V,?_⟩;unfold da at V;split at V
  ·have e:=of_decide_eq_true V;have:(iu d.fields (bp h.ab D).tag).length<=1000:=by
    unfold iu;cases hx:d.fields[((bp h.ab D).tag - 3).toNat]? with
    | none=>simp
    | some f=>exact bd f (mem_of_getElem? hx)
   omega
  rw [Bool.and_eq_true]at V;have:=of_decide_eq_true V.2;omega
 have a1:=aj aw;clear aw;generalize hth:bp h.ab D=th at*;clear g ac a5;go_enter func217,ntmps217
 go_wp21
 refine a2.o.mono ?_;rintro r Z ⟨rfl,ah⟩;have O:Bl w Z:=ay.o.trans (ah.mono ay.o.size);obtain ⟨N,av⟩:∃N,N=Z.alloc (.cells #[.i th.loc,.i th.tag,.i th.len,.i th.hash] 101):=⟨_,rfl⟩;have au:Bl Z N:=av ▸ (br _ _).alloc (nlq _) _;have G:Hid (Bl w N):=O.trans (au.mono O.size);have az:=aj av;have a7:=aj ((HG.o.below O).below au);have h8:N.heap[Z.heap.size]? =some (.cells #[.i th.loc,.i th.tag,.i th.len,.i th.hash] 101 (0,0)):=av ▸ heap_alloc_new Z _;have h6:N.heap[w.heap.size]? =some (.cells #[.i 0,.i 0,.i 0,.i 0] 101 (0,0)):=(au.block _ (ll3 (bz ak.o) ah.size)).trans ((ah.block _ (bz ak.o)).trans ak.o);have s0:=bg h8 0 (x:=.i th.loc) rfl;have s1:=bg h8 1 (x:=.i th.tag) rfl;have s2:=bg h8 2 (x:=.i th.len) rfl;have s3:=bg h8 3 (x:=.i th.hash) rfl;have l8:=bz h8;have r0:=bg h6 0 (x:=.i 0) rfl;have r1:=bg h6 1 (x:=.i 0) rfl;have r2:=bg h6 2 (x:=.i 0) rfl;have r3:=bg h6 3 (x:=.i 0) rfl;have z6:=pq h6;have l6:=bz h6;have bl:Z.heap.size≠w.heap.size:=by have:=bz ak.o;have:=ah.size;omega
 have bj:=HG.o.lt;clear ah O au av;have aa:Hid (∀W,Bl w W->Calls prog 98 #[.p c,.i th.tag] W fun r w'=>r=.returned (.bool (dx d.am.length th.tag))/\w'=W):=fun W hW=>zeo W B c _ _ _ _ _ _ _ h d (HG.o.below hW) th.tag bb;have an:Hid (dx d.am.length th.tag=true->∀W,Bl w W->Calls prog 99 #[.p c,.i th.tag,.i th.len] W fun r w'=>r=.returned (.bool (da d.fields th.tag th.len))/\w'=W):=fun hi W hW=>zep W B c _ _ _ _ _ _ _ h d (HG.o.below hW) th.tag th.len (by
  rw [dx,Bool.and_eq_true]at hi;have:=of_decide_eq_true hi.2;rw [bc];exact this)
 have ai:Hid (da d.fields th.tag th.len=true->∀W,Calls prog 72 #[.agg #[.i th.loc,.i th.tag,.i th.len,.i th.hash]] W fun r w'=>r=.returned (.i th.fin)/\Bl W w'):=fun V W=>Er W th (by rw [a8.o];unfold small;omega) (by have:=a1.o V;unfold small;omega);have bh:=aj G.o;clear a2 a7 h8 h6 a1;cases hi:dx d.am.length th.tag
 ·have HR:Hid (je d.am.length d.fields h.ab D E=false):=X.o.trans (by rw [hi];rfl);have HC:=aj (hi ▸ aa.o);clear aa an ai X
  go_wp21
  rw [<-az.o];refine wp_region_held_drew (S:=fun W'=>∀p:Addr,p.block<N.heap.size->p.block≠w.heap.size->W'.cell? p=N.cell? p) (by kernel_rfl) (fun p Y F=>rfl) fun A=>?_;refine ta 0 (.agg #[.i th.loc,.i th.tag,.i th.len,.i th.hash]) rfl A ?_;refine ta 1 (.p c) rfl A ?_;refine ta 2 (.p c) rfl A ?_;refine ta 3 (.p c) rfl A ?_;refine ta 4 (.pointer (some ⟨Z.heap.size,1,none⟩)) rfl A ?_;refine ta 5 (.i th.tag) rfl A ?_;refine wpAnyH_ready (rs:=[6]) (by kernel_rfl) (by simp) ?_;refine AllReadyH.cons rfl (fun K6 af=>?_) AllReadyH.nil;go_simp;refine (HC.o _ G.o.drew).mono ?_;rintro r _ ⟨rfl,rfl⟩;refine af.o _ _ (fun p Y F=>rfl) fun A=>?_;refine ta 7 (.bool false) rfl A ?_;refine pn 8 rfl A ?_;refine pn 9 rfl A ?_;refine pn 10 rfl A ?_;refine pn 11 rfl A ?_;refine pn 12 rfl A ?_;refine pn 13 rfl A ?_;refine pn 14 rfl A ?_;refine pn 15 rfl A ?_;refine ta 16 (.bool false) rfl A ?_;refine ta 17 (.bool false) rfl A ?_;refine pn 18 rfl A ?_;refine pn 19 rfl A ?_;refine pn 20 rfl A ?_;refine pn 21 rfl A ?_;refine ta 22 (.bool false) rfl A ?_;refine wpAnyH_ready (rs:=[23]) (by kernel_rfl) (by simp) ?_;refine AllReadyH.cons rfl (fun a3 I=>?_) AllReadyH.nil;go_simp;refine I.o _ _ (fun p Y F=>(cell?_setCell_other _ _ _ _ (fun e=>F (congrArg Addr.block e).symm)).trans ((cell?_setCell_other _ _ _ _ (fun e=>F (congrArg Addr.block e).symm)).trans ((cell?_setCell_other _ _ _ _ (fun e=>F (congrArg Addr.block e).symm)).trans ((cell?_setCell_other _ _ _ _ (fun e=>F (congrArg Addr.block e).symm)).trans (rfl))))) fun A=>?_;refine ta 24 (.bool false) rfl A ?_;refine wpAnyH_done (by kernel_rfl) ?_ _;obtain ⟨W9,h9,L,t0,t1,t2,t3⟩:=zez N w.heap.size (.i th.loc) (.i th.tag) (.i th.len) (.i th.hash) r0 r1 r2 r3;have ad:=pf (G.o) L (nlq _);clear A;rw [<-h9];clear h9 L;simp only [Act.put,p1q,p4q,p3q,p2q,p5q,p6q]
  go_wp21
  exact bodyPost_ret (v:=.tuple #[.agg #[.i th.loc,.i th.tag,.i th.len,.i th.hash],.bool false]) (by simp [results,results217,go_sem,t0,t1,t2,t3]) rfl ⟨ad.drew,th,by rw [HR.o];rfl,fun _=>rfl⟩
 have HC:=aj (hi ▸ aa.o);have al:=aj (an.o hi);cases V:da d.fields th.tag th.len
 ·have HR:Hid (je d.am.length d.fields h.ab D E=false):=X.o.trans (by rw [hi,V];rfl);have a0:=aj (V ▸ al.o);clear aa an ai X al
  go_wp21
  rw [<-az.o];refine wp_region_held_drew (S:=fun W'=>∀p:Addr,p.block<N.heap.size->p.block≠w.heap.size->W'.cell? p=N.cell? p) (by kernel_rfl) (fun p Y F=>rfl) fun A=>?_;refine ta 0 (.agg #[.i th.loc,.i th.tag,.i th.len,.i th.hash]) rfl A ?_;refine ta 1 (.p c) rfl A ?_;refine ta 2 (.p c) rfl A ?_;refine ta 3 (.p c) rfl A ?_;refine ta 4 (.pointer (some ⟨Z.heap.size,1,none⟩)) rfl A ?_;refine ta 5 (.i th.tag) rfl A ?_;refine wpAnyH_ready (rs:=[6]) (by kernel_rfl) (by simp) ?_;refine AllReadyH.cons rfl (fun K6 af=>?_) AllReadyH.nil;go_simp;refine (HC.o _ G.o.drew).mono ?_;rintro r _ ⟨rfl,rfl⟩;refine af.o _ _ (fun p Y F=>rfl) fun A=>?_;refine ta 7 (.bool true) rfl A ?_;refine ta 8 (.p c) rfl A ?_;refine ta 9 (.p c) rfl A ?_;refine ta 10 (.p c) rfl A ?_;refine ta 11 (.pointer (some ⟨Z.heap.size,1,none⟩)) rfl A ?_;refine ta 12 (.i th.tag) rfl A ?_;refine ta 13 (.pointer (some ⟨Z.heap.size,2,none⟩)) rfl A ?_;refine ta 14 (.i th.len) rfl A ?_;refine wpAnyH_ready (rs:=[15]) (by kernel_rfl) (by simp) ?_;refine AllReadyH.cons rfl (fun a9 ae=>?_) AllReadyH.nil;go_simp;refine (a0.o _ G.o.drew).mono ?_;rintro r _ ⟨rfl,rfl⟩;refine ae.o _ _ (fun p Y F=>rfl) fun A=>?_;refine ta 16 (.bool false) rfl A ?_;refine ta 17 (.bool false) rfl A ?_;refine pn 18 rfl A ?_;refine pn 19 rfl A ?_;refine pn 20 rfl A ?_;refine pn 21 rfl A ?_;refine ta 22 (.bool false) rfl A ?_;refine wpAnyH_ready (rs:=[23]) (by kernel_rfl) (by simp) ?_;refine AllReadyH.cons rfl (fun a3 I=>?_) AllReadyH.nil;go_simp;refine I.o _ _ (fun p Y F=>(cell?_setCell_other _ _ _ _ (fun e=>F (congrArg Addr.block e).symm)).trans ((cell?_setCell_other _ _ _ _ (fun e=>F (congrArg Addr.block e).symm)).trans ((cell?_setCell_other _ _ _ _ (fun e=>F (congrArg Addr.block e).symm)).trans ((cell?_setCell_other _ _ _ _ (fun e=>F (congrArg Addr.block e).symm)).trans (rfl))))) fun A=>?_;refine ta 24 (.bool false) rfl A ?_;refine wpAnyH_done (by kernel_rfl) ?_ _;obtain ⟨W9,h9,L,t0,t1,t2,t3⟩:=zez N w.heap.size (.i th.loc) (.i th.tag) (.i th.len) (.i th.hash) r0 r1 r2 r3;have ad:=pf (G.o) L (nlq _);clear A;rw [<-h9];clear h9 L;simp only [Act.put,p1q,p4q,p3q,p2q,p5q,p6q]
  go_wp21
  exact bodyPost_ret (v:=.tuple #[.agg #[.i th.loc,.i th.tag,.i th.len,.i th.hash],.bool false]) (by simp [results,results217,go_sem,t0,t1,t2,t3]) rfl ⟨ad.drew,th,by rw [HR.o];rfl,fun _=>rfl⟩
 have HR:Hid (je d.am.length d.fields h.ab D E=decide (th.fin<=E)):=X.o.trans (by rw [hi,V];rfl);have a0:=aj (V ▸ al.o);have a6:=aj (ai.o V);clear aa an ai X al;generalize th.fin=tf at*
 go_wp21
 rw [<-az.o];refine wp_region_held_drew (S:=fun W'=>∀p:Addr,p.block<N.heap.size->p.block≠w.heap.size->W'.cell? p=N.cell? p) (by kernel_rfl) (fun p Y F=>rfl) fun A=>?_;refine ta 0 (.agg #[.i th.loc,.i th.tag,.i th.len,.i th.hash]) rfl A ?_;refine ta 1 (.p c) rfl A ?_;refine ta 2 (.p c) rfl A ?_;refine ta 3 (.p c) rfl A ?_;refine ta 4 (.pointer (some ⟨Z.heap.size,1,none⟩)) rfl A ?_;refine ta 5 (.i th.tag) rfl A ?_;refine wpAnyH_ready (rs:=[6]) (by kernel_rfl) (by simp) ?_;refine AllReadyH.cons rfl (fun K6 af=>?_) AllReadyH.nil;go_simp;refine (HC.o _ G.o.drew).mono ?_;rintro r _ ⟨rfl,rfl⟩;refine af.o _ _ (fun p Y F=>rfl) fun A=>?_;refine ta 7 (.bool true) rfl A ?_;refine ta 8 (.p c) rfl A ?_;refine ta 9 (.p c) rfl A ?_;refine ta 10 (.p c) rfl A ?_;refine ta 11 (.pointer (some ⟨Z.heap.size,1,none⟩)) rfl A ?_;refine ta 12 (.i th.tag) rfl A ?_;refine ta 13 (.pointer (some ⟨Z.heap.size,2,none⟩)) rfl A ?_;refine ta 14 (.i th.len) rfl A ?_;refine wpAnyH_ready (rs:=[15]) (by kernel_rfl) (by simp) ?_;refine AllReadyH.cons rfl (fun a9 ae=>?_) AllReadyH.nil;go_simp;refine (a0.o _ G.o.drew).mono ?_;rintro r _ ⟨rfl,rfl⟩;refine ae.o _ _ (fun p Y F=>rfl) fun A=>?_;refine ta 16 (.bool true) rfl A ?_;refine ta 17 (.bool true) rfl A ?_;refine ta 18 (.agg #[.i th.loc,.i th.tag,.i th.len,.i th.hash]) rfl A ?_;refine ta 20 (.i E) rfl A ?_;refine wpAnyH_ready (rs:=[19]) (by kernel_rfl) (by simp) ?_;refine AllReadyH.cons rfl (fun bi a4=>?_) AllReadyH.nil;go_simp;refine (a6.o _).mono ?_;rintro r w5 ⟨rfl,ba⟩;have J:Bl N w5:=(br _ _).drew.trans ba;have y0:=(J.cell (p:=⟨w.heap.size,0,none⟩) l6).trans r0;have y1:=(J.cell (p:=⟨w.heap.size,1,none⟩) l6).trans r1;have y2:=(J.cell (p:=⟨w.heap.size,2,none⟩) l6).trans r2;have y3:=(J.cell (p:=⟨w.heap.size,3,none⟩) l6).trans r3;have z5:∀j,w5.frozen? ⟨w.heap.size,j,none⟩=false:=fun j=>(J.frozen (p:=⟨w.heap.size,j,none⟩) l6).trans (z6 j);refine a4.o _ _ (fun p Y F=>J.cell Y) fun A=>?_;refine ta 21 (.bool (decide (tf<=E))) rfl A ?_;refine ta 22 (.bool (decide (tf<=E))) rfl A ?_;refine wpAnyH_ready (rs:=[23]) (by kernel_rfl) (by simp) ?_;refine AllReadyH.cons rfl (fun a3 I=>?_) AllReadyH.nil;go_simp;refine I.o _ _ (fun p Y F=>(cell?_setCell_other _ _ _ _ (fun e=>F (congrArg Addr.block e).symm)).trans ((cell?_setCell_other _ _ _ _ (fun e=>F (congrArg Addr.block e).symm)).trans ((cell?_setCell_other _ _ _ _ (fun e=>F (congrArg Addr.block e).symm)).trans ((cell?_setCell_other _ _ _ _ (fun e=>F (congrArg Addr.block e).symm)).trans (J.cell Y))))) fun A=>?_;refine ta 24 (.bool (decide (tf<=E))) rfl A ?_;refine wpAnyH_done (by kernel_rfl) ?_ _;obtain ⟨W9,h9,L,t0,t1,t2,t3⟩:=zez w5 w.heap.size (.i th.loc) (.i th.tag) (.i th.len) (.i th.hash) y0 y1 y2 y3;have ad:=pf (G.o.trans (J.mono G.o.size)) L (nlq _);clear A;rw [<-h9];clear h9 L;simp only [Act.put,p1q,p4q,p3q,p2q,p5q,p6q]
 go_wp21
 exact bodyPost_ret (v:=.tuple #[.agg #[.i th.loc,.i th.tag,.i th.len,.i th.hash],.bool (decide (tf<=E))]) (by simp [results,results217,go_sem,t0,t1,t2,t3]) rfl ⟨ad,th,by rw [HR.o];rfl,fun _=>rfl⟩
end Go.Proofs.YtjdnmblggdobgaaGreat
