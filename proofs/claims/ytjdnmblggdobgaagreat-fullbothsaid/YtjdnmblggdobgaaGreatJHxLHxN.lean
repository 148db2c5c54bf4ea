import Derived.Test.YtjdnmblggdobgaaGreatJHzSHxK
set_option maxHeartbeats 8000000
set_option maxRecDepth 100000
namespace Go.Proofs.YtjdnmblggdobgaaGreat
open Go.Maps Go.RowKit Tryz List Or World
section
open Go.Shelf
theorem zzz {A D:List bq} (h:A.Perm D):ii A=ii D:=by
 induction h with
 | nil=>rfl
 | cons x _ ih=>simp only [ii,map_cons,sum_cons]at ih ⊢;omega
 | swap x y l=>simp only [ii,map_cons,sum_cons];omega
 | trans _ _ h1 h2=>exact h1.trans h2
def AllEnd (b B:Nat) (w:World) (T:Nat) (nR kC kS kF kN kT:Value) (h:ar) (rs:List Int) (d:ax) (ts:List bq) (r:Ending) (w':World):Prop:=
 (h.old<ic d h rs/\r=.returned (.bool false)/\Bl w w')\/
 (ic d h rs<=h.old/\r=.returned (.bool true)/\Below b w w'/\∃(all ls:List bq) (nW':Value),sm d h ts rs all []/\ls.Perm all/\ls.Pairwise (xo h.ae)/\ii ls=ic d h rs/\
  qd b B w' T nW' (.nl) nR kC kS kF kN kT (rq ⟨qx d.fields (pm (h.ae+1) ls) h.ab (pm (h.ae+1) ls),h.ae,h.old,h.bk,h.ae+1+ii ls,h.ap,h.next⟩) (rs.map (nc (pm (h.ae+1) ls))) d)
theorem zz0 (w:World) (b B T:Nat) (nW nO nR kC kS kF kN kT:Value) (h:ar) (rs:List Int) (d:ax) (o:qd b B w T nW nO nR kC kS kF kN kT h rs d) (ts:List bq) (E:Right d h ts) (hr:∀v∈rs,cq ts v=true) (hw:∀x∈h.ab,(Lit.int .i64 x).wf=true) (bf:rs.length<=1000) (bh:∀x∈rs,(Lit.int .i64 x).wf=true):
 Calls prog 95 #[.p T] w fun r w'=>AllEnd b B w T nR kC kS kF kN kT h rs d ts r w':=by
 have ck:=ri prog;obtain ⟨aO,cO,b4⟩:=ku o.rO;subst b4;obtain ⟨aR,cR,b5⟩:=ku o.rR;subst b5;obtain ⟨aW,cW,b6⟩:=ku o.rW;subst b6;obtain ⟨aC,cC,aS,cS,aF,cF,aN,cN,aT,cT,rfl,rfl,rfl,rfl,rfl⟩:=o.lk.agg;have z:=E.sized;have z1:=z.ae;have z2:=z.old;have z3:=z.len;have b7:h.ap.length<=1000000:=(zl1 E.err E.both hw).2.2;obtain ⟨W0,a7,ai,cm,k0⟩:=jq w #[.p T] 191;have c0:=bg k0 0 (x:=.p T) rfl;have ca:=bz k0;have lT:=bz o.blk;have cj:=o.bT;have a0:=aj (zyh W0 b B T _ _ _ _ _ _ _ _ h rs d (o.below ai) ts E hr hw bf);have bn:Hid (∀(X:Nat) (V:World),Calls prog 151 #[.map (some X)] V fun e w'=>e=.returned (.func (.func 194) #[] #[.p V.heap.size])/\w'=V.alloc (.cells #[.map (some X)] 199)):=fun X V=>(callsIn_wide (n:=1)).1 (zyw Fence.wide 1 trivial rfl (some X) V);have bm:=aj (And.intro E hr);have HO:=aj o;have aw:=aj ai;have bk:=aj a7;have bl:=aj k0;have a3:=aj (And.intro bh hw);clear o E hr hw bh z ai a7 k0;go_enter func95,ntmps95;go_wp2_with fail;rw [<-bk.o];go_wp2_with fail;refine a0.o.mono ?_;rintro r w1 ⟨ak,X,all,rfl,ac,A⟩;obtain ⟨E,hr⟩:=bm.o;have bi:=zvc E;rw [length_map]at bi;have b3:=A.few;have am:∀t∈all,qf d t/\1<=t.loc/\t.loc+3+t.len<=h.ab.length:=fun t Z=>by have a8:=B5 E.sized E.both t (A.inT t Z);have b2:t.fin=t.loc+3+t.len:=rfl;refine ⟨(if hy:t.loc<=h.ae then (ze E (A.inT t Z) hy).fit else (Bw E (A.inT t Z) (by omega)).2.2.2.1),a8.1,by omega⟩
 have bb:∀t∈all,0<=t.loc/\t.loc<=100000/\0<=t.len/\t.len<=5000:=fun t Z=>by have a8:=B5 E.sized E.both t (A.inT t Z);have b2:t.fin=t.loc+3+t.len:=rfl;omega
 have au:(all.map fun t:bq=>3+t.len).sum=ic d h rs:=by rw [<-zve E hr A.nd A.all,map_map];refine congrArg List.sum (map_congr_left fun t Z=>?_);exact congrArg (3+ ·) (congrArg bq.len (se E (A.inT t Z)))
 have O:Bl w w1:=aw.o.trans (ak.mono aw.o.size);have a2:Hid (∀V,Bl w1 V->Calls prog 147 #[.map (some X)] V fun r w'=>r=.returned (.i (ic d h rs))/\Bl V w'):=fun V hV=>by have:=zyd V X all (ac.below hV ac.lt) A.nd bb (by omega);rwa [au]at this
 have F:Hid ((all.map bq.loc).Nodup/\all.length<=50000/\(∀t∈all,1<=t.loc)/\(∀t∈all,qf d t/\1<=t.loc/\t.loc+3+t.len<=h.ab.length)/\ii all=ic d h rs):=⟨A.nd,by omega,fun t Z=>(am t Z).2.1,am,au⟩;have bj:=aj A;have k1:=(ak.block _ ca).trans bl.o;have o1:=HO.o.below O;have a4:=bg k1 0 (x:=.p T) rfl;have av:=bz k1;have bo:=bg o1.blk 2 (x:=.i h.old) rfl;have b9:=bz o1.blk;have af:=aj O;have N:=aj ac;clear ak ac A E hr bi b3 am bb au O k1 o1 a0;go_wp2_with fail;refine wp_region_held_drew (S:=fun W'=>∀p:Addr,p.block<w1.heap.size->W'.cell? p=w1.cell? p) (by kernel_rfl) (fun p hp=>rfl) fun D=>?_;refine ta 0 (.map (some X)) rfl D ?_;refine ta 2 (.p T) rfl D ?_;refine ta 3 (.p T) rfl D ?_;refine ta 4 (.p T) rfl D ?_;refine ta 5 (.p T) rfl D ?_;refine ta 6 (.pointer (some ⟨T,2,none⟩)) rfl D ?_;refine ta 7 (.i h.old) rfl D ?_;refine wpAnyH_ready (rs:=[1]) (by kernel_rfl) (by simp) ?_;refine AllReadyH.cons rfl (fun K1 bs=>?_) AllReadyH.nil;go_simp;refine (a2.o _ (br _ _).drew).mono ?_;rintro r w2 ⟨rfl,a9⟩;have J:Bl w1 w2:=(br w1.heap.size w1).drew.trans a9;refine bs.o _ _ (fun p hp=>J.cell hp) fun D=>?_;refine ta 8 (.bool (decide (h.old<ic d h rs))) rfl D ?_;refine wpAnyH_done (by kernel_rfl) ?_ _;clear D;try simp only [Act.put,p1q,p4q,p3q,p2q,p5q,p6q]
 have ah:Hid (Bl w w2):=af.o.trans (J.mono af.o.size);have ay:Hid (kc w2 X all):=N.o.below J N.o.lt;have aa:Hid (w.heap.size<w2.heap.size/\X<w2.heap.size):=⟨ll3 av J.size,ay.o.lt⟩;have a5:=(J.cell (p:=⟨w.heap.size,0,none⟩) av).trans a4;clear a9 J a2 N af a4 bo av b9;by_cases hc:h.old<ic d h rs
 ·go_wp2_with fail;go_ret;exact inl ⟨hc,rfl,ah.o⟩
 have b1:ic d h rs<=h.old:=by omega
 have HC:=aj b1;go_wp2_with fail;refine zrg (fun W'=>W'.cell? ⟨w.heap.size,0,none⟩=some (.p T)) 5 (by kernel_rfl) a5 fun D=>?_;refine B6 0 (.p T) rfl (by kernel_rfl) (by kernel_rfl) (by kernel_rfl) (fun _ _ _ h=>h) ?_ D ?_
 ·intro w ci;go_simp
 refine qi 1 (.map (some X)) rfl (by kernel_rfl) (by kernel_rfl) (fun _ _ _ h=>h) ?_ D ?_
 ·intro w;go_simp
 refine qi 3 (.func (.func 152) #[] #[.p w.heap.size]) rfl (by kernel_rfl) (by kernel_rfl) (fun _ _ _ h=>h) ?_ D ?_
 ·intro w;go_simp
 refine Ba (rs:=[2]) (by kernel_rfl) (by simp) ?_;refine lr.cons rfl (fun K2 bu=>?_) lr.nil;go_simp;refine (bn.o _ _).mono ?_;rintro r w3 ⟨rfl,ad⟩;have G:Bl w2 w3:=by rw [ad];exact (br _ _).drew.alloc (nlq _) _
 have I:Bl w w3:=ah.o.trans (G.mono ah.o.size);have ce:w3.heap.size=w2.heap.size+1:=by rw [ad];exact size_alloc _ _
 have bc:w3.heap[w2.heap.size]? =some (.cells #[.map (some X)] 199 (0,0)):=by rw [ad];exact heap_alloc_new w2.drew _
 have D:w3.cell? ⟨w.heap.size,0,none⟩=some (.p T):=(G.cell (p:=⟨w.heap.size,0,none⟩) aa.o.1).trans a5;have o3:=HO.o.below I;have a6:=bg o3.blk 1 (x:=.i h.ae) rfl;have a1:=aj (zzi w3 w2.heap.size X w.heap.size T all h.ae (by omega) (bg bc 0 rfl) (ay.o.below G aa.o.2) F.o.1 (by have:=F.o.2.1;omega) F.o.2.2.1 (by have:=aa.o.1;omega) (bz o3.blk) D a6);clear ad;refine bu.o _ _ (fun _ _=>D) ?_;refine Ba (rs:=[4]) (by kernel_rfl) (by simp) ?_;refine lr.cons rfl (fun K4 bx=>?_) lr.nil;go_simp;refine a1.o.mono ?_;rintro r w4 ⟨vS,ls,rfl,L,bd,Y,al⟩;have W:Bl w w4:=I.trans (al.mono I.size);have D:w4.cell? ⟨w.heap.size,0,none⟩=some (.p T):=(al.cell (p:=⟨w.heap.size,0,none⟩) (by show w.heap.size<_;have:=aa.o.1;omega)).trans D;have an:ii ls=ic d h rs:=by rw [<-F.o.2.2.2.2];exact zzz L
 have az:=aj (zzy w4 b B T _ _ _ _ _ _ _ _ h rs d (HO.o.below W) w3.heap.size vS ls Y (by omega) (by omega) (fun t Z=>F.o.2.2.2.1 t (L.mem_iff.1 Z)) ((L.map bq.loc).nodup_iff.2 F.o.1) (by rw [L.length_eq];exact F.o.2.1) b7 (by rw [an];omega) bf a3.o.1 a3.o.2);obtain ⟨cf,ch,rfl⟩:=ku Y;refine bx.o _ _ (fun _ _=>D) ?_;refine Ba (rs:=[5]) (by kernel_rfl) (by simp) ?_;refine lr.cons rfl (fun K5 b0=>?_) lr.nil;go_simp;refine az.o.mono ?_;rintro r w5 ⟨rfl,ba,cc,o5⟩;refine b0.o _ _ (fun h=>absurd rfl h) ?_;refine zrf (by kernel_rfl) ?_ _;try simp only [Act.put,p1q,p4q,p3q,p2q,p5q,p6q]
 have HF:=aj (And.intro L (And.intro bd (And.intro an (And.intro (W.mono (by omega) |>.trans ba) o5))));clear L bd an ba o5 az a1 Y al W I G bc o3 a6;go_wp2_with fail;go_ret;exact inr ⟨HC.o,rfl,HF.o.2.2.2.1,all,ls,cc,bj.o,HF.o.1,HF.o.2.1,HF.o.2.2.1,HF.o.2.2.2.2⟩
end
variable {d:ax} {h:ar} {ts l:List bq}
theorem zz1 {y:Int} {a b:bq} (h1:xo y a b) (A:xo y b a):a.loc=b.loc:=by unfold xo at h1 A;omega
theorem zz2 (y:Int):∀(D A:List bq),D.Perm A->(D.map bq.loc).Nodup->D.Pairwise (xo y)->A.Pairwise (xo y)->D=A:=by
 intro D;induction D with
 | nil=>intro A E _ _ _;exact (nil_perm.1 E).symm
 | cons a D ih=>
   intro A E G h1 L;cases A with
   | nil=>exact absurd (perm_nil.1 E) (by simp)
   | cons b A=>
     have J:a=b:=by
      have I:a∈b::A:=E.mem_iff.1 (mem_cons_self ..);have F:b∈a::D:=E.mem_iff.2 (mem_cons_self ..);rcases mem_cons.1 I with e | I
      ·exact e
      rcases mem_cons.1 F with e | F
      ·exact e.symm
      have N:=(pairwise_cons.1 h1).1 b F;have O:=(pairwise_cons.1 L).1 a I;have e:=zz1 N O;rw [map_cons,nodup_cons]at G;exact absurd (mem_map.2 ⟨b,F,e.symm⟩) G.1
     subst J;rw [map_cons,nodup_cons]at G;rw [ih A (Perm.cons_inv E) G.2 (pairwise_cons.1 h1).2 (pairwise_cons.1 L).2]
def mu (d:ax) (h:ar) (rs:List Int):List bq:=((sw d h).filter fun t=>decide (h.ae<t.loc)&&(de d h rs).contains t.loc)++((sw d h).filter fun t=>decide (t.loc<=h.ae)&&(de d h rs).contains t.loc)
theorem zz3 (r:Right d h ts):ts.Pairwise (fun t u=>t.fin<=u.loc):=by obtain ⟨I,G,A,D,rfl⟩:=Ab r.both;have z:=r.sized.bk;refine pairwise_append.2 ⟨F4 _ _ I (nlq _) A,F4 _ _ G (nlq _) D,fun t E u F=>?_⟩;have h1:=(td A t E).2.1;have J:=(td D u F).1;omega
theorem zz4 (r:Right d h ts) (rs:List Int) (t:bq):t∈mu d h rs↔t∈ts/\t.loc∈de d h rs:=by
 have e:sw d h=ts:=by unfold sw;rw [r.both];rfl
 unfold mu;rw [e,mem_append,mem_filter,mem_filter];simp only [Bool.and_eq_true,decide_eq_true_eq,contains_iff_mem];by_cases E:t.loc<=h.ae
 ·constructor
  ·rintro (⟨h1,D,A⟩ | ⟨h1,D,A⟩)
   ·exact ⟨h1,A⟩
   exact ⟨h1,A⟩
  rintro ⟨h1,A⟩;exact inr ⟨h1,E,A⟩
 constructor
 ·rintro (⟨h1,D,A⟩ | ⟨h1,D,A⟩)
  ·exact ⟨h1,A⟩
  exact ⟨h1,A⟩
 rintro ⟨h1,A⟩;exact inl ⟨h1,by omega,A⟩
theorem zz5 (r:Right d h ts) (rs:List Int):(mu d h rs).Pairwise (xo h.ae)/\((mu d h rs).map bq.loc).Nodup:=by
 have e:sw d h=ts:=by unfold sw;rw [r.both];rfl
 have G:=B5 r.sized r.both;have J:=zz3 r;have key:∀p:bq->Bool,(ts.filter p).Pairwise (fun t u=>t.loc<u.loc):=fun p=>
  Pairwise.imp_of_mem (fun {a b} A _ E=>by have:=(G a (mem_filter.1 A).1).2.1;omega) (J.filter p)
 have I:(mu d h rs).Pairwise (fun t u=>xo h.ae t u/\t.loc≠u.loc):=by
  unfold mu;rw [e];refine pairwise_append.2 ⟨Pairwise.imp_of_mem (fun {a b} A F E=>?_) (key _),Pairwise.imp_of_mem (fun {a b} A F E=>?_) (key _),fun a A b F=>?_⟩
  ·have h1:=(mem_filter.1 A).2;have D:=(mem_filter.1 F).2;simp only [Bool.and_eq_true,decide_eq_true_eq]at h1 D;unfold xo;omega
  ·have h1:=(mem_filter.1 A).2;have D:=(mem_filter.1 F).2;simp only [Bool.and_eq_true,decide_eq_true_eq]at h1 D;unfold xo;omega
  have h1:=(mem_filter.1 A).2;have D:=(mem_filter.1 F).2;simp only [Bool.and_eq_true,decide_eq_true_eq]at h1 D;unfold xo;omega
 exact ⟨I.imp fun h=>h.1,pairwise_map.2 (I.imp fun h=>h.2)⟩
theorem zz6 (h:(l.map bq.loc).Nodup):l.Nodup:=(pairwise_map.1 h).imp fun h e=>h (by rw [e])
theorem ls_is (r:Right d h ts) {rs:List Int} (L:∀v∈rs,cq ts v=true) {all D:List bq} (A:sm d h ts rs all []) (E:D.Perm all) (N:D.Pairwise (xo h.ae)):D=mu d h rs:=by
 obtain ⟨O,V⟩:=zz5 r rs;have J:(D.map bq.loc).Nodup:=(E.map bq.loc).nodup_iff.2 A.nd;refine zz2 h.ae D (mu d h rs) ?_ J N O;refine E.trans ((perm_ext_iff_of_nodup (zz6 A.nd) (zz6 V)).2 fun t=>?_);rw [zz4 r rs t,(zvd r L).2 t.loc,<-A.all t.loc];constructor
 ·exact fun F=>⟨A.inT t F,mem_map.2 ⟨t,F,rfl⟩⟩
 rintro ⟨h1,I⟩;obtain ⟨u,G,e⟩:=mem_map.1 I;have:u=t:=by rw [se r (A.inT u G),e,<-se r h1]
 exact this ▸ G
end Go.Proofs.YtjdnmblggdobgaaGreat
