import Derived.Test.YtjdnmblggdobgaaGreatJHzSHxK
set_option maxHeartbeats 8000000
set_option maxRecDepth 100000
namespace Go.Proofs.YtjdnmblggdobgaaGreat
open Go.RowKit Go.Maps Go.Shelf Tryz
theorem zz9 {A D:List bk} (h:A.Perm D):ic A=ic D:=by
 induction h with
 | nil=>rfl
 | cons x _ ih=>simp only [ic,List.map_cons,List.sum_cons]at ih ⊢;omega
 | swap x y l=>simp only [ic,List.map_cons,List.sum_cons];omega
 | trans _ _ h1 h2=>exact h1.trans h2
def AllEnd (b B:Nat) (w:World) (T:Nat) (nR kC kS kF kN kT:Value) (h:ar) (rs:List Int) (d:bd) (ts:List bk) (r:Ending) (w':World):Prop:=
 (h.old<dp d h rs/\r=.returned (.bool false)/\Bl w w')\/
 (dp d h rs<=h.old/\r=.returned (.bool true)/\Below b w w'/\∃(all ls:List bk) (nW':Value),rg d h ts rs all []/\ls.Perm all/\ls.Pairwise (vu h.ae)/\ic ls=dp d h rs/\
  nc b B w' T nW' (.nl) nR kC kS kF kN kT (qw ⟨qm d.fields (pa (h.ae+1) ls) h.ab (pa (h.ae+1) ls),h.ae,h.old,h.bo,h.ae+1+ic ls,h.am,h.next⟩) (rs.map (mg (pa (h.ae+1) ls))) d)
theorem z0a (w:World) (b B T:Nat) (nW nO nR kC kS kF kN kT:Value) (h:ar) (rs:List Int) (d:bd) (o:nc b B w T nW nO nR kC kS kF kN kT h rs d) (ts:List bk) (E:Right d h ts) (hr:∀v∈rs,b8 ts v=true) (hw:∀x∈h.ab,(Lit.int .i64 x).wf=true) (bc:rs.length<=1000) (be:∀x∈rs,(Lit.int .i64 x).wf=true):
 Calls prog 95 #[.p T] w fun r w'=>AllEnd b B w T nR kC kS kF kN kT h rs d ts r w':=by
 have cj:=qj prog;obtain ⟨aO,cO,b2⟩:=kq o.rO;subst b2;obtain ⟨aR,cR,b3⟩:=kq o.rR;subst b3;obtain ⟨aW,cW,b4⟩:=kq o.rW;subst b4;obtain ⟨aC,cC,aS,cS,aF,cF,aN,cN,aT,cT,rfl,rfl,rfl,rfl,rfl⟩:=o.lk.agg;have z:=E.sized;have z1:=z.ae;have z2:=z.old;have z3:=z.len;have b5:h.am.length<=1000000:=(Fp E.err E.both hw).2.2;obtain ⟨W0,a4,ai,ck,k0⟩:=mi w #[.p T] 191;have c0:=bp k0 0 (x:=.p T) rfl;have b7:=bz k0;have lT:=bz o.blk;have ci:=o.bT;have ax:=ag (zyr W0 b B T _ _ _ _ _ _ _ _ h rs d (o.below ai) ts E hr hw bc);have bm:Hid (∀(X:Nat) (V:World),Calls prog 151 #[.map (some X)] V fun e w'=>e=.returned (.func (.func 194) #[] #[.p V.heap.size])/\w'=V.alloc (.cells #[.map (some X)] 199)):=fun X V=>(callsIn_wide (n:=1)).1 (zy6 Fence.wide 1 trivial rfl (some X) V);have bl:=ag (And.intro E hr);have HO:=ag o;have au:=ag ai;have bh:=ag a4;have bi:=ag k0;have a0:=ag (And.intro be hw);clear o E hr hw be z ai a4 k0;go_enter func95,ntmps95;go_wp2_with fail;rw [<-bh.o];go_wp2_with fail;refine ax.o.mono ?_;rintro r w1 ⟨aj,X,all,rfl,ac,A⟩;obtain ⟨E,hr⟩:=bl.o;have bf:=zvm E;rw [List.length_map]at bf;have b1:=A.few;have al:∀t∈all,pm d t/\1<=t.loc/\t.loc+3+t.len<=h.ab.length:=fun t Z=>by have a5:=wv E.sized E.both t (A.inT t Z);have b0:t.fin=t.loc+3+t.len:=rfl;refine ⟨(if hy:t.loc<=h.ae then (xw E (A.inT t Z) hy).fit else (A0 E (A.inT t Z) (by omega)).2.2.2.1),a5.1,by omega⟩
 have a8:∀t∈all,0<=t.loc/\t.loc<=100000/\0<=t.len/\t.len<=5000:=fun t Z=>by have a5:=wv E.sized E.both t (A.inT t Z);have b0:t.fin=t.loc+3+t.len:=rfl;omega
 have ao:(all.map fun t:bk=>3+t.len).sum=dp d h rs:=by rw [<-zvo E hr A.nd A.all,List.map_map];refine congrArg List.sum (List.map_congr_left fun t Z=>?_);exact congrArg (3+ ·) (congrArg bk.len (pg E (A.inT t Z)))
 have O:Bl w w1:=au.o.trans (aj.mono au.o.size);have az:Hid (∀V,Bl w1 V->Calls prog 147 #[.map (some X)] V fun r w'=>r=.returned (.i (dp d h rs))/\Bl V w'):=fun V hV=>by have:=zyn V X all (ac.below hV ac.lt) A.nd a8 (by omega);rwa [ao]at this
 have F:Hid ((all.map bk.loc).Nodup/\all.length<=50000/\(∀t∈all,1<=t.loc)/\(∀t∈all,pm d t/\1<=t.loc/\t.loc+3+t.len<=h.ab.length)/\ic all=dp d h rs):=⟨A.nd,by omega,fun t Z=>(al t Z).2.1,al,ao⟩;have bg:=ag A;have k1:=(aj.block _ b7).trans bi.o;have o1:=HO.o.below O;have a1:=bp k1 0 (x:=.p T) rfl;have ap:=bz k1;have bn:=bp o1.blk 2 (x:=.i h.old) rfl;have b6:=bz o1.blk;have af:=ag O;have N:=ag ac;clear aj ac A E hr bf b1 al a8 ao O k1 o1 ax;go_wp2_with fail;refine wp_region_held_drew (S:=fun W'=>∀p:Addr,p.block<w1.heap.size->W'.cell? p=w1.cell? p) (by kernel_rfl) (fun p hp=>rfl) fun D=>?_;refine ta 0 (.map (some X)) rfl D ?_;refine ta 2 (.p T) rfl D ?_;refine ta 3 (.p T) rfl D ?_;refine ta 4 (.p T) rfl D ?_;refine ta 5 (.p T) rfl D ?_;refine ta 6 (.pointer (some ⟨T,2,none⟩)) rfl D ?_;refine ta 7 (.i h.old) rfl D ?_;refine wpAnyH_ready (rs:=[1]) (by kernel_rfl) (by simp) ?_;refine AllReadyH.cons rfl (fun K1 bo=>?_) AllReadyH.nil;go_simp;refine (az.o _ (br _ _).drew).mono ?_;rintro r w2 ⟨rfl,a6⟩;have J:Bl w1 w2:=(br w1.heap.size w1).drew.trans a6;refine bo.o _ _ (fun p hp=>J.cell hp) fun D=>?_;refine ta 8 (.bool (decide (h.old<dp d h rs))) rfl D ?_;refine wpAnyH_done (by kernel_rfl) ?_ _;clear D;try simp only [Act.put,p1q,p4q,p3q,p2q,p5q,p6q]
 have ah:Hid (Bl w w2):=af.o.trans (J.mono af.o.size);have av:Hid (jt w2 X all):=N.o.below J N.o.lt;have aa:Hid (w.heap.size<w2.heap.size/\X<w2.heap.size):=⟨ll3 ap J.size,av.o.lt⟩;have a2:=(J.cell (p:=⟨w.heap.size,0,none⟩) ap).trans a1;clear a6 J az N af a1 bn ap b6;by_cases hc:h.old<dp d h rs
 ·go_wp2_with fail;go_ret;exact Or.inl ⟨hc,rfl,ah.o⟩
 have bx:dp d h rs<=h.old:=by omega
 have HC:=ag bx;go_wp2_with fail;refine zrq (fun W'=>W'.cell? ⟨w.heap.size,0,none⟩=some (.p T)) 5 (by kernel_rfl) a2 fun D=>?_;refine A9 0 (.p T) rfl (by kernel_rfl) (by kernel_rfl) (by kernel_rfl) (fun _ _ _ h=>h) ?_ D ?_
 ·intro w ch;go_simp
 refine pr 1 (.map (some X)) rfl (by kernel_rfl) (by kernel_rfl) (fun _ _ _ h=>h) ?_ D ?_
 ·intro w;go_simp
 refine pr 3 (.func (.func 152) #[] #[.p w.heap.size]) rfl (by kernel_rfl) (by kernel_rfl) (fun _ _ _ h=>h) ?_ D ?_
 ·intro w;go_simp
 refine Aj (rs:=[2]) (by kernel_rfl) (by simp) ?_;refine ku.cons rfl (fun K2 bs=>?_) ku.nil;go_simp;refine (bm.o _ _).mono ?_;rintro r w3 ⟨rfl,ad⟩;have G:Bl w2 w3:=by rw [ad];exact (br _ _).drew.alloc (nlq _) _
 have I:Bl w w3:=ah.o.trans (G.mono ah.o.size);have cc:w3.heap.size=w2.heap.size+1:=by rw [ad];exact World.size_alloc _ _
 have a9:w3.heap[w2.heap.size]? =some (.cells #[.map (some X)] 199 (0,0)):=by rw [ad];exact heap_alloc_new w2.drew _
 have D:w3.cell? ⟨w.heap.size,0,none⟩=some (.p T):=(G.cell (p:=⟨w.heap.size,0,none⟩) aa.o.1).trans a2;have o3:=HO.o.below I;have a3:=bp o3.blk 1 (x:=.i h.ae) rfl;have ay:=ag (zzs w3 w2.heap.size X w.heap.size T all h.ae (by omega) (bp a9 0 rfl) (av.o.below G aa.o.2) F.o.1 (by have:=F.o.2.1;omega) F.o.2.2.1 (by have:=aa.o.1;omega) (bz o3.blk) D a3);clear ad;refine bs.o _ _ (fun _ _=>D) ?_;refine Aj (rs:=[4]) (by kernel_rfl) (by simp) ?_;refine ku.cons rfl (fun K4 bu=>?_) ku.nil;go_simp;refine ay.o.mono ?_;rintro r w4 ⟨vS,ls,rfl,L,bb,Y,ak⟩;have W:Bl w w4:=I.trans (ak.mono I.size);have D:w4.cell? ⟨w.heap.size,0,none⟩=some (.p T):=(ak.cell (p:=⟨w.heap.size,0,none⟩) (by show w.heap.size<_;have:=aa.o.1;omega)).trans D;have an:ic ls=dp d h rs:=by rw [<-F.o.2.2.2.2];exact zz9 L
 have aw:=ag (zz8 w4 b B T _ _ _ _ _ _ _ _ h rs d (HO.o.below W) w3.heap.size vS ls Y (by omega) (by omega) (fun t Z=>F.o.2.2.2.1 t (L.mem_iff.1 Z)) ((L.map bk.loc).nodup_iff.2 F.o.1) (by rw [L.length_eq];exact F.o.2.1) b5 (by rw [an];omega) bc a0.o.1 a0.o.2);obtain ⟨ce,cf,rfl⟩:=kq Y;refine bu.o _ _ (fun _ _=>D) ?_;refine Aj (rs:=[5]) (by kernel_rfl) (by simp) ?_;refine ku.cons rfl (fun K5 bv=>?_) ku.nil;go_simp;refine aw.o.mono ?_;rintro r w5 ⟨rfl,a7,ca,o5⟩;refine bv.o _ _ (fun h=>absurd rfl h) ?_;refine zrp (by kernel_rfl) ?_ _;try simp only [Act.put,p1q,p4q,p3q,p2q,p5q,p6q]
 have HF:=ag (And.intro L (And.intro bb (And.intro an (And.intro (W.mono (by omega) |>.trans a7) o5))));clear L bb an a7 o5 aw ay Y ak W I G a9 o3 a3;go_wp2_with fail;go_ret;exact Or.inr ⟨HC.o,rfl,HF.o.2.2.2.1,all,ls,ca,bg.o,HF.o.1,HF.o.2.1,HF.o.2.2.1,HF.o.2.2.2.2⟩
end Go.Proofs.YtjdnmblggdobgaaGreat
namespace Go.Proofs.YtjdnmblggdobgaaGreat
open Go.RowKit Go.Maps Tryz
theorem z0b {y:Int} {a b:bk} (h1:vu y a b) (A:vu y b a):a.loc=b.loc:=by unfold vu at h1 A;omega
theorem z0c (y:Int):∀(D A:List bk),D.Perm A->(D.map bk.loc).Nodup->D.Pairwise (vu y)->A.Pairwise (vu y)->D=A:=by
 intro D;induction D with
 | nil=>intro A E _ _ _;exact (List.nil_perm.1 E).symm
 | cons a D ih=>
   intro A E G h1 L;cases A with
   | nil=>exact absurd (List.perm_nil.1 E) (by simp)
   | cons b A=>
     have J:a=b:=by
      have I:a∈b::A:=E.mem_iff.1 (List.mem_cons_self ..);have F:b∈a::D:=E.mem_iff.2 (List.mem_cons_self ..);rcases List.mem_cons.1 I with e | I
      ·exact e
      rcases List.mem_cons.1 F with e | F
      ·exact e.symm
      have N:=(List.pairwise_cons.1 h1).1 b F;have O:=(List.pairwise_cons.1 L).1 a I;have e:=z0b N O;rw [List.map_cons,List.nodup_cons]at G;exact absurd (List.mem_map.2 ⟨b,F,e.symm⟩) G.1
     subst J;rw [List.map_cons,List.nodup_cons]at G;rw [ih A (List.Perm.cons_inv E) G.2 (List.pairwise_cons.1 h1).2 (List.pairwise_cons.1 L).2]
def lr (d:bd) (h:ar) (rs:List Int):List bk:=((sj d h).filter fun t=>decide (h.ae<t.loc)&&(cz d h rs).contains t.loc)++((sj d h).filter fun t=>decide (t.loc<=h.ae)&&(cz d h rs).contains t.loc)
theorem z0d {d:bd} {h:ar} {ts:List bk} (r:Right d h ts):ts.Pairwise (fun t u=>t.fin<=u.loc):=by obtain ⟨I,G,A,D,rfl⟩:=xu r.both;have z:=r.sized.bo;refine List.pairwise_append.2 ⟨Fv _ _ I (nlq _) A,Fv _ _ G (nlq _) D,fun t E u F=>?_⟩;have h1:=(sc A t E).2.1;have J:=(sc D u F).1;omega
theorem z0e {d:bd} {h:ar} {ts:List bk} (r:Right d h ts) (rs:List Int) (t:bk):t∈lr d h rs↔t∈ts/\t.loc∈cz d h rs:=by
 have e:sj d h=ts:=by unfold sj;rw [r.both];rfl
 unfold lr;rw [e,List.mem_append,List.mem_filter,List.mem_filter];simp only [Bool.and_eq_true,decide_eq_true_eq,List.contains_iff_mem];by_cases E:t.loc<=h.ae
 ·constructor
  ·rintro (⟨h1,D,A⟩ | ⟨h1,D,A⟩)
   ·exact ⟨h1,A⟩
   exact ⟨h1,A⟩
  rintro ⟨h1,A⟩;exact Or.inr ⟨h1,E,A⟩
 constructor
 ·rintro (⟨h1,D,A⟩ | ⟨h1,D,A⟩)
  ·exact ⟨h1,A⟩
  exact ⟨h1,A⟩
 rintro ⟨h1,A⟩;exact Or.inl ⟨h1,by omega,A⟩
theorem z0f {d:bd} {h:ar} {ts:List bk} (r:Right d h ts) (rs:List Int):(lr d h rs).Pairwise (vu h.ae)/\((lr d h rs).map bk.loc).Nodup:=by
 have e:sj d h=ts:=by unfold sj;rw [r.both];rfl
 have G:=wv r.sized r.both;have J:=z0d r;have key:∀p:bk->Bool,(ts.filter p).Pairwise (fun t u=>t.loc<u.loc):=fun p=>
  List.Pairwise.imp_of_mem (fun {a b} A _ E=>by have:=(G a (List.mem_filter.1 A).1).2.1;omega) (J.filter p)
 have I:(lr d h rs).Pairwise (fun t u=>vu h.ae t u/\t.loc≠u.loc):=by
  unfold lr;rw [e];refine List.pairwise_append.2 ⟨List.Pairwise.imp_of_mem (fun {a b} A F E=>?_) (key _),List.Pairwise.imp_of_mem (fun {a b} A F E=>?_) (key _),fun a A b F=>?_⟩
  ·have h1:=(List.mem_filter.1 A).2;have D:=(List.mem_filter.1 F).2;simp only [Bool.and_eq_true,decide_eq_true_eq]at h1 D;unfold vu;omega
  ·have h1:=(List.mem_filter.1 A).2;have D:=(List.mem_filter.1 F).2;simp only [Bool.and_eq_true,decide_eq_true_eq]at h1 D;unfold vu;omega
  have h1:=(List.mem_filter.1 A).2;have D:=(List.mem_filter.1 F).2;simp only [Bool.and_eq_true,decide_eq_true_eq]at h1 D;unfold vu;omega
 exact ⟨I.imp fun h=>h.1,List.pairwise_map.2 (I.imp fun h=>h.2)⟩
theorem z0g {l:List bk} (h:(l.map bk.loc).Nodup):l.Nodup:=(List.pairwise_map.1 h).imp fun h e=>h (by rw [e])
theorem ls_is {d:bd} {h:ar} {ts:List bk} (r:Right d h ts) {rs:List Int} (L:∀v∈rs,b8 ts v=true) {all D:List bk} (A:rg d h ts rs all []) (E:D.Perm all) (N:D.Pairwise (vu h.ae)):D=lr d h rs:=by
 obtain ⟨O,V⟩:=z0f r rs;have J:(D.map bk.loc).Nodup:=(E.map bk.loc).nodup_iff.2 A.nd;refine z0c h.ae D (lr d h rs) ?_ J N O;refine E.trans ((List.perm_ext_iff_of_nodup (z0g A.nd) (z0g V)).2 fun t=>?_);rw [z0e r rs t,(Fs r L).2 t.loc,<-A.all t.loc];constructor
 ·exact fun F=>⟨A.inT t F,List.mem_map.2 ⟨t,F,rfl⟩⟩
 rintro ⟨h1,I⟩;obtain ⟨u,G,e⟩:=List.mem_map.1 I;have:u=t:=by rw [pg r (A.inT u G),e,<-pg r h1]
 exact this ▸ G
end Go.Proofs.YtjdnmblggdobgaaGreat
