import Derived.Test.YtjdnmblggdobgaaGreatJTk2Dies
import Derived.Test.YtjdnmblggdobgaaGreatJHxJHxK
set_option maxHeartbeats 8000000
set_option maxRecDepth 100000
namespace Go.Proofs.YtjdnmblggdobgaaGreat
open Go.RowKit Go.Maps Go.Shelf
theorem zz9 {u A:List bp} (h:u.Perm A):gp u=gp A:=by
 induction h with
 | nil=>rfl
 | cons x _ ih=>simp only [gp,List.map_cons,List.sum_cons]at ih ⊢;omega
 | swap x y l=>simp only [gp,List.map_cons,List.sum_cons];omega
 | trans _ _ h1 h2=>exact h1.trans h2
def AllEnd (b B:Nat) (w:World) (T:Nat) (nR kC kS kF kN kT:Value) (h:bd) (rs:List Int) (d:be) (ts:List bp) (r:Ending) (w':World):Prop:=
 (h.old<fc d h rs/\r=.returned (.bool false)/\Below w.heap.size w w')\/
 (fc d h rs<=h.old/\r=.returned (.bool true)/\Below b w w'/\∃(all ls:List bp) (nW':Value),DfsI d h ts rs all []/\ls.Perm all/\ls.Pairwise (leT h.ae)/\gp ls=fc d h rs/\
  ow b B w' T nW' (.slice none 0 0) nR kC kS kF kN kT (leaveY ⟨oa d.fields (mu (h.ae+1) ls) h.ab (mu (h.ae+1) ls),h.ae,h.old,h.bg,h.ae+1+gp ls,h.ap,h.next⟩) (rs.map (ku (mu (h.ae+1) ls))) d)
theorem z0a (w:World) (b B T:Nat) (nW nO nR kC kS kF kN kT:Value) (h:bd) (rs:List Int) (d:be) (o:ow b B w T nW nO nR kC kS kF kN kT h rs d) (ts:List bp) (D:Right d h ts) (hr:∀v∈rs,cw ts v=true) (hw:∀x∈h.ab,(Lit.int .i64 x).wf=true) (bb:rs.length<=1000) (bc:∀x∈rs,(Lit.int .i64 x).wf=true):
 Calls Tryz.prog 95 #[.pointer (some ⟨T,0,none⟩)] w fun r w'=>AllEnd b B w T nR kC kS kF kN kT h rs d ts r w':=by
 have cj:=np Tryz.prog;obtain ⟨aO,cO,b2⟩:=kh o.rO;subst b2;obtain ⟨aR,cR,b3⟩:=kh o.rR;subst b3;obtain ⟨aW,cW,b4⟩:=kh o.rW;subst b4;obtain ⟨aC,cC,aS,cS,aF,cF,aN,cN,aT,cT,rfl,rfl,rfl,rfl,rfl⟩:=o.lk.agg;have z:=D.sized;have z1:=z.ae;have z2:=z.old;have z3:=z.len;have b5:h.ap.length<=1000000:=(zmb D.err D.both hw).2.2;obtain ⟨W0,a3,ai,cl,k0⟩:=kj w #[.pointer (some ⟨T,0,none⟩)] 191;have c0:=ba k0 0 (x:=.pointer (some ⟨T,0,none⟩)) rfl;have b7:=bz k0;have lT:=bz o.blk;have ci:=o.bT;have aw:=ag (zyr W0 b B T _ _ _ _ _ _ _ _ h rs d (o.below ai) ts D hr hw bb);have bl:Hid (∀(X:Nat) (V:World),Calls Tryz.prog 151 #[.map (some X)] V fun e w'=>e=.returned (.func (.func 194) #[] #[.pointer (some ⟨V.heap.size,0,none⟩)])/\w'=V.alloc (.cells #[.map (some X)] 199)):=fun X V=>(callsIn_wide (n:=1)).1 (zy6 Fence.wide 1 trivial rfl (some X) V);have bk:=ag (And.intro D hr);have HO:=ag o;have ar:=ag ai;have bh:=ag a3;have bi:=ag k0;have az:=ag (And.intro bc hw);clear o D hr hw bc z ai a3 k0;go_enter Tryz.func95,Tryz.ntmps95;go_wp2_with fail;rw [<-bh.o];go_wp2_with fail;refine aw.o.mono ?_;rintro r w1 ⟨aj,X,all,rfl,ac,u⟩;obtain ⟨D,hr⟩:=bk.o;have bf:=zvm D;rw [List.length_map]at bf;have b1:=u.few;have al:∀t∈all,FitT d t/\1<=t.loc/\t.loc+3+t.len<=h.ab.length:=fun t Y=>by have a4:=zsg D.sized D.both t (u.inT t Y);have b0:t.fin=t.loc+3+t.len:=rfl;refine ⟨(if hy:t.loc<=h.ae then (zuv D (u.inT t Y) hy).fit else (zu7 D (u.inT t Y) (by omega)).2.2.2.1),a4.1,by omega⟩
 have a7:∀t∈all,0<=t.loc/\t.loc<=100000/\0<=t.len/\t.len<=5000:=fun t Y=>by have a4:=zsg D.sized D.both t (u.inT t Y);have b0:t.fin=t.loc+3+t.len:=rfl;omega
 have ao:(all.map fun t:bp=>3+t.len).sum=fc d h rs:=by rw [<-zvo D hr u.nd u.all,List.map_map];refine congrArg List.sum (List.map_congr_left fun t Y=>?_);exact congrArg (3+ ·) (congrArg bp.len (th_at D (u.inT t Y)))
 have N:Below w.heap.size w w1:=ar.o.trans (aj.mono ar.o.size);have ay:Hid (∀V,Below w1.heap.size w1 V->Calls Tryz.prog 147 #[.map (some X)] V fun r w'=>r=.returned (.int .i64 (fc d h rs))/\Below V.heap.size V w'):=fun V hV=>by have:=zyn V X all (ac.below hV ac.lt) u.nd a7 (by omega);rwa [ao]at this
 have E:Hid ((all.map bp.loc).Nodup/\all.length<=50000/\(∀t∈all,1<=t.loc)/\(∀t∈all,FitT d t/\1<=t.loc/\t.loc+3+t.len<=h.ab.length)/\gp all=fc d h rs):=⟨u.nd,by omega,fun t Y=>(al t Y).2.1,al,ao⟩;have bg:=ag u;have k1:=(aj.block _ b7).trans bi.o;have o1:=HO.o.below N;have a0:=ba k1 0 (x:=.pointer (some ⟨T,0,none⟩)) rfl;have aq:=bz k1;have bm:=ba o1.blk 2 (x:=.int .i64 h.old) rfl;have b6:=bz o1.blk;have af:=ag N;have L:=ag ac;clear aj ac u D hr bf b1 al a7 ao N k1 o1 aw;go_wp2_with fail;refine wp_region_held_drew (S:=fun W'=>∀p:Addr,p.block<w1.heap.size->W'.cell? p=w1.cell? p) (by kernel_rfl) (fun p hp=>rfl) fun A=>?_;refine ta 0 (.map (some X)) rfl A ?_;refine ta 2 (.pointer (some ⟨T,0,none⟩)) rfl A ?_;refine ta 3 (.pointer (some ⟨T,0,none⟩)) rfl A ?_;refine ta 4 (.pointer (some ⟨T,0,none⟩)) rfl A ?_;refine ta 5 (.pointer (some ⟨T,0,none⟩)) rfl A ?_;refine ta 6 (.pointer (some ⟨T,2,none⟩)) rfl A ?_;refine ta 7 (.int .i64 h.old) rfl A ?_;refine wpAnyH_ready (rs:=[1]) (by kernel_rfl) (by simp) ?_;refine AllReadyH.cons rfl (fun K1 bn=>?_) AllReadyH.nil;go_simp;refine (ay.o _ (br _ _).drew).mono ?_;rintro r Z ⟨rfl,a5⟩;have I:Below w1.heap.size w1 Z:=(br w1.heap.size w1).drew.trans a5;refine bn.o _ _ (fun p hp=>I.cell hp) fun A=>?_;refine ta 8 (.bool (decide (h.old<fc d h rs))) rfl A ?_;refine wpAnyH_done (by kernel_rfl) ?_ _;clear A;try simp only [Act.put,p1q,p4q,p3q,p2q,p5q,p6q]
 have ah:Hid (Below w.heap.size w Z):=af.o.trans (I.mono af.o.size);have au:Hid (ja Z X all):=L.o.below I L.o.lt;have aa:Hid (w.heap.size<Z.heap.size/\X<Z.heap.size):=⟨ll3 aq I.size,au.o.lt⟩;have a1:=(I.cell (p:=⟨w.heap.size,0,none⟩) aq).trans a0;clear a5 I ay L af a0 bm aq b6;by_cases hc:h.old<fc d h rs
 ·go_wp2_with fail;go_ret;exact Or.inl ⟨hc,rfl,ah.o⟩
 have bx:fc d h rs<=h.old:=by omega
 have HC:=ag bx;go_wp2_with fail;refine zrq (fun W'=>W'.cell? ⟨w.heap.size,0,none⟩=some (.pointer (some ⟨T,0,none⟩))) 5 (by kernel_rfl) a1 fun A=>?_;refine zrm 0 (.pointer (some ⟨T,0,none⟩)) rfl (by kernel_rfl) (by kernel_rfl) (by kernel_rfl) (fun _ _ _ h=>h) ?_ A ?_
 ·intro w ch;go_simp
 refine zrn 1 (.map (some X)) rfl (by kernel_rfl) (by kernel_rfl) (fun _ _ _ h=>h) ?_ A ?_
 ·intro w;go_simp
 refine zrn 3 (.func (.func 152) #[] #[.pointer (some ⟨w.heap.size,0,none⟩)]) rfl (by kernel_rfl) (by kernel_rfl) (fun _ _ _ h=>h) ?_ A ?_
 ·intro w;go_simp
 refine zro (rs:=[2]) (by kernel_rfl) (by simp) ?_;refine TilR.cons rfl (fun K2 bq=>?_) TilR.nil;go_simp;refine (bl.o _ _).mono ?_;rintro r w3 ⟨rfl,ad⟩;have F:Below Z.heap.size Z w3:=by rw [ad];exact (br _ _).drew.alloc (nlq _) _
 have G:Below w.heap.size w w3:=ah.o.trans (F.mono ah.o.size);have cc:w3.heap.size=Z.heap.size+1:=by rw [ad];exact World.size_alloc _ _
 have a8:w3.heap[Z.heap.size]? =some (.cells #[.map (some X)] 199 (0,0)):=by rw [ad];exact heap_alloc_new Z.drew _
 have A:w3.cell? ⟨w.heap.size,0,none⟩=some (.pointer (some ⟨T,0,none⟩)):=(F.cell (p:=⟨w.heap.size,0,none⟩) aa.o.1).trans a1;have o3:=HO.o.below G;have a2:=ba o3.blk 1 (x:=.int .i64 h.ae) rfl;have ax:=ag (zzs w3 Z.heap.size X w.heap.size T all h.ae (by omega) (ba a8 0 rfl) (au.o.below F aa.o.2) E.o.1 (by have:=E.o.2.1;omega) E.o.2.2.1 (by have:=aa.o.1;omega) (bz o3.blk) A a2);clear ad;refine bq.o _ _ (fun _ _=>A) ?_;refine zro (rs:=[4]) (by kernel_rfl) (by simp) ?_;refine TilR.cons rfl (fun K4 bs=>?_) TilR.nil;go_simp;refine ax.o.mono ?_;rintro r w4 ⟨vS,ls,rfl,J,a9,W,ak⟩;have O:Below w.heap.size w w4:=G.trans (ak.mono G.size);have A:w4.cell? ⟨w.heap.size,0,none⟩=some (.pointer (some ⟨T,0,none⟩)):=(ak.cell (p:=⟨w.heap.size,0,none⟩) (by show w.heap.size<_;have:=aa.o.1;omega)).trans A;have an:gp ls=fc d h rs:=by rw [<-E.o.2.2.2.2];exact zz9 J
 have av:=ag (zz8 w4 b B T _ _ _ _ _ _ _ _ h rs d (HO.o.below O) w3.heap.size vS ls W (by omega) (by omega) (fun t Y=>E.o.2.2.2.1 t (J.mem_iff.1 Y)) ((J.map bp.loc).nodup_iff.2 E.o.1) (by rw [J.length_eq];exact E.o.2.1) b5 (by rw [an];omega) bb az.o.1 az.o.2);obtain ⟨ce,cf,rfl⟩:=kh W;refine bs.o _ _ (fun _ _=>A) ?_;refine zro (rs:=[5]) (by kernel_rfl) (by simp) ?_;refine TilR.cons rfl (fun K5 bu=>?_) TilR.nil;go_simp;refine av.o.mono ?_;rintro r w5 ⟨rfl,a6,ca,o5⟩;refine bu.o _ _ (fun h=>absurd rfl h) ?_;refine zrp (by kernel_rfl) ?_ _;try simp only [Act.put,p1q,p4q,p3q,p2q,p5q,p6q]
 have HF:=ag (And.intro J (And.intro a9 (And.intro an (And.intro (O.mono (by omega) |>.trans a6) o5))));clear J a9 an a6 o5 av ax W ak O G F a8 o3 a2;go_wp2_with fail;go_ret;exact Or.inr ⟨HC.o,rfl,HF.o.2.2.2.1,all,ls,ca,bg.o,HF.o.1,HF.o.2.1,HF.o.2.2.1,HF.o.2.2.2.2⟩
end Go.Proofs.YtjdnmblggdobgaaGreat
namespace Go.Proofs.YtjdnmblggdobgaaGreat
open Go.RowKit Go.Maps
theorem z0b {y:Int} {a b:bp} (h1:leT y a b) (u:leT y b a):a.loc=b.loc:=by unfold leT at h1 u;omega
theorem z0c (y:Int):∀(A u:List bp),A.Perm u->(A.map bp.loc).Nodup->A.Pairwise (leT y)->u.Pairwise (leT y)->A=u:=by
 intro A;induction A with
 | nil=>intro u D _ _ _;exact (List.nil_perm.1 D).symm
 | cons a A ih=>
   intro u D F h1 J;cases u with
   | nil=>exact absurd (List.perm_nil.1 D) (by simp)
   | cons b u=>
     have I:a=b:=by
      have G:a∈b::u:=D.mem_iff.1 (List.mem_cons_self ..);have E:b∈a::A:=D.mem_iff.2 (List.mem_cons_self ..);rcases List.mem_cons.1 G with e | G
      ·exact e
      rcases List.mem_cons.1 E with e | E
      ·exact e.symm
      have L:=(List.pairwise_cons.1 h1).1 b E;have N:=(List.pairwise_cons.1 J).1 a G;have e:=z0b L N;rw [List.map_cons,List.nodup_cons]at F;exact absurd (List.mem_map.2 ⟨b,E,e.symm⟩) F.1
     subst I;rw [List.map_cons,List.nodup_cons]at F;rw [ih u (List.Perm.cons_inv D) F.2 (List.pairwise_cons.1 h1).2 (List.pairwise_cons.1 J).2]
def kd (d:be) (h:bd) (rs:List Int):List bp:=((tsOf d h).filter fun t=>decide (h.ae<t.loc)&&(cg d h rs).contains t.loc)++((tsOf d h).filter fun t=>decide (t.loc<=h.ae)&&(cg d h rs).contains t.loc)
theorem z0d {d:be} {h:bd} {ts:List bp} (r:Right d h ts):ts.Pairwise (fun t u=>t.fin<=u.loc):=by obtain ⟨I,G,A,D,rfl⟩:=zko r.both;have z:=r.sized.bg;refine List.pairwise_append.2 ⟨zxq _ _ I (nlq _) A,zxq _ _ G (nlq _) D,fun t E u F=>?_⟩;have h1:=(zkn A t E).2.1;have J:=(zkn D u F).1;omega
theorem z0e {d:be} {h:bd} {ts:List bp} (r:Right d h ts) (rs:List Int) (t:bp):t∈kd d h rs↔t∈ts/\t.loc∈cg d h rs:=by
 have e:tsOf d h=ts:=by unfold tsOf;rw [r.both];rfl
 unfold kd;rw [e,List.mem_append,List.mem_filter,List.mem_filter];simp only [Bool.and_eq_true,decide_eq_true_eq,List.contains_iff_mem];by_cases D:t.loc<=h.ae
 ·constructor
  ·rintro (⟨h1,A,u⟩ | ⟨h1,A,u⟩)
   ·exact ⟨h1,u⟩
   exact ⟨h1,u⟩
  rintro ⟨h1,u⟩;exact Or.inr ⟨h1,D,u⟩
 constructor
 ·rintro (⟨h1,A,u⟩ | ⟨h1,A,u⟩)
  ·exact ⟨h1,u⟩
  exact ⟨h1,u⟩
 rintro ⟨h1,u⟩;exact Or.inl ⟨h1,by omega,u⟩
theorem z0f {d:be} {h:bd} {ts:List bp} (r:Right d h ts) (rs:List Int):(kd d h rs).Pairwise (leT h.ae)/\((kd d h rs).map bp.loc).Nodup:=by
 have e:tsOf d h=ts:=by unfold tsOf;rw [r.both];rfl
 have G:=zsg r.sized r.both;have J:=z0d r;have key:∀p:bp->Bool,(ts.filter p).Pairwise (fun t u=>t.loc<u.loc):=fun p=>
  List.Pairwise.imp_of_mem (fun {a b} A _ E=>by have:=(G a (List.mem_filter.1 A).1).2.1;omega) (J.filter p)
 have I:(kd d h rs).Pairwise (fun t u=>leT h.ae t u/\t.loc≠u.loc):=by
  unfold kd;rw [e];refine List.pairwise_append.2 ⟨List.Pairwise.imp_of_mem (fun {a b} A F E=>?_) (key _),List.Pairwise.imp_of_mem (fun {a b} A F E=>?_) (key _),fun a A b F=>?_⟩
  ·have h1:=(List.mem_filter.1 A).2;have D:=(List.mem_filter.1 F).2;simp only [Bool.and_eq_true,decide_eq_true_eq]at h1 D;unfold leT;omega
  ·have h1:=(List.mem_filter.1 A).2;have D:=(List.mem_filter.1 F).2;simp only [Bool.and_eq_true,decide_eq_true_eq]at h1 D;unfold leT;omega
  have h1:=(List.mem_filter.1 A).2;have D:=(List.mem_filter.1 F).2;simp only [Bool.and_eq_true,decide_eq_true_eq]at h1 D;unfold leT;omega
 exact ⟨I.imp fun h=>h.1,List.pairwise_map.2 (I.imp fun h=>h.2)⟩
theorem z0g {l:List bp} (h:(l.map bp.loc).Nodup):l.Nodup:=(List.pairwise_map.1 h).imp fun h e=>h (by rw [e])
theorem ls_is {d:be} {h:bd} {ts:List bp} (r:Right d h ts) {rs:List Int} (L:∀v∈rs,cw ts v=true) {all D:List bp} (A:DfsI d h ts rs all []) (E:D.Perm all) (N:D.Pairwise (leT h.ae)):D=kd d h rs:=by
 obtain ⟨O,V⟩:=z0f r rs;have J:(D.map bp.loc).Nodup:=(E.map bp.loc).nodup_iff.2 A.nd;refine z0c h.ae D (kd d h rs) ?_ J N O;refine E.trans ((List.perm_ext_iff_of_nodup (z0g A.nd) (z0g V)).2 fun t=>?_);rw [z0e r rs t,(zvn r L).2 t.loc,<-A.all t.loc];constructor
 ·exact fun F=>⟨A.inT t F,List.mem_map.2 ⟨t,F,rfl⟩⟩
 rintro ⟨h1,I⟩;obtain ⟨u,G,e⟩:=List.mem_map.1 I;have:u=t:=by rw [th_at r (A.inT u G),e,<-th_at r h1]
 exact this ▸ G
end Go.Proofs.YtjdnmblggdobgaaGreat
