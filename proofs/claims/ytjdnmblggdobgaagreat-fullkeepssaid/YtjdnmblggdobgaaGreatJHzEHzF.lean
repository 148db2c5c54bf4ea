import Derived.Test.YtjdnmblggdobgaaGreatJHzBHzD
import Derived.Test.YtjdnmblggdobgaaGreatJTk2Dies
import Derived.Maps.RangeWalk
set_option maxHeartbeats 4000000
set_option maxRecDepth 100000
namespace Go.Proofs.YtjdnmblggdobgaaGreat
open Go.RowKit Go.Maps

theorem zyj (w:World) (t:bp) (h1:small t.loc) (I:small t.len):
 Calls Tryz.prog 191 #[mx t] w fun r w'=>r=.returned (.int .i64 (3+t.len))/\Below w.heap.size w w':=by
 have L:Hid (∀W,Calls Tryz.prog 72 #[.agg #[.int .i64 t.loc,.int .i64 t.tag,.int .i64 t.len,.int .i64 t.hash]] W fun r w'=>r=.returned (.int .i64 (t.loc+3+t.len))/\Below W.heap.size W w'):=fun W=>ze2 W t h1 I;unfold small at h1 I;obtain ⟨h1,Z⟩:=h1;obtain ⟨I,aa⟩:=I;obtain ⟨A,F,E,V,kp⟩:=kj w #[.int .i64 t.loc,.int .i64 t.tag,.int .i64 t.len,.int .i64 t.hash] 101;have p0:=ba kp 0 (x:=.int .i64 t.loc) rfl;have p1:=ba kp 1 (x:=.int .i64 t.tag) rfl;have p2:=ba kp 2 (x:=.int .i64 t.len) rfl;have p3:=ba kp 3 (x:=.int .i64 t.hash) rfl;have lP:=bz kp;have D:=ag E;have J:=ag F;have w1:IntKind.i64.wrap (t.loc+3+t.len - t.loc)=3+t.len:=by rw [IntKind.wrap_i64];omega
 unfold mx;clear E F kp V;go_enter Tryz.func191,Tryz.ntmps191;go_wp2_with fail;rw [<-J.o];refine wp_region_held_drew (S:=fun Y=>∀p:Addr,p.block<A.heap.size->Y.cell? p=A.cell? p) (by kernel_rfl) (fun p X=>rfl) fun u=>?_;refine ta 0 (.agg #[.int .i64 t.loc,.int .i64 t.tag,.int .i64 t.len,.int .i64 t.hash]) rfl u ?_;refine ta 2 (.pointer (some ⟨w.heap.size,0,none⟩)) rfl u ?_;refine ta 3 (.int .i64 t.loc) rfl u ?_;refine wpAnyH_ready (rs:=[1]) (by kernel_rfl) (by simp) ?_;refine AllReadyH.cons rfl (fun K1 N=>?_) AllReadyH.nil;go_simp;refine (L.o _).mono ?_;rintro r w2 ⟨rfl,O⟩;have G:Below A.heap.size A w2:=(br A.heap.size A).drew.trans O;refine N.o _ _ (fun p X=>G.cell X) fun u=>?_;refine ta 4 (.int .i64 (3+t.len)) rfl u ?_;refine ta 5 (.int .i64 (3+t.len)) rfl u ?_;refine wpAnyH_done (by kernel_rfl) ?_ _;clear u;try simp only [Act.put,p1q,p4q,p3q,p2q,p5q,p6q]
 go_wp2_with fail;go_ret;exact ⟨rfl,D.o.trans (G.mono D.o.size)⟩
theorem zyk (v:Value) (y:DataW Unit×List MemPlace) (h:jt v=some y):∃c:bp,v=mx c:=by
 unfold jt at h;split at h
 ·rename_i cs;unfold thElemL at h;split at h
  ·rename_i a b c e hl;exact ⟨⟨a,b,c,e⟩,congrArg Value.agg (Array.toList_inj.1 hl)⟩
  cases h
 cases h
structure LeftT (all rem:List bp) (left:Lit->Bool):Prop where
 is:∀x:Int,left (jc x)=(rem.map bp.loc).contains x
 sub:∀t∈rem,t∈all
 nd:(rem.map bp.loc).Nodup
theorem zyl {all:List bp} (I:(all.map bp.loc).Nodup) {t:bp} (G:t∈all):km all t.loc=some t:=by
 cases hp:km all t.loc with
 | none=>exact absurd rfl (znz all hp t G)
 | some u=>
   obtain ⟨J,e⟩:=zie all hp;have E:∀(l:List bp),(l.map bp.loc).Nodup->t∈l->u∈l->u=t:=by
    intro l;induction l with
    | nil=>intro _ h;cases h
    | cons q l ih=>
      intro h h1 F;rw [List.map_cons,List.nodup_cons]at h;rcases List.mem_cons.1 h1 with D | D
      ·rcases List.mem_cons.1 F with A | A
       ·rw [D,A]
       exact absurd (List.mem_map.2 ⟨u,A,e.trans (congrArg bp.loc D)⟩) h.1
      rcases List.mem_cons.1 F with A | A
      ·exact absurd (List.mem_map.2 ⟨t,D,e.symm.trans (congrArg bp.loc A)⟩) h.1
      exact ih h.2 D A
   rw [E all I G J]
theorem zym {all G:List bp} {left:Lit->Bool} (l:LeftT all G left) {x:Int} (h:left (jc x)=true):∃E t A,G=E++t::A/\t.loc=x/\t∈all/\LeftT all (E++A) (fun z=>left z&& !z.sameKey (jc x)):=by
 rw [l.is,List.contains_iff_mem]at h;obtain ⟨t,I,rfl⟩:=List.mem_map.1 h;obtain ⟨E,A,rfl⟩:=List.append_of_mem I;refine ⟨E,t,A,rfl,rfl,l.sub t I,fun x=>?_,fun u F=>l.sub u ?_,?_⟩
 ·have D:=l.nd;rw [List.map_append,List.map_cons,List.nodup_append,List.nodup_cons]at D;have N:(jc x).sameKey (jc t.loc)=(x==t.loc):=by rw [Bool.eq_iff_iff];simp [jc,Lit.sameKey]
  rw [l.is,N,List.map_append,List.map_cons,List.map_append,List.contains_append,List.contains_append,List.contains_cons];by_cases e:x=t.loc
  ·subst e;have h1:(E.map bp.loc).contains t.loc=false:=by
    rw [Bool.eq_false_iff];intro hc;exact D.2.2 _ (List.contains_iff_mem.1 hc) t.loc (List.mem_cons_self ..) rfl
   have L:(A.map bp.loc).contains t.loc=false:=by rw [Bool.eq_false_iff];intro hc;exact D.2.1.1 (List.contains_iff_mem.1 hc)
   rw [h1,L];simp
  have J:(x==t.loc)=false:=by simpa using e
  rw [J];simp
 ·rcases List.mem_append.1 F with F | F
  ·exact List.mem_append_left _ F
  exact List.mem_append_right _ (List.mem_cons_of_mem _ F)
 have D:=l.nd;rw [List.map_append,List.map_cons]at D;rw [List.map_append];exact D.sublist (List.Sublist.append (List.Sublist.refl _) (List.sublist_cons_self _ _))
theorem zyn (w:World) (X:Nat) (all:List bp) (bm:ja w X all) (ae:(all.map bp.loc).Nodup) (hb:∀t∈all,0<=t.loc/\t.loc<=100000/\0<=t.len/\t.len<=5000) (bu:all.length<=5000):
 Calls Tryz.prog 147 #[.map (some X)] w fun r w'=>r=.returned (.int .i64 (all.map (fun t:bp=>3+t.len)).sum)/\Below w.heap.size w w':=by
 obtain ⟨D,N,hD⟩:=bm;have a6:=ag hD;have bb:=ag ae;have ai:=ag hb;have bx:=N.lt;have ap:LeftT all all (Maps.has D):=⟨fun x=>by rw [hD.has,zn0],fun t h=>h,ae⟩;have a8:=ag ap;have au:0<=(all.map (fun t:bp=>3+t.len)).sum/\(all.map (fun t:bp=>3+t.len)).sum<=6000*all.length:=by
  have aa:∀(l:List bp),(∀t∈l,0<=t.len/\t.len<=5000)->0<=(l.map (fun t:bp=>3+t.len)).sum/\(l.map (fun t:bp=>3+t.len)).sum<=6000*l.length:=by
   intro l;induction l with
   | nil=>intro _;simp
   | cons q l ih=>
     intro h;have h1:=ih fun p hp=>h p (List.mem_cons_of_mem _ hp);have h2:=h q (List.mem_cons_self ..);rw [List.map_cons,List.sum_cons,List.length_cons];omega
  exact aa all fun t ht=>⟨(hb t ht).2.2.1,(hb t ht).2.2.2⟩
 obtain ⟨A,a2⟩:∃A,(all.map (fun t:bp=>3+t.len)).sum=A:=⟨_,rfl⟩;have al:=ag a2;have a1:0<=A:=by omega
 have bs:A<=30000000:=by omega
 clear hD ae hb ap a2 au;go_enter Tryz.func147,Tryz.ntmps147;go_wp2_with (first | (at_range;refine wpList_range_own _ rfl _ 199 rfl 3 101 law3 Tryz.underlying199 _ X all.length D rfl N ?_;intro w0 O G b3) | go_in);have bf:=ag O;have a7:Hid (Below w.heap.size w w0):=⟨G.os,G.tape,G.output,G.size,fun k hk=>G.block k hk (by simp)⟩;clear O G
 go_frame
 go_loopw [3] (fun n wr=>∃(left:Lit->Bool) (ac:Nat) (I:List bp) (m:Int),n=.int .i64 m/\0<=m/\m<=A/\wr.ranges Tryz.prog 3 jt X w.heap.size all.length D left ac/\Hid (LeftT all I left/\m+(I.map (fun t:bp=>3+t.len)).sum=A)/\Below w.heap.size w wr) (fun _ wr=>wr.rangeLeft X w.heap.size)
 case atStart=>exact ⟨_,_,all,0,rfl,Int.le_refl _,a1,bf.o,⟨a8.o,by rw [Int.zero_add];exact al.o⟩,a7.o⟩
 case round=>
  obtain ⟨left,ac,I,m,rfl,b1,b2,L,HI,ao⟩:=hrel;have bg:=ag L;have Y:=ag ao;clear ao;go_wp2_with (first | (at_next;refine wpList_next_ranges _ rfl _ rfl 3 law3 jt (fun x:Int=>.int .i64 x) mx (fun key kl h=>by obtain ⟨x,e,-⟩:=Maps.keyOf_int_inv Tryz.underlying3 h;exact ⟨x,e⟩) zyk X w.heap.size all.length D left ac rfl L ?_ ?_) | go_in)
  ·intro bh ay;have E:I= []:=by
    cases hr:I with
    | nil=>rfl
    | cons t r=>
      have h1:=HI.o.1.is t.loc;rw [hr,ay]at h1;simp at h1
   have HR:Hid (m=A):=by show m=A;have:=HI.o.2;rw [E]at this;simpa using this
   clear bh ay L E;go_wp2_with fail;go_ret;exact ⟨by rw [HR.o,al.o];rfl,Y.o⟩
  intro x c kl y1 y2 w1 an ax a0 a4 aq V az aw bq av;have bk:kl=jc x:=by obtain ⟨x',e1,e2,-⟩:=Maps.keyOf_int_inv Tryz.underlying3 ax;injection e1 with _ e1;rw [e2,<-e1];rfl
  subst bk;obtain ⟨J,t,F,E,a3,af,ad⟩:=zym HI.o.1 a0;have bi:c=t:=by have h1:=a6.o.at_ t.loc t (jy t) (zyl bb.o af);rw [a3,aq]at h1;have h2:=zfd c;rw [a4]at h2;have h3:y1=jy c:=congrArg Prod.fst (ojq h2);rw [h3]at h1;exact zfe h1
  subst bi;have W:(I.map (fun t:bp=>3+t.len)).sum=((J++F).map (fun t:bp=>3+t.len)).sum+(3+c.len):=by rw [E];simp only [List.map_append,List.map_cons,List.sum_append,List.sum_cons];omega
  have b0:=ai.o c af;have hst:=HI.o.2;have bn:0<=((J++F).map (fun t:bp=>3+t.len)).sum:=by
   have aa:∀(l:List bp),(∀t∈l,0<=t.len)->0<=(l.map (fun t:bp=>3+t.len)).sum:=by
    intro l;induction l with
    | nil=>intro _;exact Int.le_refl _
    | cons q l ih=>
      intro h;have h1:=ih fun p hp=>h p (List.mem_cons_of_mem _ hp);have h2:=h q (List.mem_cons_self ..);rw [List.map_cons,List.sum_cons];omega
   exact aa _ fun t ht=>(ai.o t (ad.sub t ht)).2.2.1
  rw [W]at hst;have bc:Hid (LeftT all (J++F) (fun z=>left z&& !z.sameKey (jc x))/\(m+(3+c.len))+((J++F).map (fun t:bp=>3+t.len)).sum=A):=⟨ad,by omega⟩;have bl:m+(3+c.len)<=A:=by omega
  have Z:=ag (zyj (w1.alloc (.cells #[.int .i64 c.loc,.int .i64 c.tag,.int .i64 c.len,.int .i64 c.hash] 101)) c (by unfold small;omega) (by unfold small;omega));have b4:IntKind.i64.wrap (m+(3+c.len))=m+(3+c.len):=by rw [IntKind.wrap_i64];omega
  have ak:=ag V;have ah:Hid (Below w.heap.size w w1):=Y.o.grown aw Y.o.size (fun j e=>by cases e;exact nlq _);have a9:=ag az;unfold mx at av Z ⊢;clear ax a0 a4 aq V az aw E a3 ad hst W bn af L bq;go_wp2_with fail;refine Z.o.mono ?_;rintro r w2 ⟨rfl,ar⟩;have u:Below w1.heap.size w1 w2:=((br w1.heap.size w1).alloc (nlq _) _).trans (ar.mono (by simp));have aj:=ag (World.ranges.kept ak.o (row:=none) ⟨u.os,u.tape,u.output,u.size,fun i hi _=>u.block i hi⟩ (by simp) (by simp));have a5:Hid (Below w.heap.size w w2):=ah.o.trans (u.mono ah.o.size);clear ar u Z av;go_wp2_with fail;go_roundw
  case rel=>exact ⟨_,an,J++F,m+(3+c.len),by go_num,by omega,bl,aj.o,bc.o,a5.o⟩
  case measure=>rw [aj.o.left_eq,bg.o.left_eq];exact a9.o
end Go.Proofs.YtjdnmblggdobgaaGreat
