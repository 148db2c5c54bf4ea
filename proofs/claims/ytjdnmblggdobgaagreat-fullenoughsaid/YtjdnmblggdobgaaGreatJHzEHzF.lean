import Derived.Test.YtjdnmblggdobgaaGreatJHzBHzR
import Derived.Maps.RangeWalk
set_option maxHeartbeats 4000000
set_option maxRecDepth 100000
namespace Go.Proofs.YtjdnmblggdobgaaGreat
open Go.RowKit Go.Maps Tryz

theorem zyj (w:World) (t:bk) (h1:small t.loc) (J:small t.len):
 Calls prog 191 #[nb t] w fun r w'=>r=.returned (.i (3+t.len))/\Bl w w':=by
 have N:Hid (∀W,Calls prog 72 #[.agg #[.i t.loc,.i t.tag,.i t.len,.i t.hash]] W fun r w'=>r=.returned (.i (t.loc+3+t.len))/\Bl W w'):=fun W=>Ei W t h1 J;unfold small at h1 J;obtain ⟨h1,aa⟩:=h1;obtain ⟨J,ac⟩:=J;obtain ⟨E,G,F,X,kp⟩:=mi w #[.i t.loc,.i t.tag,.i t.len,.i t.hash] 101;have p0:=bp kp 0 (x:=.i t.loc) rfl;have p1:=bp kp 1 (x:=.i t.tag) rfl;have p2:=bp kp 2 (x:=.i t.len) rfl;have p3:=bp kp 3 (x:=.i t.hash) rfl;have lP:=bz kp;have D:=ag F;have L:=ag G;have w1:IntKind.i64.wrap (t.loc+3+t.len - t.loc)=3+t.len:=by rw [IntKind.wrap_i64];omega
 unfold nb;clear F G kp X;go_enter func191,ntmps191;go_wp2_with fail;rw [<-L.o];refine wp_region_held_drew (S:=fun Z=>∀p:Addr,p.block<E.heap.size->Z.cell? p=E.cell? p) (by kernel_rfl) (fun p Y=>rfl) fun A=>?_;refine ta 0 (.agg #[.i t.loc,.i t.tag,.i t.len,.i t.hash]) rfl A ?_;refine ta 2 (.p w.heap.size) rfl A ?_;refine ta 3 (.i t.loc) rfl A ?_;refine wpAnyH_ready (rs:=[1]) (by kernel_rfl) (by simp) ?_;refine AllReadyH.cons rfl (fun K1 O=>?_) AllReadyH.nil;go_simp;refine (N.o _).mono ?_;rintro r w2 ⟨rfl,V⟩;have I:Bl E w2:=(br E.heap.size E).drew.trans V;refine O.o _ _ (fun p Y=>I.cell Y) fun A=>?_;refine ta 4 (.i (3+t.len)) rfl A ?_;refine ta 5 (.i (3+t.len)) rfl A ?_;refine wpAnyH_done (by kernel_rfl) ?_ _;clear A;try simp only [Act.put,p1q,p4q,p3q,p2q,p5q,p6q]
 go_wp2_with fail;go_ret;exact ⟨rfl,D.o.trans (I.mono D.o.size)⟩
theorem zyk (v:Value) (y:DataW Unit×List MemPlace) (h:ko v=some y):∃c:bk,v=nb c:=by
 unfold ko at h;split at h
 ·rename_i cs;unfold xq at h;split at h
  ·rename_i a b c e hl;exact ⟨⟨a,b,c,e⟩,congrArg Value.agg (Array.toList_inj.1 hl)⟩
  cases h
 cases h
structure ub (all rem:List bk) (left:Lit->Bool):Prop where
 is:∀x:Int,left (jm x)=(rem.map bk.loc).contains x
 sub:∀t∈rem,t∈all
 nd:(rem.map bk.loc).Nodup
theorem zyl {all:List bk} (I:(all.map bk.loc).Nodup) {t:bk} (G:t∈all):j9 all t.loc=some t:=by
 cases hp:j9 all t.loc with
 | none=>exact absurd rfl (znz all hp t G)
 | some u=>
   obtain ⟨J,e⟩:=Dr all hp;have E:∀(l:List bk),(l.map bk.loc).Nodup->t∈l->u∈l->u=t:=by
    intro l;induction l with
    | nil=>intro _ h;cases h
    | cons q l ih=>
      intro h h1 F;rw [List.map_cons,List.nodup_cons]at h;rcases List.mem_cons.1 h1 with D | D
      ·rcases List.mem_cons.1 F with A | A
       ·rw [D,A]
       exact absurd (List.mem_map.2 ⟨u,A,e.trans (congrArg bk.loc D)⟩) h.1
      rcases List.mem_cons.1 F with A | A
      ·exact absurd (List.mem_map.2 ⟨t,D,e.symm.trans (congrArg bk.loc A)⟩) h.1
      exact ih h.2 D A
   rw [E all I G J]
theorem zym {all G:List bk} {left:Lit->Bool} (l:ub all G left) {x:Int} (h:left (jm x)=true):∃E t A,G=E++t::A/\t.loc=x/\t∈all/\ub all (E++A) (fun z=>left z&& !z.sameKey (jm x)):=by
 rw [l.is,List.contains_iff_mem]at h;obtain ⟨t,I,rfl⟩:=List.mem_map.1 h;obtain ⟨E,A,rfl⟩:=List.append_of_mem I;refine ⟨E,t,A,rfl,rfl,l.sub t I,fun x=>?_,fun u F=>l.sub u ?_,?_⟩
 ·have D:=l.nd;rw [List.map_append,List.map_cons,List.nodup_append,List.nodup_cons]at D;have N:(jm x).sameKey (jm t.loc)=(x==t.loc):=by rw [Bool.eq_iff_iff];simp [jm,Lit.sameKey]
  rw [l.is,N,List.map_append,List.map_cons,List.map_append,List.contains_append,List.contains_append,List.contains_cons];by_cases e:x=t.loc
  ·subst e;have h1:(E.map bk.loc).contains t.loc=false:=by
    rw [Bool.eq_false_iff];intro hc;exact D.2.2 _ (List.contains_iff_mem.1 hc) t.loc (List.mem_cons_self ..) rfl
   have L:(A.map bk.loc).contains t.loc=false:=by rw [Bool.eq_false_iff];intro hc;exact D.2.1.1 (List.contains_iff_mem.1 hc)
   rw [h1,L];simp
  have J:(x==t.loc)=false:=by simpa using e
  rw [J];simp
 ·rcases List.mem_append.1 F with F | F
  ·exact List.mem_append_left _ F
  exact List.mem_append_right _ (List.mem_cons_of_mem _ F)
 have D:=l.nd;rw [List.map_append,List.map_cons]at D;rw [List.map_append];exact D.sublist (List.Sublist.append (List.Sublist.refl _) (List.sublist_cons_self _ _))
theorem zyn (w:World) (X:Nat) (all:List bk) (bu:jt w X all) (ah:(all.map bk.loc).Nodup) (hb:∀t∈all,0<=t.loc/\t.loc<=100000/\0<=t.len/\t.len<=5000) (b1:all.length<=5000):
 Calls prog 147 #[.map (some X)] w fun r w'=>r=.returned (.i (all.map (fun t:bk=>3+t.len)).sum)/\Bl w w':=by
 obtain ⟨D,O,hD⟩:=bu;have bb:=ag hD;have bg:=ag ah;have ak:=ag hb;have b2:=O.lt;have av:ub all all (Maps.has D):=⟨fun x=>by rw [hD.has,Cd],fun t h=>h,ah⟩;have be:=ag av;have ay:0<=(all.map (fun t:bk=>3+t.len)).sum/\(all.map (fun t:bk=>3+t.len)).sum<=6000*all.length:=by
  have ac:∀(l:List bk),(∀t∈l,0<=t.len/\t.len<=5000)->0<=(l.map (fun t:bk=>3+t.len)).sum/\(l.map (fun t:bk=>3+t.len)).sum<=6000*l.length:=by
   intro l;induction l with
   | nil=>intro _;simp
   | cons q l ih=>
     intro h;have h1:=ih fun p hp=>h p (List.mem_cons_of_mem _ hp);have h2:=h q (List.mem_cons_self ..);rw [List.map_cons,List.sum_cons,List.length_cons];omega
  exact ac all fun t ht=>⟨(hb t ht).2.2.1,(hb t ht).2.2.2⟩
 obtain ⟨E,a6⟩:∃E,(all.map (fun t:bk=>3+t.len)).sum=E:=⟨_,rfl⟩;have ao:=ag a6;have a5:0<=E:=by omega
 have b0:E<=30000000:=by omega
 clear hD ah hb av a6 ay;go_enter func147,ntmps147;go_wp2_with (first | (at_range;refine wpList_range_own _ rfl _ 199 rfl 3 101 qc underlying199 _ X all.length D rfl O ?_;intro w0 V I b6) | go_in);have bi:=ag V;have bc:Hid (Bl w w0):=⟨I.os,I.tape,I.output,I.size,fun k hk=>I.block k hk (by simp)⟩;clear V I
 go_frame
 go_loopw [3] (fun n wr=>∃(left:Lit->Bool) (ad:Nat) (J:List bk) (m:Int),n=.i m/\0<=m/\m<=E/\wr.ranges prog 3 ko X w.heap.size all.length D left ad/\Hid (ub all J left/\m+(J.map (fun t:bk=>3+t.len)).sum=E)/\Bl w wr) (fun _ wr=>wr.rangeLeft X w.heap.size)
 case atStart=>exact ⟨_,_,all,0,rfl,Int.le_refl _,a5,bi.o,⟨be.o,by rw [Int.zero_add];exact ao.o⟩,bc.o⟩
 case round=>
  obtain ⟨left,ad,J,m,rfl,b4,b5,N,HI,au⟩:=hrel;have bl:=ag N;have Z:=ag au;clear au;go_wp2_with (first | (at_next;refine wpList_next_ranges _ rfl _ rfl 3 qc ko (fun x:Int=>.i x) nb (fun key kl h=>by obtain ⟨x,e,-⟩:=Maps.keyOf_int_inv underlying3 h;exact ⟨x,e⟩) zyk X w.heap.size all.length D left ad rfl N ?_ ?_) | go_in)
  ·intro bm a2;have F:J= []:=by
    cases hr:J with
    | nil=>rfl
    | cons t r=>
      have h1:=HI.o.1.is t.loc;rw [hr,a2]at h1;simp at h1
   have HR:Hid (m=E):=by show m=E;have:=HI.o.2;rw [F]at this;simpa using this
   clear bm a2 N F;go_wp2_with fail;go_ret;exact ⟨by rw [HR.o,ao.o];rfl,Z.o⟩
  intro x c kl y1 y2 w1 ap a1 a4 a8 aw W a3 a0 bx az;have bo:kl=jm x:=by obtain ⟨x',e1,e2,-⟩:=Maps.keyOf_int_inv underlying3 a1;injection e1 with _ e1;rw [e2,<-e1];rfl
  subst bo;obtain ⟨L,t,G,F,a7,ai,af⟩:=zym HI.o.1 a4;have bn:c=t:=by have h1:=bb.o.at_ t.loc t (li t) (zyl bg.o ai);rw [a7,aw]at h1;have h2:=zfd c;rw [a8]at h2;have h3:y1=li c:=congrArg Prod.fst (ojq h2);rw [h3]at h1;exact zfe h1
  subst bn;have Y:(J.map (fun t:bk=>3+t.len)).sum=((L++G).map (fun t:bk=>3+t.len)).sum+(3+c.len):=by rw [F];simp only [List.map_append,List.map_cons,List.sum_append,List.sum_cons];omega
  have b3:=ak.o c ai;have hst:=HI.o.2;have bv:0<=((L++G).map (fun t:bk=>3+t.len)).sum:=by
   have ac:∀(l:List bk),(∀t∈l,0<=t.len)->0<=(l.map (fun t:bk=>3+t.len)).sum:=by
    intro l;induction l with
    | nil=>intro _;exact Int.le_refl _
    | cons q l ih=>
      intro h;have h1:=ih fun p hp=>h p (List.mem_cons_of_mem _ hp);have h2:=h q (List.mem_cons_self ..);rw [List.map_cons,List.sum_cons];omega
   exact ac _ fun t ht=>(ak.o t (af.sub t ht)).2.2.1
  rw [Y]at hst;have bh:Hid (ub all (L++G) (fun z=>left z&& !z.sameKey (jm x))/\(m+(3+c.len))+((L++G).map (fun t:bk=>3+t.len)).sum=E):=⟨af,by omega⟩;have bs:m+(3+c.len)<=E:=by omega
  have aa:=ag (zyj (w1.alloc (.cells #[.i c.loc,.i c.tag,.i c.len,.i c.hash] 101)) c (by unfold small;omega) (by unfold small;omega));have b7:IntKind.i64.wrap (m+(3+c.len))=m+(3+c.len):=by rw [IntKind.wrap_i64];omega
  have an:=ag W;have aj:Hid (Bl w w1):=Z.o.grown a0 Z.o.size (fun j e=>by cases e;exact nlq _);have bf:=ag a3;unfold nb at az aa ⊢;clear a1 a4 a8 aw W a3 a0 F a7 af hst Y bv ai N bx;go_wp2_with fail;refine aa.o.mono ?_;rintro r w2 ⟨rfl,ax⟩;have A:Bl w1 w2:=((br w1.heap.size w1).alloc (nlq _) _).trans (ax.mono (by simp));have al:=ag (World.ranges.kept an.o (row:=none) ⟨A.os,A.tape,A.output,A.size,fun i hi _=>A.block i hi⟩ (by simp) (by simp));have a9:Hid (Bl w w2):=aj.o.trans (A.mono aj.o.size);clear ax A aa az;go_wp2_with fail;go_roundw
  case rel=>exact ⟨_,ap,L++G,m+(3+c.len),by go_num,by omega,bs,al.o,bh.o,a9.o⟩
  case measure=>rw [al.o.left_eq,bl.o.left_eq];exact bf.o
end Go.Proofs.YtjdnmblggdobgaaGreat
