import Derived.Test.YtjdnmblggdobgaaGreatJHzBHzR
set_option maxHeartbeats 4000000
set_option maxRecDepth 100000
namespace Go.Proofs.YtjdnmblggdobgaaGreat
open Go.Maps Go.RowKit Tryz List World
variable (w:World) {all:List bq}
theorem zx9 (t:bq) (h1:small t.loc) (J:small t.len):
 Calls prog 191 #[nw t] w fun r w'=>r=.returned (.i (3+t.len))/\Bl w w':=by
 have N:Hid (∀W,Calls prog 72 #[.agg #[.i t.loc,.i t.tag,.i t.len,.i t.hash]] W fun r w'=>r=.returned (.i (t.loc+3+t.len))/\Bl W w'):=fun W=>Er W t h1 J;unfold small at h1 J;obtain ⟨h1,aa⟩:=h1;obtain ⟨J,ac⟩:=J;obtain ⟨E,G,F,X,kp⟩:=jq w #[.i t.loc,.i t.tag,.i t.len,.i t.hash] 101;have p0:=bg kp 0 (x:=.i t.loc) rfl;have p1:=bg kp 1 (x:=.i t.tag) rfl;have p2:=bg kp 2 (x:=.i t.len) rfl;have p3:=bg kp 3 (x:=.i t.hash) rfl;have lP:=bz kp;have D:=aj F;have L:=aj G;have w1:IntKind.i64.wrap (t.loc+3+t.len - t.loc)=3+t.len:=by rw [IntKind.wrap_i64];omega
 unfold nw;clear F G kp X;go_enter func191,ntmps191;go_wp2_with fail;rw [<-L.o];refine wp_region_held_drew (S:=fun Z=>∀p:Addr,p.block<E.heap.size->Z.cell? p=E.cell? p) (by kernel_rfl) (fun p Y=>rfl) fun A=>?_;refine ta 0 (.agg #[.i t.loc,.i t.tag,.i t.len,.i t.hash]) rfl A ?_;refine ta 2 (.p w.heap.size) rfl A ?_;refine ta 3 (.i t.loc) rfl A ?_;refine wpAnyH_ready (rs:=[1]) (by kernel_rfl) (by simp) ?_;refine AllReadyH.cons rfl (fun K1 O=>?_) AllReadyH.nil;go_simp;refine (N.o _).mono ?_;rintro r w2 ⟨rfl,V⟩;have I:Bl E w2:=(br E.heap.size E).drew.trans V;refine O.o _ _ (fun p Y=>I.cell Y) fun A=>?_;refine ta 4 (.i (3+t.len)) rfl A ?_;refine ta 5 (.i (3+t.len)) rfl A ?_;refine wpAnyH_done (by kernel_rfl) ?_ _;clear A;try simp only [Act.put,p1q,p4q,p3q,p2q,p5q,p6q]
 go_wp2_with fail;go_ret;exact ⟨rfl,D.o.trans (I.mono D.o.size)⟩
theorem zya (v:Value) (y:DataW Unit×List MemPlace) (h:ll v=some y):∃c:bq,v=nw c:=by
 unfold ll at h;split at h
 ·rename_i cs;unfold yy at h;split at h
  ·rename_i a b c e hl;exact ⟨⟨a,b,c,e⟩,congrArg Value.agg (Array.toList_inj.1 hl)⟩
  cases h
 cases h
structure ut (all rem:List bq) (left:Lit->Bool):Prop where
 is:∀x:Int,left (jt x)=(rem.map bq.loc).contains x
 sub:∀t∈rem,t∈all
 nd:(rem.map bq.loc).Nodup
theorem zyb (I:(all.map bq.loc).Nodup) {t:bq} (G:t∈all):mw all t.loc=some t:=by
 cases hp:mw all t.loc with
 | none=>exact absurd rfl (znp all hp t G)
 | some u=>
   obtain ⟨J,e⟩:=Fr all hp;have E:∀(l:List bq),(l.map bq.loc).Nodup->t∈l->u∈l->u=t:=by
    intro l;induction l with
    | nil=>intro _ h;cases h
    | cons q l ih=>
      intro h h1 F;rw [map_cons,nodup_cons]at h;rcases mem_cons.1 h1 with D | D
      ·rcases mem_cons.1 F with A | A
       ·rw [D,A]
       exact absurd (mem_map.2 ⟨u,A,e.trans (congrArg bq.loc D)⟩) h.1
      rcases mem_cons.1 F with A | A
      ·exact absurd (mem_map.2 ⟨t,D,e.symm.trans (congrArg bq.loc A)⟩) h.1
      exact ih h.2 D A
   rw [E all I G J]
theorem zyc {G:List bq} {left:Lit->Bool} (l:ut all G left) {x:Int} (h:left (jt x)=true):∃E t A,G=E++t::A/\t.loc=x/\t∈all/\ut all (E++A) (fun z=>left z&& !z.sameKey (jt x)):=by
 rw [l.is,contains_iff_mem]at h;obtain ⟨t,I,rfl⟩:=mem_map.1 h;obtain ⟨E,A,rfl⟩:=append_of_mem I;refine ⟨E,t,A,rfl,rfl,l.sub t I,fun x=>?_,fun u F=>l.sub u ?_,?_⟩
 ·have D:=l.nd;rw [map_append,map_cons,nodup_append,nodup_cons]at D;have N:(jt x).sameKey (jt t.loc)=(x==t.loc):=by rw [Bool.eq_iff_iff];simp [jt,Lit.sameKey]
  rw [l.is,N,map_append,map_cons,map_append,contains_append,contains_append,contains_cons];by_cases e:x=t.loc
  ·subst e;have h1:(E.map bq.loc).contains t.loc=false:=by
    rw [Bool.eq_false_iff];intro hc;exact D.2.2 _ (contains_iff_mem.1 hc) t.loc (mem_cons_self ..) rfl
   have L:(A.map bq.loc).contains t.loc=false:=by rw [Bool.eq_false_iff];intro hc;exact D.2.1.1 (contains_iff_mem.1 hc)
   rw [h1,L];simp
  have J:(x==t.loc)=false:=by simpa using e
  rw [J];simp
 ·rcases mem_append.1 F with F | F
  ·exact mem_append_left _ F
  exact mem_append_right _ (mem_cons_of_mem _ F)
 have D:=l.nd;rw [map_append,map_cons]at D;rw [map_append];exact D.sublist (Sublist.append (Sublist.refl _) (sublist_cons_self _ _))
theorem zyd (X:Nat) (all:List bq) (bu:kc w X all) (af:(all.map bq.loc).Nodup) (hb:∀t∈all,0<=t.loc/\t.loc<=100000/\0<=t.len/\t.len<=5000) (b2:all.length<=5000):
 Calls prog 147 #[.map (some X)] w fun r w'=>r=.returned (.i (all.map (fun t:bq=>3+t.len)).sum)/\Bl w w':=by
 obtain ⟨D,O,hD⟩:=bu;have bc:=aj hD;have bi:=aj af;have ak:=aj hb;have b3:=O.lt;have aw:ut all all (Maps.has D):=⟨fun x=>by rw [hD.has,Fx],fun t h=>h,af⟩;have bf:=aj aw;have a0:0<=(all.map (fun t:bq=>3+t.len)).sum/\(all.map (fun t:bq=>3+t.len)).sum<=6000*all.length:=by
  have ac:∀(l:List bq),(∀t∈l,0<=t.len/\t.len<=5000)->0<=(l.map (fun t:bq=>3+t.len)).sum/\(l.map (fun t:bq=>3+t.len)).sum<=6000*l.length:=by
   intro l;induction l with
   | nil=>intro _;simp
   | cons q l ih=>
     intro h;have h1:=ih fun p hp=>h p (mem_cons_of_mem _ hp);have h2:=h q (mem_cons_self ..);rw [map_cons,sum_cons,length_cons];omega
  exact ac all fun t ht=>⟨(hb t ht).2.2.1,(hb t ht).2.2.2⟩
 obtain ⟨E,a8⟩:∃E,(all.map (fun t:bq=>3+t.len)).sum=E:=⟨_,rfl⟩;have an:=aj a8;have a7:0<=E:=by omega
 have b1:E<=30000000:=by omega
 clear hD af hb aw a8 a0;go_enter func147,ntmps147;go_wp2_with (first | (at_range;refine wpList_range_own _ rfl _ 199 rfl 3 101 qq underlying199 _ X all.length D rfl O ?_;intro w0 V I b7) | go_in);have bk:=aj V;have bd:Hid (Bl w w0):=⟨I.os,I.tape,I.output,I.size,fun k hk=>I.block k hk (by simp)⟩;clear V I
 go_frame
 go_loopw [3] (fun n wr=>∃(left:Lit->Bool) (ad:Nat) (J:List bq) (m:Int),n=.i m/\0<=m/\m<=E/\wr.ranges prog 3 ll X w.heap.size all.length D left ad/\Hid (ut all J left/\m+(J.map (fun t:bq=>3+t.len)).sum=E)/\Bl w wr) (fun _ wr=>wr.rangeLeft X w.heap.size)
 case atStart=>exact ⟨_,_,all,0,rfl,Int.le_refl _,a7,bk.o,⟨bf.o,by rw [Int.zero_add];exact an.o⟩,bd.o⟩
 case round=>
  obtain ⟨left,ad,J,m,rfl,b5,b6,N,HI,av⟩:=hrel;have bl:=aj N;have Z:=aj av;clear av;go_wp2_with (first | (at_next;refine wpList_next_ranges _ rfl _ rfl 3 qq ll (fun x:Int=>.i x) nw (fun key kl h=>by obtain ⟨x,e,-⟩:=Maps.keyOf_int_inv underlying3 h;exact ⟨x,e⟩) zya X w.heap.size all.length D left ad rfl N ?_ ?_) | go_in)
  ·intro bm a4;have F:J= []:=by
    cases hr:J with
    | nil=>rfl
    | cons t r=>
      have h1:=HI.o.1.is t.loc;rw [hr,a4]at h1;simp at h1
   have HR:Hid (m=E):=by show m=E;have:=HI.o.2;rw [F]at this;simpa using this
   clear bm a4 N F;go_wp2_with fail;go_ret;exact ⟨by rw [HR.o,an.o];rfl,Z.o⟩
  intro x c kl y1 y2 w1 au a3 a6 ba ay W a5 a2 b0 a1;have bo:kl=jt x:=by obtain ⟨x',e1,e2,-⟩:=Maps.keyOf_int_inv underlying3 a3;injection e1 with _ e1;rw [e2,<-e1];rfl
  subst bo;obtain ⟨L,t,G,F,a9,ah,ae⟩:=zyc HI.o.1 a6;have bn:c=t:=by have h1:=bc.o.at_ t.loc t (mg t) (zyb bi.o ah);rw [a9,ay]at h1;have h2:=ze4 c;rw [ba]at h2;have h3:y1=mg c:=congrArg Prod.fst (ojq h2);rw [h3]at h1;exact ze5 h1
  subst bn;have Y:(J.map (fun t:bq=>3+t.len)).sum=((L++G).map (fun t:bq=>3+t.len)).sum+(3+c.len):=by rw [F];simp only [map_append,map_cons,sum_append,sum_cons];omega
  have b4:=ak.o c ah;have hst:=HI.o.2;have bx:0<=((L++G).map (fun t:bq=>3+t.len)).sum:=by
   have ac:∀(l:List bq),(∀t∈l,0<=t.len)->0<=(l.map (fun t:bq=>3+t.len)).sum:=by
    intro l;induction l with
    | nil=>intro _;exact Int.le_refl _
    | cons q l ih=>
      intro h;have h1:=ih fun p hp=>h p (mem_cons_of_mem _ hp);have h2:=h q (mem_cons_self ..);rw [map_cons,sum_cons];omega
   exact ac _ fun t ht=>(ak.o t (ae.sub t ht)).2.2.1
  rw [Y]at hst;have bj:Hid (ut all (L++G) (fun z=>left z&& !z.sameKey (jt x))/\(m+(3+c.len))+((L++G).map (fun t:bq=>3+t.len)).sum=E):=⟨ae,by omega⟩;have bs:m+(3+c.len)<=E:=by omega
  have aa:=aj (zx9 (w1.alloc (.cells #[.i c.loc,.i c.tag,.i c.len,.i c.hash] 101)) c (by unfold small;omega) (by unfold small;omega));have b9:IntKind.i64.wrap (m+(3+c.len))=m+(3+c.len):=by rw [IntKind.wrap_i64];omega
  have am:=aj W;have ai:Hid (Bl w w1):=Z.o.grown a2 Z.o.size (fun j e=>by cases e;exact nlq _);have bh:=aj a5;unfold nw at a1 aa ⊢;clear a3 a6 ba ay W a5 a2 F a9 ae hst Y bx ah N b0;go_wp2_with fail;refine aa.o.mono ?_;rintro r w2 ⟨rfl,az⟩;have A:Bl w1 w2:=((br w1.heap.size w1).alloc (nlq _) _).trans (az.mono (by simp));have al:=aj (ranges.kept am.o (row:=none) ⟨A.os,A.tape,A.output,A.size,fun i hi _=>A.block i hi⟩ (by simp) (by simp));have bb:Hid (Bl w w2):=ai.o.trans (A.mono ai.o.size);clear az A aa a1;go_wp2_with fail;go_roundw
  case rel=>exact ⟨_,au,L++G,m+(3+c.len),by go_num,by omega,bs,al.o,bj.o,bb.o⟩
  case measure=>rw [al.o.left_eq,bl.o.left_eq];exact bh.o
end Go.Proofs.YtjdnmblggdobgaaGreat
