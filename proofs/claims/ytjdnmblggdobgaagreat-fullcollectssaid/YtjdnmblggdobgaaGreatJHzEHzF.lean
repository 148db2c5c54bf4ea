import Derived.Test.YtjdnmblggdobgaaGreatJHzBHzD
import Derived.Test.YtjdnmblggdobgaaGreatJTk2Dies
import Derived.Maps.RangeWalk
set_option maxHeartbeats 4000000
set_option maxRecDepth 100000
namespace Go.Proofs.YtjdnmblggdobgaaGreat
open Go.RowKit Go.Maps
theorem zyg {f:Int->Int} {C:Int} :∀(l:List Int),(∀x∈l,0<=f x/\f x<=C)->0<=(l.map f).sum/\(l.map f).sum<=C*l.length
 | [],_=>by simp
 | x::l,h=>by
   have h1:=zyg l fun y u=>h y (List.mem_cons_of_mem _ u);have A:=h x (List.mem_cons_self ..);rw [List.map_cons,List.sum_cons,List.length_cons];have D:C*((l.length+1:Nat):Int)=C*l.length+C:=by rw [Int.natCast_add,Int.mul_add];simp
   omega
theorem zyh {f:Int->Int} (l:List Int) (k:Nat) (u:k<l.length):((l.take (k+1)).map f).sum=((l.take k).map f).sum+f l[k]:=by rw [List.take_succ_eq_append_getElem u,List.map_append,List.sum_append];simp
theorem zyi (w:World) (B:Nat) (vW vO kC kS kF kN kT:Value) (h:bd) (d:be) (g:Hd B w vW vO kC kS kF kN kT h d) (ts:List bo) (D:Right d h ts) (vR:Value) (rs:List Int) (hs:SL 1 RI (· <B) w vR rs) (hr:∀v∈rs,dv ts v=true) (au:rs.length<=1000000):
 Calls Tryz.prog 41 #[.agg #[vW,.int .i64 h.ae,.int .i64 h.old,.int .i64 h.bg,.int .i64 h.bj,vO,.int .i64 h.next],.agg #[kC,kS,kF,kN,kT],vR] w fun r w'=>r=.returned (.int .i64 (gi d h rs))/\Below w.heap.size w w':=by
 have HG:=ag g;have an:=ag hs;obtain ⟨aW,cW,aO,cO,aC,cC,aS,cS,aF,cF,aN,cN,aT,cT,rfl,rfl,rfl,rfl,rfl,rfl,rfl⟩:=g.agg;obtain ⟨aR,cR,rfl,-⟩:=hs;clear g;obtain ⟨W0,Z,u,av,k0,k1⟩:=j6 w #[.slice aW h.ab.length cW,.int .i64 h.ae,.int .i64 h.old,.int .i64 h.bg,.int .i64 h.bj,.slice aO h.ap.length cO,.int .i64 h.next] #[.slice aC d.aj.length cC,.slice aS d.ar.length cS,.slice aF d.fields.length cF,.slice aN d.names.length cN,.slice aT d.aq.length cT] 24 36;have aw:=bv k0;have N:=ag u;have W:=ag Z;have ah:=ag k0;have Y:Hid (∀V,Below W0.heap.size W0 V->Hd B V (.slice aW h.ab.length cW) (.slice aO h.ap.length cO) (.slice aC d.aj.length cC) (.slice aS d.ar.length cS) (.slice aF d.fields.length cF) (.slice aN d.names.length cN) (.slice aT d.aq.length cT) h d):=fun V hV=>HG.o.below ((u.trans (hV.mono u.size)).mono HG.o.le);have G:=ag (zv7 W0 B _ _ _ _ _ _ _ h d (Y.o W0 (br _ _)) ts D _ rs (an.o.keptI (Kp.below (u.mono HG.o.le))) hr au);obtain ⟨ad,A⟩:=zvn D hr;have E:=D.sized;have z1:=E.ae;have z2:=E.old;have z3:=E.len;have ac:∀x∈cg d h rs,1<=x/\x+3<=h.ab.length/\0<=wd h.ab (x+1)/\wd h.ab (x+1)<=5000:=fun x hx=>by obtain ⟨t,ht,rfl⟩:=zvl D hr ((A x).1 hx);have ay:=zsg D.sized D.both t ht;have e:t.len=wd h.ab (t.loc+1):=congrArg bo.len (th_at D ht);have a1:t.fin=t.loc+3+t.len:=rfl;omega
 have a2:(cg d h rs).length<=5000:=by have h1:=zvh _ _ ad fun x hx=>(by obtain ⟨t,ht,e⟩:=zvl D hr ((A x).1 hx);exact List.mem_map.2 ⟨t,ht,e⟩:x∈ts.map bo.loc);have h2:=zvm D;omega
 have a3:h.ab.length<=5000:=by omega
 have ai:Hid (gi d h rs=((cg d h rs).map (fun a=>3+wd h.ab (a+1))).sum):=rfl;have X:=ag ac;rw [W.o]at G;generalize cg d h rs=l at*;clear u Z av k0 k1 D hr ad A E z1 z2 z3 ac;go_enter Tryz.func41,Tryz.ntmps41;go_wp2_with fail;refine G.o.mono ?_;rw [<-W.o];rintro r w1 ⟨I,vl,rfl,L⟩;obtain ⟨aL,cL,rfl⟩:=jf L;have ak:=ag (zfb L (by omega));have O:=ag I;have j0:=(I.block _ aw).trans ah.o;have a0:=ba j0 0 (x:=.slice aW h.ab.length cW) rfl;have al:=bv j0;clear I L G j0;go_wp2_with fail;go_loopw [8,9] (fun n i wr=>∃k:Nat,i=.int .i64 k/\k<=l.length/\n=.int .i64 ((l.take k).map (fun a=>3+wd h.ab (a+1))).sum/\∃q,wr=w1.drewN q) (fun _ i _=>l.length - (intOf i).toNat)
 case atStart=>exact ⟨0,rfl,n0q _,rfl,0,rfl⟩
 case round=>
  obtain ⟨k,rfl,hk,rfl,q,rfl⟩:=hrel;by_cases J:k<l.length
  ·obtain ⟨bl,ol,rfl,az,s1⟩:=ak.o.atI k J;obtain ⟨f1,f2,f3,f4⟩:=X.o l[k] (gm J);have hst:=zyh (f:=(fun a=>3+wd h.ab (a+1))) l k J;obtain ⟨b1,b2⟩:=zyg (f:=(fun a=>3+wd h.ab (a+1))) (C:=6000) (l.take k) fun x hx=>by
    have:=X.o x (List.mem_of_mem_take hx);show 0<=3+wd h.ab (x+1)/\3+wd h.ab (x+1)<=6000;omega
   rw [List.length_take,Nat.min_eq_left (by omega)]at b2;obtain ⟨c,hc⟩:∃c:Nat,l[k]=(c:Int):=⟨l[k].toNat,by omega⟩;rw [hc]at s1 hst f1 f2 f3 f4;have aa:c+1<h.ab.length:=by omega
   obtain ⟨bW,oW,rfl,ax,s2⟩:=(Y.o w1 O.o).sW.atI (c+1) aa;have af:h.ab[c+1]=wd h.ab ((c:Int)+1):=by rw [show ((c:Int)+1)=((c+1:Nat):Int) by omega,zen aa]
   rw [af]at s2;generalize hvv:wd h.ab ((c:Int)+1)=v at*;have F:((l.take (k+1)).map (fun a=>3+wd h.ab (a+1))).sum=((l.take k).map (fun a=>3+wd h.ab (a+1))).sum+(3+v):=by rw [hst]
   have ao:=ag F;generalize ((l.take k).map (fun a=>3+wd h.ab (a+1))).sum=n at*;have a4:IntKind.i64.wrap ((c:Int)+1)=((c+1:Nat):Int):=by rw [IntKind.wrap_i64];omega
   have a5:IntKind.i64.wrap (3+v)=3+v:=by rw [IntKind.wrap_i64];omega
   have a6:IntKind.i64.wrap (n+(3+v))=n+(3+v):=by rw [IntKind.wrap_i64];omega
   clear hst F hvv af hc;go_wp2_with fail;go_quiet (fail);go_wp2_with fail;go_roundw
   case rel=>exact ⟨k+1,by go_num,by omega,by rw [ao.o],_,rfl⟩
   case measure=>simp [intOf];omega
  have HR:Hid (((l.take k).map (fun a=>3+wd h.ab (a+1))).sum=gi d h rs):=by show _=_;rw [ai.o,List.take_of_length_le (by omega)]
  have HF:Hid (Below w.heap.size w (w1.drewN q)):=ll (N.o.trans (O.o.mono N.o.size)) q;go_wp2_with fail;go_ret;exact ⟨by rw [HR.o];rfl,HF.o⟩
theorem zyj (w:World) (t:bo) (h1:small t.loc) (I:small t.len):
 Calls Tryz.prog 191 #[mg t] w fun r w'=>r=.returned (.int .i64 (3+t.len))/\Below w.heap.size w w':=by
 have L:Hid (∀W,Calls Tryz.prog 72 #[.agg #[.int .i64 t.loc,.int .i64 t.tag,.int .i64 t.len,.int .i64 t.hash]] W fun r w'=>r=.returned (.int .i64 (t.loc+3+t.len))/\Below W.heap.size W w'):=fun W=>ze2 W t h1 I;unfold small at h1 I;obtain ⟨h1,Z⟩:=h1;obtain ⟨I,aa⟩:=I;obtain ⟨A,F,E,V,kp⟩:=ir w #[.int .i64 t.loc,.int .i64 t.tag,.int .i64 t.len,.int .i64 t.hash] 101;have p0:=ba kp 0 (x:=.int .i64 t.loc) rfl;have p1:=ba kp 1 (x:=.int .i64 t.tag) rfl;have p2:=ba kp 2 (x:=.int .i64 t.len) rfl;have p3:=ba kp 3 (x:=.int .i64 t.hash) rfl;have lP:=bv kp;have D:=ag E;have J:=ag F;have w1:IntKind.i64.wrap (t.loc+3+t.len - t.loc)=3+t.len:=by rw [IntKind.wrap_i64];omega
 unfold mg;clear E F kp V;go_enter Tryz.func191,Tryz.ntmps191;go_wp2_with fail;rw [<-J.o];refine wp_region_held_drew (S:=fun Y=>∀p:Addr,p.block<A.heap.size->Y.cell? p=A.cell? p) (by kernel_rfl) (fun p X=>rfl) fun u=>?_;refine ta 0 (.agg #[.int .i64 t.loc,.int .i64 t.tag,.int .i64 t.len,.int .i64 t.hash]) rfl u ?_;refine ta 2 (.pointer (some ⟨w.heap.size,0,none⟩)) rfl u ?_;refine ta 3 (.int .i64 t.loc) rfl u ?_;refine wpAnyH_ready (rs:=[1]) (by kernel_rfl) (by simp) ?_;refine AllReadyH.cons rfl (fun K1 N=>?_) AllReadyH.nil;go_simp;refine (L.o _).mono ?_;rintro r w2 ⟨rfl,O⟩;have G:Below A.heap.size A w2:=(br A.heap.size A).drew.trans O;refine N.o _ _ (fun p X=>G.cell X) fun u=>?_;refine ta 4 (.int .i64 (3+t.len)) rfl u ?_;refine ta 5 (.int .i64 (3+t.len)) rfl u ?_;refine wpAnyH_done (by kernel_rfl) ?_ _;clear u;try simp only [Act.put,p1q,p4q,p3q,p2q,p5q,p6q]
 go_wp2_with fail;go_ret;exact ⟨rfl,D.o.trans (G.mono D.o.size)⟩
theorem zyk (v:Value) (y:DataW Unit×List MemPlace) (h:ji v=some y):∃c:bo,v=mg c:=by
 unfold ji at h;split at h
 ·rename_i cs;unfold thElemL at h;split at h
  ·rename_i a b c e hl;exact ⟨⟨a,b,c,e⟩,congrArg Value.agg (Array.toList_inj.1 hl)⟩
  cases h
 cases h
structure LeftT (all rem:List bo) (left:Lit->Bool):Prop where
 is:∀x:Int,left (i2 x)=(rem.map bo.loc).contains x
 sub:∀t∈rem,t∈all
 nd:(rem.map bo.loc).Nodup
theorem zyl {all:List bo} (I:(all.map bo.loc).Nodup) {t:bo} (G:t∈all):j7 all t.loc=some t:=by
 cases hp:j7 all t.loc with
 | none=>exact absurd rfl (znz all hp t G)
 | some u=>
   obtain ⟨J,e⟩:=zie all hp;have E:∀(l:List bo),(l.map bo.loc).Nodup->t∈l->u∈l->u=t:=by
    intro l;induction l with
    | nil=>intro _ h;cases h
    | cons q l ih=>
      intro h h1 F;rw [List.map_cons,List.nodup_cons]at h;rcases List.mem_cons.1 h1 with D | D
      ·rcases List.mem_cons.1 F with A | A
       ·rw [D,A]
       exact absurd (List.mem_map.2 ⟨u,A,e.trans (congrArg bo.loc D)⟩) h.1
      rcases List.mem_cons.1 F with A | A
      ·exact absurd (List.mem_map.2 ⟨t,D,e.symm.trans (congrArg bo.loc A)⟩) h.1
      exact ih h.2 D A
   rw [E all I G J]
theorem zym {all G:List bo} {left:Lit->Bool} (l:LeftT all G left) {x:Int} (h:left (i2 x)=true):∃E t A,G=E++t::A/\t.loc=x/\t∈all/\LeftT all (E++A) (fun z=>left z&& !z.sameKey (i2 x)):=by
 rw [l.is,List.contains_iff_mem]at h;obtain ⟨t,I,rfl⟩:=List.mem_map.1 h;obtain ⟨E,A,rfl⟩:=List.append_of_mem I;refine ⟨E,t,A,rfl,rfl,l.sub t I,fun x=>?_,fun u F=>l.sub u ?_,?_⟩
 ·have D:=l.nd;rw [List.map_append,List.map_cons,List.nodup_append,List.nodup_cons]at D;have N:(i2 x).sameKey (i2 t.loc)=(x==t.loc):=by rw [Bool.eq_iff_iff];simp [i2,Lit.sameKey]
  rw [l.is,N,List.map_append,List.map_cons,List.map_append,List.contains_append,List.contains_append,List.contains_cons];by_cases e:x=t.loc
  ·subst e;have h1:(E.map bo.loc).contains t.loc=false:=by
    rw [Bool.eq_false_iff];intro hc;exact D.2.2 _ (List.contains_iff_mem.1 hc) t.loc (List.mem_cons_self ..) rfl
   have L:(A.map bo.loc).contains t.loc=false:=by rw [Bool.eq_false_iff];intro hc;exact D.2.1.1 (List.contains_iff_mem.1 hc)
   rw [h1,L];simp
  have J:(x==t.loc)=false:=by simpa using e
  rw [J];simp
 ·rcases List.mem_append.1 F with F | F
  ·exact List.mem_append_left _ F
  exact List.mem_append_right _ (List.mem_cons_of_mem _ F)
 have D:=l.nd;rw [List.map_append,List.map_cons]at D;rw [List.map_append];exact D.sublist (List.Sublist.append (List.Sublist.refl _) (List.sublist_cons_self _ _))
theorem zyn (w:World) (X:Nat) (all:List bo) (bm:i0 w X all) (ae:(all.map bo.loc).Nodup) (hb:∀t∈all,0<=t.loc/\t.loc<=100000/\0<=t.len/\t.len<=5000) (bu:all.length<=5000):
 Calls Tryz.prog 147 #[.map (some X)] w fun r w'=>r=.returned (.int .i64 (all.map (fun t:bo=>3+t.len)).sum)/\Below w.heap.size w w':=by
 obtain ⟨D,N,hD⟩:=bm;have a6:=ag hD;have bb:=ag ae;have ai:=ag hb;have bw:=N.lt;have ap:LeftT all all (Maps.has D):=⟨fun x=>by rw [hD.has,zn0],fun t h=>h,ae⟩;have a8:=ag ap;have au:0<=(all.map (fun t:bo=>3+t.len)).sum/\(all.map (fun t:bo=>3+t.len)).sum<=6000*all.length:=by
  have aa:∀(l:List bo),(∀t∈l,0<=t.len/\t.len<=5000)->0<=(l.map (fun t:bo=>3+t.len)).sum/\(l.map (fun t:bo=>3+t.len)).sum<=6000*l.length:=by
   intro l;induction l with
   | nil=>intro _;simp
   | cons q l ih=>
     intro h;have h1:=ih fun p hp=>h p (List.mem_cons_of_mem _ hp);have h2:=h q (List.mem_cons_self ..);rw [List.map_cons,List.sum_cons,List.length_cons];omega
  exact aa all fun t ht=>⟨(hb t ht).2.2.1,(hb t ht).2.2.2⟩
 obtain ⟨A,a2⟩:∃A,(all.map (fun t:bo=>3+t.len)).sum=A:=⟨_,rfl⟩;have al:=ag a2;have a1:0<=A:=by omega
 have bs:A<=30000000:=by omega
 clear hD ae hb ap a2 au;go_enter Tryz.func147,Tryz.ntmps147;go_wp2_with (first | (at_range;refine wpList_range_own _ rfl _ 199 rfl 3 101 law3 Tryz.underlying199 _ X all.length D rfl N ?_;intro w0 O G b1) | go_in);have bf:=ag O;have a7:Hid (Below w.heap.size w w0):=⟨G.os,G.tape,G.output,G.size,fun k hk=>G.block k hk (by simp)⟩;clear O G
 go_frame
 go_loopw [3] (fun n wr=>∃(left:Lit->Bool) (ac:Nat) (I:List bo) (m:Int),n=.int .i64 m/\0<=m/\m<=A/\wr.ranges Tryz.prog 3 ji X w.heap.size all.length D left ac/\Hid (LeftT all I left/\m+(I.map (fun t:bo=>3+t.len)).sum=A)/\Below w.heap.size w wr) (fun _ wr=>wr.rangeLeft X w.heap.size)
 case atStart=>exact ⟨_,_,all,0,rfl,Int.le_refl _,a1,bf.o,⟨a8.o,by rw [Int.zero_add];exact al.o⟩,a7.o⟩
 case round=>
  obtain ⟨left,ac,I,m,rfl,bz,b0,L,HI,ao⟩:=hrel;have bg:=ag L;have Y:=ag ao;clear ao;go_wp2_with (first | (at_next;refine wpList_next_ranges _ rfl _ rfl 3 law3 ji (fun x:Int=>.int .i64 x) mg (fun key kl h=>by obtain ⟨x,e,-⟩:=Maps.keyOf_int_inv Tryz.underlying3 h;exact ⟨x,e⟩) zyk X w.heap.size all.length D left ac rfl L ?_ ?_) | go_in)
  ·intro bh ay;have E:I= []:=by
    cases hr:I with
    | nil=>rfl
    | cons t r=>
      have h1:=HI.o.1.is t.loc;rw [hr,ay]at h1;simp at h1
   have HR:Hid (m=A):=by show m=A;have:=HI.o.2;rw [E]at this;simpa using this
   clear bh ay L E;go_wp2_with fail;go_ret;exact ⟨by rw [HR.o,al.o];rfl,Y.o⟩
  intro x c kl y1 y2 w1 an ax a0 a4 aq V az aw bp av;have bj:kl=i2 x:=by obtain ⟨x',e1,e2,-⟩:=Maps.keyOf_int_inv Tryz.underlying3 ax;injection e1 with _ e1;rw [e2,<-e1];rfl
  subst bj;obtain ⟨J,t,F,E,a3,af,ad⟩:=zym HI.o.1 a0;have bi:c=t:=by have h1:=a6.o.at_ t.loc t (jr t) (zyl bb.o af);rw [a3,aq]at h1;have h2:=zfd c;rw [a4]at h2;have h3:y1=jr c:=congrArg Prod.fst (ojq h2);rw [h3]at h1;exact zfe h1
  subst bi;have W:(I.map (fun t:bo=>3+t.len)).sum=((J++F).map (fun t:bo=>3+t.len)).sum+(3+c.len):=by rw [E];simp only [List.map_append,List.map_cons,List.sum_append,List.sum_cons];omega
  have bx:=ai.o c af;have hst:=HI.o.2;have bn:0<=((J++F).map (fun t:bo=>3+t.len)).sum:=by
   have aa:∀(l:List bo),(∀t∈l,0<=t.len)->0<=(l.map (fun t:bo=>3+t.len)).sum:=by
    intro l;induction l with
    | nil=>intro _;exact Int.le_refl _
    | cons q l ih=>
      intro h;have h1:=ih fun p hp=>h p (List.mem_cons_of_mem _ hp);have h2:=h q (List.mem_cons_self ..);rw [List.map_cons,List.sum_cons];omega
   exact aa _ fun t ht=>(ai.o t (ad.sub t ht)).2.2.1
  rw [W]at hst;have bc:Hid (LeftT all (J++F) (fun z=>left z&& !z.sameKey (i2 x))/\(m+(3+c.len))+((J++F).map (fun t:bo=>3+t.len)).sum=A):=⟨ad,by omega⟩;have bl:m+(3+c.len)<=A:=by omega
  have Z:=ag (zyj (w1.alloc (.cells #[.int .i64 c.loc,.int .i64 c.tag,.int .i64 c.len,.int .i64 c.hash] 101)) c (by unfold small;omega) (by unfold small;omega));have b2:IntKind.i64.wrap (m+(3+c.len))=m+(3+c.len):=by rw [IntKind.wrap_i64];omega
  have ak:=ag V;have ah:Hid (Below w.heap.size w w1):=Y.o.grown aw Y.o.size (fun j e=>by cases e;exact nlq _);have a9:=ag az;unfold mg at av Z ⊢;clear ax a0 a4 aq V az aw E a3 ad hst W bn af L bp;go_wp2_with fail;refine Z.o.mono ?_;rintro r w2 ⟨rfl,ar⟩;have u:Below w1.heap.size w1 w2:=((br w1.heap.size w1).alloc (nlq _) _).trans (ar.mono (by simp));have aj:=ag (World.ranges.kept ak.o (row:=none) ⟨u.os,u.tape,u.output,u.size,fun i hi _=>u.block i hi⟩ (by simp) (by simp));have a5:Hid (Below w.heap.size w w2):=ah.o.trans (u.mono ah.o.size);clear ar u Z av;go_wp2_with fail;go_roundw
  case rel=>exact ⟨_,an,J++F,m+(3+c.len),by go_num,by omega,bl,aj.o,bc.o,a5.o⟩
  case measure=>rw [aj.o.left_eq,bg.o.left_eq];exact a9.o
end Go.Proofs.YtjdnmblggdobgaaGreat
