import Derived.Test.YtjdnmblggdobgaaGreatJTk2Dies
import Derived.Test.YtjdnmblggdobgaaGreatJHzEHzF
import Derived.Test.YtjdnmblggdobgaaGreatJHyGHyJ
import Derived.Test.YtjdnmblggdobgaaGreatJHyBHzA
set_option maxHeartbeats 8000000
set_option maxRecDepth 100000
namespace Go.Proofs.YtjdnmblggdobgaaGreat
open Go.RowKit Go.Maps
structure DfsI (d:be) (h:bd) (ts:List bp) (rs:List Int) (all:List bp) (ahead:List Int):Prop where
 nd:(all.map bp.loc).Nodup
 inT:∀t∈all,t∈ts
 snd:∀t∈all,jq nz (fm d.fields h.ab) rs t.loc
 ah:∀v∈ahead,v=0\/jq nz (fm d.fields h.ab) rs v
 rt:∀v∈rs,v=0\/v∈all.map bp.loc\/v∈ahead
 cl:∀t∈all,∀v∈fm d.fields h.ab t.loc,v=0\/v∈all.map bp.loc\/v∈ahead
theorem nz_or (v:Int):v=0\/nz v=true:=by
 by_cases h:v=0
 ·exact Or.inl h
 exact Or.inr (by unfold nz;simpa using h)
theorem zyo {d:be} {h:bd} {ts:List bp} {rs:List Int} :DfsI d h ts rs [] rs:=
 ⟨List.nodup_nil,(fun t u=>by cases u),(fun t u=>by cases u),fun v A=>(nz_or v).imp id fun D=>jq.root A D,fun v A=>Or.inr (Or.inr A),fun t u=>by cases u⟩
theorem DfsI.skip {d:be} {h:bd} {ts:List bp} {rs:List Int} {all:List bp} {A:List Int} {v:Int} (x:DfsI d h ts rs all (A++ [v])) (G:v=0\/v∈all.map bp.loc):DfsI d h ts rs all A:=by
 have D:∀u:Int,u=0\/u∈all.map bp.loc\/u∈A++ [v]->u=0\/u∈all.map bp.loc\/u∈A:=by
  rintro u (h | h | h)
  ·exact Or.inl h
  ·exact Or.inr (Or.inl h)
  rcases List.mem_append.1 h with h | h
  ·exact Or.inr (Or.inr h)
  rw [List.mem_singleton]at h;subst h;exact G.imp id Or.inl
 exact ⟨x.nd,x.inT,x.snd,fun u E=>x.ah u (List.mem_append_left _ E),fun u E=>D u (x.rt u E),fun t F u E=>D u (x.cl t F u E)⟩
theorem DfsI.take {d:be} {h:bd} {ts:List bp} {rs:List Int} {all:List bp} {D:List Int} {t:bp} (x:DfsI d h ts rs all (D++ [t.loc])) (O:t∈ts) (h0:t.loc≠0) (N:t.loc∉all.map bp.loc):DfsI d h ts rs (all++ [t]) (D++fm d.fields h.ab t.loc):=by
 have J:jq nz (fm d.fields h.ab) rs t.loc:=(x.ah t.loc (List.mem_append_right _ (List.mem_singleton.2 rfl))).resolve_left h0;have I:∀u:Int,u∈(all++ [t]).map bp.loc↔u∈all.map bp.loc\/u=t.loc:=by intro u;rw [List.map_append,List.mem_append];simp
 have E:∀u:Int,u=0\/u∈all.map bp.loc\/u∈D++ [t.loc]->u=0\/u∈(all++ [t]).map bp.loc\/u∈D++fm d.fields h.ab t.loc:=by
  rintro u (h | h | h)
  ·exact Or.inl h
  ·exact Or.inr (Or.inl ((I u).2 (Or.inl h)))
  rcases List.mem_append.1 h with h | h
  ·exact Or.inr (Or.inr (List.mem_append_left _ h))
  exact Or.inr (Or.inl ((I u).2 (Or.inr (List.mem_singleton.1 h))))
 refine ⟨?_,?_,?_,?_,fun u A=>E u (x.rt u A),?_⟩
 ·rw [List.map_append];refine List.nodup_append.2 ⟨x.nd,by simp,fun a L b G e=>?_⟩;rw [List.map_cons,List.map_nil,List.mem_singleton]at G;subst G;subst e;exact N L
 ·intro u A;rcases List.mem_append.1 A with A | A
  ·exact x.inT u A
  rw [List.mem_singleton]at A;rw [A];exact O
 ·intro u A;rcases List.mem_append.1 A with A | A
  ·exact x.snd u A
  rw [List.mem_singleton]at A;rw [A];exact J
 ·intro u A;rcases List.mem_append.1 A with A | A
  ·exact x.ah u (List.mem_append_left _ A)
  exact (nz_or u).imp id fun V=>jq.step J A V
 intro u A v F;rcases List.mem_append.1 A with A | A
 ·exact E v (x.cl u A v F)
 rw [List.mem_singleton]at A;rw [A]at F;exact Or.inr (Or.inr (List.mem_append_right _ F))
theorem DfsI.all {d:be} {h:bd} {ts:List bp} {rs:List Int} {all:List bp} (x:DfsI d h ts rs all []) (v:Int):v∈all.map bp.loc↔jq nz (fm d.fields h.ab) rs v:=by
 have u:∀ {v:Int},nz v=true->v≠0:=fun {v} h e=>by subst e;cases h
 constructor
 ·intro D;obtain ⟨t,A,rfl⟩:=List.mem_map.1 D;exact x.snd t A
 intro D;apply jq.ind D
 · intro _ h1 h2
   rcases x.rt _ h1 with q | q | q
   ·exact absurd q (u h2)
   ·exact q
   cases q
 intro _ _ _ h1 h2 ih
 obtain ⟨t,A,rfl⟩:=List.mem_map.1 ih;rcases x.cl t A _ h1 with q | q | q
 ·exact absurd q (u h2)
 ·exact q
 cases q
theorem DfsI.few {d:be} {h:bd} {ts:List bp} {rs:List Int} {all:List bp} {u:List Int} (x:DfsI d h ts rs all u):all.length<=ts.length:=by
 have:=zvh (all.map bp.loc) (ts.map bp.loc) x.nd fun a A=>by obtain ⟨t,D,rfl⟩:=List.mem_map.1 A;exact List.mem_map.2 ⟨t,x.inT t D,rfl⟩
 rwa [List.length_map,List.length_map]at this
theorem zyp {w:World} {B e g cap:Nat} {xs:List Value} {x:Value} (h:w.ownsRow B e 1 (.slice (some ⟨g,0,none⟩) (xs.length+1) cap) (xs.length+1) (xs++ [x])):w.ownsRow B e 1 (.slice (some ⟨g,0,none⟩) xs.length cap) xs.length xs:=by
 rcases h.2 with ⟨q,-⟩ | ⟨J,A,u,q,E,F,hc,G,I,D⟩
 ·cases q
 cases q;refine ⟨by rw [Nat.mul_one],Or.inr ⟨g,cap,u,rfl,E,F,by omega,G,I,?_⟩⟩;rw [Nat.mul_one]at D ⊢;have h1:(u.toList.take (xs.length+1)).take xs.length=(xs++ [x]).take xs.length:=by rw [D]
 rw [List.take_take,Nat.min_eq_left (by omega),List.take_left' rfl]at h1;exact h1
theorem ow.gd {b B T:Nat} {w:World} {J I V A F D E G:Value} {h:bd} {rs:List Int} {d:be} (o:ow b B w T J I V A F D E G h rs d) (h1:h.ab.length<=1000000) (L:h.ap.length<=1000000):Gd w.heap.size w T J I A F D E G h d:=
 have N:=bz o.blk;have O:∀k,k<B->k<w.heap.size:=fun k u=>by have:=o.le;have:=o.bT;omega
 ⟨N,nlq _,ba o.blk 0 rfl,ba o.blk 1 rfl,ba o.blk 2 rfl,ba o.blk 3 rfl,ba o.blk 4 rfl,ba o.blk 5 rfl,ba o.blk 6 rfl,ba o.blk 7 rfl,ba o.blk 8 rfl,ba o.blk 9 rfl,ba o.blk 10 rfl,ba o.blk 11 rfl,(zfb o.rW h1).monoI fun k u=>u.lt,(zfb o.rO L).monoI fun k u=>u.lt,o.lk.mono O⟩
theorem zyq (n:Int) (w:World):(Instr.makeMap 199 (some (.int .i64 n))).run Tryz.prog w=.ok (.map (some w.heap.size)) (w.alloc (.map #[] 0)):=by simp [Instr.makeMap,run_underlying Tryz.underlying199,asInt,asIntOf]
theorem zyr (w:World) (b B T:Nat) (nW nO nR kC kS kF kN kT:Value) (h:bd) (rs:List Int) (d:be) (o:ow b B w T nW nO nR kC kS kF kN kT h rs d) (ts:List bp) (rt:Right d h ts) (hr:∀v∈rs,cw ts v=true) (hw:∀x∈h.ab,(Lit.int .i64 x).wf=true) (hg:rs.length<=1000):
 Calls Tryz.prog 146 #[.pointer (some ⟨T,0,none⟩)] w fun r w'=>Below w.heap.size w w'/\∃X all,r=.returned (.map (some X))/\ja w' X all/\DfsI d h ts rs all []:=by
 have hf:=zyq;obtain ⟨iI,fo,ei,ej,ek⟩:=info_parts Tryz.infoInt;obtain ⟨aO,cO,ft⟩:=kh o.rO;subst ft;obtain ⟨aR,cR,fv⟩:=kh o.rR;subst fv;obtain ⟨aW,cW,fz⟩:=kh o.rW;subst fz;obtain ⟨aC,cC,aS,cS,aF,cF,aN,cN,aT,cT,rfl,rfl,rfl,rfl,rfl⟩:=o.lk.agg;have z:=rt.sized;have z1:=z.ae;have z2:=z.old;have z3:=z.len;have ea:h.ap.length<=1000000:=(zmb rt.err rt.both hw).2.2;have hs:h.ab.length<=5000:=by omega
 have hq:ts.length<h.ab.length:=by have:=zvm rt;rwa [List.length_map]at this
 obtain ⟨O,au⟩:∃O,O=w.alloc (.map #[] 0):=⟨_,rfl⟩;have co:Below w.heap.size w O:=au ▸ (br _ _).alloc (nlq _) _;have c0:O.heap.size=w.heap.size+1:=by rw [au];simp
 have ee:ja O w.heap.size []:=by have h1:=World.ownsMap_made (H:=Unit) w Tryz.prog 3 jt;rw [<-au]at h1;exact ⟨.map [],h1,zfi⟩
 have o1:=o.below co;have c8:=ag (zlm O _ _ rs (zfb o1.rR (by omega)) (by omega));have aw:=ba o.blk 12 (x:=.slice aR rs.length cR) rfl;have aL:=ba o1.blk 12 (x:=.slice aR rs.length cR) rfl;rw [au]at aL;have g3:=ag o1;have df:=ag ee;have em:=ag co;have er:=ag au;have cl:=ag c0;have aa:=ag rt;have HR:=ag hr;have c9:Hid (∀v,jq nz (fm d.fields h.ab) rs v->∃t∈ts,t.loc=v):=fun v hv=>zvl rt hr hv;have lT:T<w.heap.size:=bz o.blk;have a2:Hid (∀V,Below w.heap.size w V->ow b B V T (.slice aW h.ab.length cW) (.slice aO h.ap.length cO) (.slice aR rs.length cR) (.slice aC d.aj.length cC) (.slice aS d.ax.length cS) (.slice aF d.fields.length cF) (.slice aN d.names.length cN) (.slice aT d.aq.length cT) h rs d):=fun V hV=>o.below hV;have eq:Hid (DfsI d h ts rs [] rs):=zyo;clear o o1 co au c0 ee rt hr hw z z1 z2 z3;go_enter Tryz.func146,Tryz.ntmps146;go_wp2_with fail;rw [<-er.o];refine c8.o.mono ?_;rintro r w2 ⟨cr,aA,g7,rfl,ec⟩;have e7:=ag (df.o.below cr df.o.lt);have e5:=ag ec;have c6:Hid (Below O.heap.size O w2):=cr;clear cr ec c8;go_wp2_with fail;go_loopg [4] (ts.length*5001+rs.length) (fun gk v wr=>∃(all:List bp) (I:List Int),(ts.length - all.length)*5001+I.length<=gk/\gk<=ts.length*5001+rs.length/\Hid (ja wr (w.heap.size) all/\wr.ownsRow O.heap.size 3 1 v I.length (bv I)/\DfsI d h ts rs all I/\Below w.heap.size w wr/\O.heap.size<=wr.heap.size))
 case atStart=>exact ⟨[],rs,by simp,nlq _,e7.o,e5.o,eq.o,em.o.trans (c6.o.mono (by have:=cl.o;omega)),c6.o.size⟩
 case round=>
  obtain ⟨all,I,fl,hd,HI⟩:=hrel;obtain ⟨bx,J,a6,bu,ho⟩:=HI.o;have c0:=cl.o;rcases List.eq_nil_or_concat I with d6 | ⟨A,v,du⟩
  ·subst d6;obtain ⟨a4,c4,rfl⟩:=kh J;have G:Hid (Below w.heap.size w wr/\ja wr (w.heap.size) all/\DfsI d h ts rs all []):=⟨bu,bx,a6⟩;clear bx J a6 bu HI;go_wp2_with fail;go_ret;exact ⟨G.o.1,_,all,rfl,G.o.2.1,G.o.2.2⟩
  rw [List.concat_eq_append]at du;subst du;have b6:(A++ [v]).length=A.length+1:=by simp
  rw [b6,zhs]at J;rw [b6]at fl;obtain ⟨g4,c4,f7,hb⟩:∃g c,u4=.slice (some ⟨g,0,none⟩) (A.length+1) c/\A.length+1<=c:=by
   rcases J.2 with ⟨e,h0⟩ | ⟨g,cap,g8,e,-,-,hc,-⟩
   ·omega
   exact ⟨g,cap,e,hc⟩
  subst f7;have xv:=J.cellAt A.length (by omega);have xe:(bv A++ [Value.int .i64 v])[A.length]? =some (.int .i64 v):=by rw [List.getElem?_append_right (by rw [zir];exact nlq _),zir,Nat.sub_self];rfl
  rw [xe]at xv;have lg:=(J.lt g4 rfl).2;have ef:wr.ownsRow O.heap.size 3 1 (.slice (some ⟨g4,0,none⟩) A.length c4) A.length (bv A):=by have:=zyp (xs:=bv A) (x:=.int .i64 v) (by rw [zir];exact J);rw [zir]at this;exact this
  have r6:∀V,(Instr.slice 22 (.slice (some ⟨g4,0,none⟩) (A.length+1) c4) none (some (.int .i64 (A.length:Int))) none).run Tryz.prog V=.ok (.slice (some ⟨g4,0,none⟩) A.length c4) V:=fun V=>by rw [run_slice_h V 22 _ _ _ Tryz.underlying22 .i64 (A.length:Int) (by omega) (by omega)];show Result.ok (sliced (some ⟨g4,0,none⟩) 0 ((A.length:Int)).toNat c4 1) V=_;unfold sliced;rw [if_neg (by omega),Option.map_some,zg1,Nat.zero_mul,Nat.add_zero,Nat.sub_zero,Int.toNat_natCast,Nat.sub_zero]
  have eh:v=0\/(1<=v/\v<=5000):=by
   rcases a6.ah v (List.mem_append_right _ (List.mem_singleton.2 rfl))with q | q
   ·exact Or.inl q
   obtain ⟨t,ht,rfl⟩:=c9.o v q;have:=zsg aa.o.sized aa.o.both t ht;exact Or.inr ⟨by omega,by omega⟩
  have b5:keyOf Tryz.prog 3 (.int .i64 v)=some (jc v):=keyOf_int_mk Tryz.underlying3 (WalkArith.wf_i64 (by omega));have dg:=ag bx;obtain ⟨D,cc,hD⟩:=bx;have el:Hid (D.atKey (jc v) (jy ⟨0,0,0,0⟩)=jy (nj all v)):=by
   show _=_;unfold nj;cases hp:km all v with
   | none=>rw [hD.no v _ hp];rfl
   | some t=>rw [hD.at_ v t _ hp];rfl
  have et:Hid (Maps.has D (jc v)=(km all v).isSome):=hD.has v;have eu:=ag b5;have bn:=ag a6;have c7:=ag bu;have e9:=ag ef;have g5:=ag eh;have wl:IntKind.i64.wrap ((A.length:Int)+1 - 1)=(A.length:Int):=by rw [IntKind.wrap_i64];omega
  have bg:(km all v).isSome=(all.map bp.loc).contains v:=zn0 all v;clear a6 bu ef J xe hD b5 eh HI;go_wp2_with (at_lookup;refine wpList_lookup_own_ok _ rfl _ _ 199 rfl 3 101 law3 Tryz.underlying199 _ (zeroTh _) (jy ⟨0,0,0,0⟩) [] rfl (w.heap.size) all.length D rfl cc _ _ rfl eu.o ?_);intro vx ps c1;rw [el.o]at c1;have gb:=zff c1;subst gb;rw [et.o];unfold mx;clear c1 cc;have e4:=ag bg;have ch:Hid (∀E:bp,ja (wr.alloc (.cells #[.int .i64 E.loc,.int .i64 E.tag,.int .i64 E.len,.int .i64 E.hash] 101)) (w.heap.size) all/\(wr.alloc (.cells #[.int .i64 E.loc,.int .i64 E.tag,.int .i64 E.len,.int .i64 E.hash] 101)).ownsRow O.heap.size 3 1 (.slice (some ⟨g4,0,none⟩) A.length c4) A.length (bv A)/\Below w.heap.size w (wr.alloc (.cells #[.int .i64 E.loc,.int .i64 E.tag,.int .i64 E.len,.int .i64 E.hash] 101))):=fun E=>by have cs:Below wr.heap.size wr (wr.alloc (.cells #[.int .i64 E.loc,.int .i64 E.tag,.int .i64 E.len,.int .i64 E.hash] 101)):=(br _ _).alloc (nlq _) _;exact ⟨dg.o.below cs dg.o.lt,kg e9.o cs,c7.o.trans (cs.mono c7.o.size)⟩
  cases hk:(km all v).isSome with
  | true=>
    have ca:v∈all.map bp.loc:=List.contains_iff_mem.1 (e4.o.symm.trans hk);have ar:=ag (bn.o.skip (Or.inr ca));generalize nj all v=E at*;have G:=ag (ch.o E);have bs:=ag (a2.o _ G.o.2.2);clear hk ca bg;go_wp2_with fail
    go_roundg ((ts.length - all.length)*5001+A.length)
    case measure=>omega
    case rel=>exact ⟨all,A,nlq _,by omega,G.o.1,G.o.2.1,ar.o,G.o.2.2,by simp;omega⟩
  | false=>
    by_cases bk:v=0
    ·have ar:=ag (bn.o.skip (Or.inl bk));have f6:(v==0)=true:=by simpa using bk
     generalize nj all v=E at*;have G:=ag (ch.o E);have bs:=ag (a2.o _ G.o.2.2);clear hk bg;go_wp2_with fail
     go_roundg ((ts.length - all.length)*5001+A.length)
     case measure=>omega
     case rel=>exact ⟨all,A,nlq _,by omega,G.o.1,G.o.2.1,ar.o,G.o.2.2,by simp;omega⟩
    have f6:(v==0)=false:=by simpa using bk
    have eb:v∉all.map bp.loc:=fun hm=>by rw [bg,List.contains_iff_mem.2 hm]at hk;cases hk
    obtain ⟨x,hx,gg⟩:∃t∈ts,t.loc=v:=c9.o v ((bn.o.ah v (List.mem_append_right _ (List.mem_singleton.2 rfl))).resolve_left bk);subst gg;have ar:=ag (bn.o.take hx bk eb);have d3:=ar.o.few;rw [List.length_append,List.length_singleton]at d3;have ff:=zsg aa.o.sized aa.o.both x hx;have c2:bj h.ab x.loc=x:=(th_at aa.o hx).symm;have fk:x.fin=x.loc+3+x.len:=rfl;have bc:FitT d x:=by
     by_cases hy:x.loc<=h.ae
     ·exact (zuv aa.o hx hy).fit
     exact (zu7 aa.o hx (by omega)).2.2.2.1
    have h2:=bc.lo;have b7:∀c∈refsOf d.fields x,0<=c/\c<h.ab.length:=fun c hc=>by obtain ⟨n,e,hn,-⟩:=zto hc;omega
    have he:(refsOf d.fields x).length<=5000:=lt3 (zhr d.fields x x.len.toNat) (by omega);have bq:Hid (fm d.fields h.ab x.loc=(refsOf d.fields x).map (wd h.ab)):=by show _=_;unfold fm;rw [c2]
    obtain ⟨n,hn⟩:∃n:Nat,x.loc=(n:Int):=⟨x.loc.toNat,by omega⟩;generalize nj all x.loc=E at*;have G:=ag (ch.o E);have bs:=ag (a2.o _ G.o.2.2);have cm:Hid (Calls Tryz.prog 141 #[.pointer (some ⟨T,0,none⟩),.int .i64 x.loc] (wr.alloc (.cells #[.int .i64 E.loc,.int .i64 E.tag,.int .i64 E.len,.int .i64 E.hash] 101)) fun r w'=>r=.returned (mx x)/\Below (wr.alloc (.cells #[.int .i64 E.loc,.int .i64 E.tag,.int .i64 E.len,.int .i64 E.hash] 101)).heap.size (wr.alloc (.cells #[.int .i64 E.loc,.int .i64 E.tag,.int .i64 E.len,.int .i64 E.hash] 101)) w'):=by have:=ze9 (wr.alloc (.cells #[.int .i64 E.loc,.int .i64 E.tag,.int .i64 E.len,.int .i64 E.hash] 101)) _ T _ _ _ _ _ _ _ _ d (bs.o.gd (by omega) ea) n (by omega);rw [<-hn,c2]at this;exact this
    have h3:1<=x.loc/\x.loc<=5000/\x.len<=5000:=by omega
    have ex:=ag b7;have es:=ag bc;have g2:=ag hn;unfold mx at cm;clear hk eb ff c2 bc b7 bg hn fk hx;go_wp2_with fail;refine cm.o.mono ?_;rintro r w7 ⟨rfl,bb⟩;have ak:Below w.heap.size w w7:=G.o.2.2.trans (bb.mono G.o.2.2.size);have hl:wr.heap.size+1<=w7.heap.size:=by have:=bb.size;simpa using this
    have cv:ja w7 (w.heap.size) all:=G.o.1.below bb G.o.1.lt;have eg:=kg G.o.2.1 bb;obtain ⟨W8,a8⟩:∃W8,W8=w7.alloc (.cells #[.int .i64 x.loc,.int .i64 x.tag,.int .i64 x.len,.int .i64 x.hash] 101):=⟨_,rfl⟩;have Y:Below w7.heap.size w7 W8:=a8 ▸ (br _ _).alloc (nlq _) _;have k8:W8.heap[w7.heap.size]? =some (.cells #[.int .i64 x.loc,.int .i64 x.tag,.int .i64 x.len,.int .i64 x.hash] 101 (0,0)):=a8 ▸ heap_alloc_new w7 _;have a9:Below w.heap.size w W8:=ak.trans (Y.mono ak.size);have g0:=Y.size;have f4:=cv.below Y cv.lt;have cx:=kg eg Y;obtain ⟨D2,ac,dl⟩:=f4;have bf:keyOf Tryz.prog 3 (.int .i64 x.loc)=some (jc x.loc):=keyOf_int_mk Tryz.underlying3 (WalkArith.wf_i64 (by omega));obtain ⟨F,bi,an,Z⟩:=World.ownsMap.update (w:=W8) ac law3 Tryz.underlying199 (by unfold maxLen;omega) bf (zfd x);unfold mx at bi;have ce:ja F (w.heap.size) (all++ [x]):=⟨_,by rw [List.length_append];exact an,zfj dl (ac.tidy law3) x⟩;have g9:w.heap.size<O.heap.size:=by omega
    have ai:Below w.heap.size w F:=a9.grown Z a9.size (fun j e=>by cases e;exact nlq _);have gt:=Z.size;have f5:O.heap.size<=F.heap.size:=by omega
    have bh:F.ownsRow O.heap.size 3 1 (.slice (some ⟨g4,0,none⟩) A.length c4) A.length (bv A):=cx.kept Z (Or.inr fun e=>by have:=(cx.lt _ e).1;omega);have a0:=(Z.block w7.heap.size (bz k8) (by intro e;injection e;omega)).trans k8;have a7:=a2.o F ai;have ci:=ag (zht F.drew _ T _ _ _ _ _ _ _ h d ((a7.below (br _ _).drew).gd (by omega) ea) x es.o ⟨by omega,by omega⟩ (by omega));have g6:=ag a8;have a1:=ag ce;have b3:=ag bh;have b2:=ag ai;have g1:=(bh.lt g4 rfl).2;have e0:=ba k8 0 (x:=.int .i64 x.loc) rfl;have e1:=ba k8 1 (x:=.int .i64 x.tag) rfl;have e2:=ba k8 2 (x:=.int .i64 x.len) rfl;have e3:=ba k8 3 (x:=.int .i64 x.hash) rfl;have l8:=bz k8;have f0:=ba a0 0 (x:=.int .i64 x.loc) rfl;have f1:=ba a0 1 (x:=.int .i64 x.tag) rfl;have f2:=ba a0 2 (x:=.int .i64 x.len) rfl;have f3:=ba a0 3 (x:=.int .i64 x.hash) rfl;have h4:=bz a0;have dk:=ai.size;have gx:=ak.size;rw [a8]at bi;generalize refsOf d.fields x=l at*;unfold mx at ci;clear bb ak cv eg Y k8 a9 cx ac dl bf an Z ce ai bh a0 a7 a8 cm G bs;go_wp2_with fail;refine wp_region_held_drew (S:=fun W'=>∀p:Addr,p.block<F.heap.size->W'.cell? p=F.cell? p) (by kernel_rfl) (fun p hp=>rfl) fun hH=>?_;refine ta 0 (.pointer (some ⟨T,0,none⟩)) rfl hH ?_;refine ta 1 (.pointer (some ⟨T,0,none⟩)) rfl hH ?_;refine ta 2 (.pointer (some ⟨T,0,none⟩)) rfl hH ?_;refine ta 3 (.agg #[.int .i64 x.loc,.int .i64 x.tag,.int .i64 x.len,.int .i64 x.hash]) rfl hH ?_;refine ta 6 (.int .i64 0) rfl hH ?_;refine wpAnyH_ready (rs:=[4]) (by kernel_rfl) (by simp) ?_;refine AllReadyH.cons rfl (fun K4 fe=>?_) AllReadyH.nil;go_simp;refine ci.o.mono ?_;rintro r w9 ⟨d0,vl,rfl,b1⟩;obtain ⟨cn,a3,rfl⟩:=kh b1;have W:Below F.heap.size F w9:=(br F.heap.size F).drew.trans d0;refine fe.o _ _ (fun p hp=>W.cell hp) fun hH=>?_;refine ta 5 (.int .i64 (l.length:Int)) rfl hH ?_;refine wpAnyH_done (by kernel_rfl) ?_ _;clear hH;try simp only [Act.put,p1q,p4q,p3q,p2q,p5q,p6q]
    have e8:Hid (ja w9 (w.heap.size) (all++ [x])):=a1.o.below W a1.o.lt;have fa:=ag (kg b3.o W);have e6:=ag b1;have en:Hid (Below w.heap.size w w9):=b2.o.trans (W.mono dk);have hh:=W.size;have ds:∀q,(Value.slice cn l.length a3).ownBlock=some q->F.heap.size<=q/\q<w9.heap.size:=fun q e=>b1.lt q e;have ez:=ag ds;clear d0 W b1 ci a1 b3 b2 e0 e1 e2 e3 f0 f1 f2 f3 ds bi;go_wp2_with fail;go_loopw [4,61] (fun v4 i wr=>∃(j:Nat),i=.int .i64 j/\j<=l.length/\Hid (wr.ownsRow O.heap.size 3 1 v4 (A++(fm d.fields h.ab x.loc).take j).length (bv (A++(fm d.fields h.ab x.loc).take j))/\ja wr (w.heap.size) (all++ [x])/\Below w.heap.size w wr/\wr.ownsRow F.drew.heap.size 3 1 (.slice cn l.length a3) l.length (bv l)/\(∀q,v4.ownBlock=some q->(Value.slice cn l.length a3).ownBlock≠some q)/\w9.heap.size<=wr.heap.size)) (fun _ i _=>l.length - (intOf i).toNat)
    case atStart=>exact ⟨0,rfl,n0q _,by rw [List.take_zero,List.append_nil];exact fa.o,e8.o,en.o,e6.o,fun q e e2=>by have e:g4=q:=ojq e;have:=(ez.o q e2).1;omega,nlq _⟩
    case round=>
     obtain ⟨j,rfl,hj,HJ⟩:=hrel;obtain ⟨ay,ad,L,av,az,c3⟩:=HJ.o;by_cases al:j<l.length
     ·obtain ⟨bl,ol,cp,gs,s1⟩:=(zfb av (by omega)).atI j al;subst cp;obtain ⟨ha,fj⟩:=ex.o l[j] (gm al);have d5:j<(fm d.fields h.ab x.loc).length:=by rw [bq.o,List.length_map];exact al
      have d8:(fm d.fields h.ab x.loc)[j]=wd h.ab l[j]:=by
       have e:(fm d.fields h.ab x.loc)[j]? =some (wd h.ab l[j]):=by rw [bq.o,List.getElem?_map,List.getElem?_eq_getElem al];rfl
       exact ojq ((List.getElem?_eq_getElem d5).symm.trans e)
      have cu:A++(fm d.fields h.ab x.loc).take (j+1)=(A++(fm d.fields h.ab x.loc).take j)++ [wd h.ab l[j]]:=by rw [List.take_succ_eq_append_getElem d5,d8,List.append_assoc]
      have d4:((fm d.fields h.ab x.loc).take j).length=j:=by rw [List.length_take];omega
      have dz:(A++(fm d.fields h.ab x.loc).take j).length<=100000000:=by rw [List.length_append,d4];omega
      obtain ⟨c,hc⟩:∃c:Nat,l[j]=(c:Int):=⟨l[j].toNat,by omega⟩;rw [hc]at s1 fj cu;have d2:c<h.ab.length:=by omega
      have af:=a2.o wr L;obtain ⟨bW,oW,fi,gl,s2⟩:=(zfb af.rW (by omega)).atI c d2;subst fi;rw [<-zen d2]at s2;generalize wd h.ab (c:Int)=vv at*;have dd:=ag cu;generalize hacc:A++(fm d.fields h.ab x.loc).take j=acc at*;obtain ⟨a5,c5,f8⟩:=kh ay;subst f8;have s0:=ba af.blk 0 (x:=.slice (some ⟨bW,oW,none⟩) h.ab.length cW) rfl;have h5:=bz af.blk;have cj:=ag ay;have da:=ag (And.intro ad (And.intro L (And.intro av (And.intro az c3))));have cf:Hid (acc.length+1<=maxLen/\(acc.length+1)*8<=140737488355328/\O.heap.size<=(wr.alloc (.cells #[.int .i64 vv] 3)).heap.size):=⟨by unfold maxLen;omega,by omega,by have:=L.size;simp;omega⟩;have hz:=L.size;clear d8 cu d4 dz hc af ay ad L av az c3 hacc HJ;go_wp2_with (at_builtin;refine wpList_append_lies _ rfl _ _ 22 rfl O.heap.size 3 iI (.int .i64 0) 1 8 Tryz.underlying22 fo ei ej ek rfl (by decide) (.slice a5 acc.length c5) acc.length (bv acc) rfl (cj.o.alloc _) ⟨wr.heap.size,0,none⟩ 1 1 [.int .i64 vv] rfl rfl (World.news_of_block (heap_alloc_new wr _)) (by intro u hu;simp at hu;subst hu;rfl) (by omega) cf.o.1 cf.o.2.1 cf.o.2.2 _ rfl ?_);intro gA cA bm ao N b4 ct;have b0:Below wr.heap.size wr (wr.alloc (.cells #[.int .i64 vv] 3)):=(br _ _).alloc (nlq _) _;have cy:∀q,(Value.slice a5 acc.length c5).ownBlock=some q->O.heap.size<=q/\q<wr.heap.size:=fun q e=>cj.o.lt q e;have fr:(wr.alloc (.cells #[.int .i64 vv] 3)).heap.size=wr.heap.size+1:=by simp
      have gv:=N.size;have G:Hid (bm.ownsRow O.heap.size 3 1 (.slice (some ⟨gA,0,none⟩) (acc.length+1) cA) (A++(fm d.fields h.ab x.loc).take (j+1)).length (bv (A++(fm d.fields h.ab x.loc).take (j+1)))/\ja bm (w.heap.size) (all++ [x])/\Below w.heap.size w bm/\bm.ownsRow F.drew.heap.size 3 1 (.slice (some ⟨bl,ol,none⟩) l.length a3) l.length (bv l)/\(∀q,(Value.slice (some ⟨gA,0,none⟩) (acc.length+1) cA).ownBlock=some q->(Value.slice (some ⟨bl,ol,none⟩) l.length a3).ownBlock≠some q)/\w9.heap.size<=bm.heap.size):=by
       obtain ⟨ad,L,av,az,c3⟩:=da.o;refine ⟨?_,(ad.below b0 ad.lt).kept N (fun e=>by have:=(cy _ e.symm).1;omega),(L.trans (b0.mono L.size)).grown N (by have:=L.size;omega) (fun q e=>by have:=(cy q e).1;omega),(kg av b0).kept N ?_,?_,by omega⟩
       ·rw [dd.o,List.length_append,zhs,cl.o];exact ao
       ·exact Or.inr fun e=>az bl e.symm rfl
       intro q e e2;have e:gA=q:=ojq e;have e2:bl=q:=ojq e2;rcases b4 with q1 | q1
       ·exact az gA q1 (by rw [e,<-e2];rfl)
       omega
      clear ao N b4 b0 cy fr s0 s1 s2 da cj ct;go_wp2_with fail;go_roundw
      case rel=>exact ⟨j+1,by go_num,by omega,G.o⟩
      case measure=>simp [intOf];omega
     have af:(fm d.fields h.ab x.loc).take j=fm d.fields h.ab x.loc:=List.take_of_length_le (by rw [bq.o,List.length_map];omega);rw [af]at ay;have cp:(A++fm d.fields h.ab x.loc).length=A.length+l.length:=by rw [List.length_append,bq.o,List.length_map]
     have d1:O.heap.size<=wr.heap.size:=by omega
     have G:=ag (And.intro ad (And.intro ay (And.intro L d1)));clear ay ad L av az HJ af;go_wp2_with fail
     go_roundg ((ts.length - (all.length+1))*5001+(A.length+l.length))
     case measure=>omega
     case rel=>exact ⟨all++ [x],A++fm d.fields h.ab x.loc,by rw [cp,List.length_append,List.length_singleton];exact nlq _,by omega,G.o.1,G.o.2.1,ar.o,G.o.2.2.1,G.o.2.2.2⟩
theorem zyt {d:be} {h:bd} {rs:List Int} (h0:de d h rs=0):∃ts,Right d h ts/\rs.length<=1000/\∀v∈rs,cw ts v=true:=by
 unfold de at h0;by_cases u:dm d h=0
 ·rw [if_pos u]at h0;obtain ⟨ts,A⟩:=ztn u;have e:tsOf d h=ts:=by unfold tsOf;rw [A.both];rfl
  rw [e]at h0;unfold iz at h0;by_cases h1:(rs.length:Int)<=1000
  ·rw [if_pos (decide_eq_true h1)]at h0;cases h2:rs.any fun x=>!cw ts x with
   | true=>rw [h2]at h0;simp at h0
   | false=>
     refine ⟨ts,A,by omega,fun v D=>?_⟩;have:=List.any_eq_false.1 h2 v D;cases hc:cw ts v with
     | true=>rfl
     | false=>rw [hc]at this;exact absurd rfl this
  rw [if_neg (by simpa using h1)]at h0;cases h0
 rw [if_neg u]at h0;exact absurd h0 u
theorem zyu (w:World) (b B T:Nat) (nW nO nR kC kS kF kN kT:Value) (h:bd) (rs:List Int) (d:be) (o:ow b B w T nW nO nR kC kS kF kN kT h rs d) (ts:List bp) (A:Right d h ts) (D:∀v∈rs,cw ts v=true) (hw:∀x∈h.ab,(Lit.int .i64 x).wf=true) (aa:rs.length<=1000):
 Calls Tryz.prog 92 #[.pointer (some ⟨T,0,none⟩)] w fun r w'=>r=.returned (.int .i64 (fc d h rs))/\Below w.heap.size w w':=by
 have F:=ag (zyr w b B T _ _ _ _ _ _ _ _ h rs d o ts A D hw aa);have Y:=ag (And.intro A D);clear o A D hw;go_enter Tryz.func92,Tryz.ntmps92;go_wp2_with fail;refine F.o.mono ?_;rintro r w1 ⟨I,X,all,rfl,N,u⟩;obtain ⟨A,D⟩:=Y.o;have z:=A.sized;have z1:=z.ae;have z2:=z.old;have z3:=z.len;have V:=zvm A;rw [List.length_map]at V;have Z:=u.few;have L:∀t∈all,0<=t.loc/\t.loc<=100000/\0<=t.len/\t.len<=5000:=fun t ht=>by have ac:=zsg A.sized A.both t (u.inT t ht);have ad:t.fin=t.loc+3+t.len:=rfl;omega
 have O:(all.map fun t:bp=>3+t.len).sum=fc d h rs:=by rw [<-zvo A D u.nd u.all,List.map_map];refine congrArg List.sum (List.map_congr_left fun t ht=>?_);exact congrArg (3+ ·) (congrArg bp.len (th_at A (u.inT t ht)))
 have G:=ag (zyn w1 X all N u.nd L (by omega));rw [O]at G;have E:=ag I;clear I N u A D z z1 z2 z3 V Z L O F;go_wp2_with fail;refine G.o.mono ?_;rintro r w2 ⟨rfl,J⟩;have W:Hid (Below w.heap.size w w2):=E.o.trans (J.mono E.o.size);clear J;go_wp2_with fail;go_ret;exact ⟨rfl,W.o⟩
theorem zyv (w:World) (B P0 P1 P2:Nat) (vW vO kC kS kF kN kT:Value) (h:bd) (d:be) (g:Hd B w vW vO kC kS kF kN kT h d) (vR:Value) (rs:List Int) (hs:SL 1 RI (· <B) w vR rs) (J:∀x∈rs,(Lit.int .i64 x).wf=true) (k0:w.heap[P0]? =some (.cells #[vW,.int .i64 h.ae,.int .i64 h.old,.int .i64 h.bg,.int .i64 h.bk,vO,.int .i64 h.next] 24 (0,0))) (k1:w.heap[P1]? =some (.cells #[kC,kS,kF,kN,kT] 36 (0,0))) (k2:w.heap[P2]? =some (.cells #[vR] 22 (0,0))):
 Calls Tryz.prog 91 #[.pointer (some ⟨P0,0,none⟩),.pointer (some ⟨P1,0,none⟩),.pointer (some ⟨P2,0,none⟩)] w fun r w'=>Below w.heap.size w w'/\((∃v,r=.returned v/\(∃n,v=.int .i64 n)/\de d h rs=0/\v=.int .i64 (fc d h rs))\/∃e p,r=.panicked [wrongV e p]/\e=de d h rs/\p=0/\de d h rs≠0):=by
 have O:=ag g;obtain ⟨aW,cW,aO,cO,aC,cC,aS,cS,aF,cF,aN,cN,aT,cT,rfl,rfl,rfl,rfl,rfl,rfl,rfl⟩:=g.agg;have ah:=ag hs;obtain ⟨aR,cR,rfl,-⟩:=hs;clear g;have l0:=bz k0;have l1:=bz k1;have l2:=bz k2;have A:=ba k2 0 (x:=.slice aR rs.length cR) rfl;obtain ⟨a0,a1,a2,a3,a4,a5,a6,az,al⟩:=jk k0;obtain ⟨b0,b1,b2,b3,b4,bl⟩:=cells5 k1;have N:=ag (zys w B _ _ _ _ _ _ _ h d O.o (.slice aR rs.length cR) rs ah.o J);have an:=ag J;clear k0 k1 k2 J;go_enter Tryz.func91,Tryz.ntmps91;go_wp2_with fail;refine N.o.mono ?_;rintro r w1 ⟨E,⟨h0,nW,dW,nO,dO,nR,dR,rfl,u,I,F⟩ | ⟨h0,rfl⟩⟩
 rotate_left
 ·exact ⟨rfl,E,Or.inr ⟨_,_,rfl,rfl,rfl,h0⟩⟩
 obtain ⟨ts,rt,Z,Y⟩:=zyt h0;have ak:=O.o.le;have aa:=E.size;obtain ⟨W2,W,D,ao,m0⟩:=kj w1 #[.slice nW h.ab.length dW,.int .i64 h.ae,.int .i64 h.old,.int .i64 h.bg,.int .i64 h.bk,.slice nO h.ap.length dO,.int .i64 h.next,.slice aC d.aj.length cC,.slice aS d.ax.length cS,.slice aF d.fields.length cF,.slice aN d.names.length cN,.slice aT d.aq.length cT,.slice nR rs.length dR] 131;have G:Below w.heap.size w W2:=E.trans (D.mono aa);have V:ow w.heap.size B W2 w1.heap.size (.slice nW h.ab.length dW) (.slice nO h.ap.length dO) (.slice nR rs.length dR) (.slice aC d.aj.length cC) (.slice aS d.ax.length cS) (.slice aF d.fields.length cF) (.slice aN d.names.length cN) (.slice aT d.aq.length cT) h rs d:=by refine ⟨m0,kg u.rW D,kg u.rO D,kg I D,(O.o.below (G.mono O.o.le)).lk,by omega,aa,?_⟩;unfold sepB;simp only [List.pairwise_cons,List.mem_cons,List.not_mem_nil,or_false,forall_eq_or_imp,forall_eq,List.Pairwise.nil,and_true,false_implies,implies_true];exact ⟨⟨fun k e A=>by have:=ojq e;have:=(u.rW.lt k A).2;omega,fun k e A=>by have:=ojq e;have:=(u.rO.lt k A).2;omega,fun k e A=>by have:=ojq e;have:=(I.lt k A).2;omega⟩,⟨fun k e=>u.ne k e,fun k e A=>(F k A).1 e⟩,fun k e A=>(F k A).2 e⟩
 have ad:=ag (zyu W2 w.heap.size B w1.heap.size _ _ _ _ _ _ _ _ h rs d V ts rt Y O.o.ww Z);have L:=ag G;have ai:=ag W;have af:=ag h0;clear E u I F W D G V m0 h0 rt Z Y N ak A;clear a0 a1 a2 a3 a4 a5 a6 al az;clear b0 b1 b2 b3 b4 bl;go_wp2_with fail;rw [<-ai.o];refine ad.o.mono ?_;rintro r w3 ⟨rfl,X⟩;have ac:Hid (Below w.heap.size w w3):=L.o.trans (X.mono L.o.size);clear X;go_wp2_with fail;go_ret;exact ⟨ac.o,Or.inl ⟨_,rfl,⟨_,rfl⟩,af.o,rfl⟩⟩
theorem callLive1 (args:Array Value) (w:World):(callFunc 91 args).run Tryz.prog w=.ok (.enter 91 args) w:=by kernel_rfl
theorem zyw (w:World) (B:Nat) (vW vO kC kS kF kN kT:Value) (h:bd) (d:be) (g:Hd B w vW vO kC kS kF kN kT h d) (vR:Value) (rs:List Int) (hs:SL 1 RI (· <B) w vR rs) (Y:∀x∈rs,(Lit.int .i64 x).wf=true):
 Calls Tryz.prog 40 #[.agg #[vW,.int .i64 h.ae,.int .i64 h.old,.int .i64 h.bg,.int .i64 h.bk,vO,.int .i64 h.next],.agg #[kC,kS,kF,kN,kT],vR] w fun r w'=>Below w.heap.size w w'/\((de d h rs=0/\r=.returned (.tuple #[.int .i64 (fc d h rs),.int .i64 0]))\/(de d h rs≠0/\r=.returned (.tuple #[.int .i64 0,.int .i64 (de d h rs)]))):=by
 have af:=np Tryz.prog;have HG:=ag g;have aa:=ag hs;obtain ⟨aW,cW,aO,cO,aC,cC,aS,cS,aF,cF,aN,cN,aT,cT,rfl,rfl,rfl,rfl,rfl,rfl,rfl⟩:=g.agg;obtain ⟨aR,cR,rfl,-⟩:=hs;clear g;obtain ⟨N,V,G,ac,k0,k1,k2⟩:=boxes3 w #[.slice aW h.ab.length cW,.int .i64 h.ae,.int .i64 h.old,.int .i64 h.bg,.int .i64 h.bk,.slice aO h.ap.length cO,.int .i64 h.next] #[.slice aC d.aj.length cC,.slice aS d.ax.length cS,.slice aF d.fields.length cF,.slice aN d.names.length cN,.slice aT d.aq.length cT] #[.slice aR rs.length cR] 24 36 22;have F:Hid (Calls Tryz.prog 65 #[.func (.func 91) #[] #[.pointer (some ⟨w.heap.size,0,none⟩),.pointer (some ⟨w.heap.size+1,0,none⟩),.pointer (some ⟨w.heap.size+1+1,0,none⟩)]] N fun r w'=>Below N.heap.size N w'/\N.heap.size+4<=w'.heap.size/\
  ((∃v,r=.returned (.tuple #[v,.agg #[.int .i64 0,.int .i64 0]])/\(∃n,v=.int .i64 n)/\de d h rs=0/\v=.int .i64 (fc d h rs))\/
   (∃e p,r=.returned (.tuple #[.int .i64 0,.agg #[.int .i64 e,.int .i64 p]])/\(e=de d h rs/\p=0/\de d h rs≠0)))):=by
  refine zjq N 91 _ (fun v _=>de d h rs=0/\v=.int .i64 (fc d h rs)) (fun e p=>e=de d h rs/\p=0/\de d h rs≠0) callLive1 ?_ ?_
  ·intro W hW hs;have hk:∀(b:Nat) (ob:Obj),N.heap[b]? =some ob->W.heap[b]? =some ob:=fun b ob e=>(hW.block b (bz e)).trans e;have X:=(G.trans (hW.mono G.size)).mono HG.o.le;exact zyv W B _ _ _ _ _ _ _ _ _ _ h d (HG.o.below X) _ rs (aa.o.keptI (Kp.below X)) Y (hk _ _ k0) (hk _ _ k1) (hk _ _ k2)
  intro v W W' _ _ o;exact o
 have E:=ag G;have O:=ag V;rw [O.o]at F;clear k0 k1 k2 G V ac Y;go_enter Tryz.func40,Tryz.ntmps40;go_wp2_with fail;refine F.o.mono ?_;rw [<-O.o];rintro r w1 ⟨u,ah,⟨v,rfl,-,h0,rfl⟩ | ⟨e,p,rfl,rfl,rfl,h0⟩⟩
 ·obtain ⟨W2,D,A,ad,L⟩:=kj w1 #[.int .i64 0,.int .i64 0] 84;have u0:=ba L 0 (x:=.int .i64 0) rfl;have lm:=bz L;have Z:Hid (Below w.heap.size w W2):=E.o.trans ((u.trans (A.mono u.size)).mono E.o.size);have J:=ag D;have I:=ag h0;clear u D A L F;go_wp2_with fail;rw [<-J.o];go_quiet (fail);go_wp2_with fail;exact bodyPost_ret (v:=.tuple #[.int .i64 (fc d h rs),.int .i64 0]) (by simp [results,Tryz.results40,go_sem]) rfl ⟨mp Z.o _,Or.inl ⟨I.o,rfl⟩⟩
 obtain ⟨W2,D,A,ad,L⟩:=kj w1 #[.int .i64 (de d h rs),.int .i64 0] 84;have u0:=ba L 0 (x:=.int .i64 (de d h rs)) rfl;have lm:=bz L;have Z:Hid (Below w.heap.size w W2):=E.o.trans ((u.trans (A.mono u.size)).mono E.o.size);have J:=ag D;have I:=ag h0;clear u D A L F h0;go_wp2_with fail;rw [<-J.o];go_quiet (fail);go_wp2_with fail;exact bodyPost_ret (v:=.tuple #[.int .i64 0,.int .i64 (de d h rs)]) (by simp [results,Tryz.results40,go_sem]) rfl ⟨mp Z.o _,Or.inr ⟨I.o,rfl⟩⟩
end Go.Proofs.YtjdnmblggdobgaaGreat
