import Derived.Test.YtjdnmblggdobgaaGreatJHzEHzF
set_option maxHeartbeats 8000000
set_option maxRecDepth 100000
namespace Go.Proofs.YtjdnmblggdobgaaGreat
open Go.Maps Go.RowKit Tryz List Or World
variable (args:Array Value) (n:Int) (w:World) (b B P0 P1 P2:Nat) (vW vO:Value) (T:Nat) (nW nO nR kC kS kF kN kT:Value) {d:ax} {h:ar} {ts:List bq} {rs:List Int}
structure sm (d:ax) (h:ar) (ts:List bq) (rs:List Int) (all:List bq) (ahead:List Int):Prop where
 nd:(all.map bq.loc).Nodup
 inT:∀t∈all,t∈ts
 snd:∀t∈all,ld nz (ev d.fields h.ab) rs t.loc
 ah:∀v∈ahead,v=0\/ld nz (ev d.fields h.ab) rs v
 rt:∀v∈rs,v=0\/v∈all.map bq.loc\/v∈ahead
 cl:∀t∈all,∀v∈ev d.fields h.ab t.loc,v=0\/v∈all.map bq.loc\/v∈ahead
theorem Eg (v:Int):v=0\/nz v=true:=by
 by_cases h:v=0
 ·exact inl h
 exact inr (by unfold nz;simpa using h)
theorem zye:sm d h ts rs [] rs:=
 ⟨nodup_nil,(fun t A=>by cases A),(fun t A=>by cases A),fun v D=>(Eg v).imp id fun E=>ld.root D E,fun v D=>inr (inr D),fun t A=>by cases A⟩
theorem sm.skip {all:List bq} {A:List Int} {v:Int} (x:sm d h ts rs all (A++ [v])) (G:v=0\/v∈all.map bq.loc):sm d h ts rs all A:=by
 have D:∀u:Int,u=0\/u∈all.map bq.loc\/u∈A++ [v]->u=0\/u∈all.map bq.loc\/u∈A:=by
  rintro u (h | h | h)
  ·exact inl h
  ·exact inr (inl h)
  rcases mem_append.1 h with h | h
  ·exact inr (inr h)
  rw [mem_singleton]at h;subst h;exact G.imp id inl
 exact ⟨x.nd,x.inT,x.snd,fun u E=>x.ah u (mem_append_left _ E),fun u E=>D u (x.rt u E),fun t F u E=>D u (x.cl t F u E)⟩
theorem sm.take {all:List bq} {D:List Int} {t:bq} (x:sm d h ts rs all (D++ [t.loc])) (O:t∈ts) (h0:t.loc≠0) (N:t.loc∉all.map bq.loc):sm d h ts rs (all++ [t]) (D++ev d.fields h.ab t.loc):=by
 have J:ld nz (ev d.fields h.ab) rs t.loc:=(x.ah t.loc (mem_append_right _ (mem_singleton.2 rfl))).resolve_left h0;have I:∀u:Int,u∈(all++ [t]).map bq.loc↔u∈all.map bq.loc\/u=t.loc:=by intro u;rw [map_append,mem_append];simp
 have E:∀u:Int,u=0\/u∈all.map bq.loc\/u∈D++ [t.loc]->u=0\/u∈(all++ [t]).map bq.loc\/u∈D++ev d.fields h.ab t.loc:=by
  rintro u (h | h | h)
  ·exact inl h
  ·exact inr (inl ((I u).2 (inl h)))
  rcases mem_append.1 h with h | h
  ·exact inr (inr (mem_append_left _ h))
  exact inr (inl ((I u).2 (inr (mem_singleton.1 h))))
 refine ⟨?_,?_,?_,?_,fun u A=>E u (x.rt u A),?_⟩
 ·rw [map_append];refine nodup_append.2 ⟨x.nd,by simp,fun a L b G e=>?_⟩;rw [map_cons,map_nil,mem_singleton]at G;subst G;subst e;exact N L
 ·intro u A;rcases mem_append.1 A with A | A
  ·exact x.inT u A
  rw [mem_singleton]at A;rw [A];exact O
 ·intro u A;rcases mem_append.1 A with A | A
  ·exact x.snd u A
  rw [mem_singleton]at A;rw [A];exact J
 ·intro u A;rcases mem_append.1 A with A | A
  ·exact x.ah u (mem_append_left _ A)
  exact (Eg u).imp id fun V=>ld.step J A V
 intro u A v F;rcases mem_append.1 A with A | A
 ·exact E v (x.cl u A v F)
 rw [mem_singleton]at A;rw [A]at F;exact inr (inr (mem_append_right _ F))
theorem sm.all {all:List bq} (x:sm d h ts rs all []) (v:Int):v∈all.map bq.loc↔ld nz (ev d.fields h.ab) rs v:=by
 have A:∀ {v:Int},nz v=true->v≠0:=fun {v} h e=>by subst e;cases h
 constructor
 ·intro E;obtain ⟨t,D,rfl⟩:=mem_map.1 E;exact x.snd t D
 intro E;apply ld.ind E
 · intro _ h1 h2
   rcases x.rt _ h1 with q | q | q
   ·exact absurd q (A h2)
   ·exact q
   cases q
 intro _ _ _ h1 h2 ih
 obtain ⟨t,D,rfl⟩:=mem_map.1 ih;rcases x.cl t D _ h1 with q | q | q
 ·exact absurd q (A h2)
 ·exact q
 cases q
theorem sm.few {all:List bq} {A:List Int} (x:sm d h ts rs all A):all.length<=ts.length:=by
 have:=zu7 (all.map bq.loc) (ts.map bq.loc) x.nd fun a D=>by obtain ⟨t,E,rfl⟩:=mem_map.1 D;exact mem_map.2 ⟨t,x.inT t E,rfl⟩
 rwa [length_map,length_map]at this
theorem zyf {w:World} {B e g cap:Nat} {xs:List Value} {x:Value} (h:w.ownsRow B e 1 (.slice (some ⟨g,0,none⟩) (xs.length+1) cap) (xs.length+1) (xs++ [x])):w.ownsRow B e 1 (.slice (some ⟨g,0,none⟩) xs.length cap) xs.length xs:=by
 rcases h.2 with ⟨q,-⟩ | ⟨L,D,A,q,F,G,hc,I,J,E⟩
 ·cases q
 cases q;refine ⟨by rw [Nat.mul_one],inr ⟨g,cap,A,rfl,F,G,by omega,I,J,?_⟩⟩;rw [Nat.mul_one]at E ⊢;have h1:(A.toList.take (xs.length+1)).take xs.length=(xs++ [x]).take xs.length:=by rw [E]
 rw [take_take,Nat.min_eq_left (by omega),take_left' rfl]at h1;exact h1
theorem qd.gd {b B T:Nat} {w:World} {L J W D G E F I:Value} {h:ar} {rs:List Int} {d:ax} (o:qd b B w T L J W D G E F I h rs d) (h1:h.ab.length<=1000000) (N:h.ap.length<=1000000):Gd w.heap.size w T L J D G E F I h d:=
 have O:=bz o.blk;have V:∀k,k<B->k<w.heap.size:=fun k A=>by have:=o.le;have:=o.bT;omega
 ⟨O,nlq _,bg o.blk 0 rfl,bg o.blk 1 rfl,bg o.blk 2 rfl,bg o.blk 3 rfl,bg o.blk 4 rfl,bg o.blk 5 rfl,bg o.blk 6 rfl,bg o.blk 7 rfl,bg o.blk 8 rfl,bg o.blk 9 rfl,bg o.blk 10 rfl,bg o.blk 11 rfl,(rg o.rW h1).monoI fun k A=>A.lt,(rg o.rO N).monoI fun k A=>A.lt,o.lk.mono V⟩
theorem zyg:(Instr.makeMap 199 (some (.i n))).run prog w=.ok (.map (some w.heap.size)) (w.alloc (.map #[] 0)):=by simp [Instr.makeMap,run_underlying underlying199,asInt,asIntOf]
theorem zyh (h:ar) (rs:List Int) (d:ax) (o:qd b B w T nW nO nR kC kS kF kN kT h rs d) (ts:List bq) (rt:Right d h ts) (hr:∀v∈rs,cq ts v=true) (hw:∀x∈h.ab,(Lit.int .i64 x).wf=true) (hb:rs.length<=1000):
 Calls prog 146 #[.p T] w fun r w'=>Bl w w'/\∃X all,r=.returned (.map (some X))/\kc w' X all/\sm d h ts rs all []:=by
 have ha:=zyg;obtain ⟨iI,fk,ej,ek,el⟩:=info_parts kh;obtain ⟨aO,cO,fo⟩:=ku o.rO;subst fo;obtain ⟨aR,cR,fr⟩:=ku o.rR;subst fr;obtain ⟨aW,cW,ft⟩:=ku o.rW;subst ft;obtain ⟨aC,cC,aS,cS,aF,cF,aN,cN,aT,cT,rfl,rfl,rfl,rfl,rfl⟩:=o.lk.agg;have z:=rt.sized;have z1:=z.ae;have z2:=z.old;have z3:=z.len;have eb:h.ap.length<=1000000:=(zl1 rt.err rt.both hw).2.2;have hh:h.ab.length<=5000:=by omega
 have hg:ts.length<h.ab.length:=by have:=zvc rt;rwa [length_map]at this
 obtain ⟨O,ay⟩:∃O,O=w.alloc (.map #[] 0):=⟨_,rfl⟩;have cp:Bl w O:=ay ▸ (br _ _).alloc (nlq _) _;have c1:O.heap.size=w.heap.size+1:=by rw [ay];simp
 have ef:kc O w.heap.size []:=by have h1:=ownsMap_made (H:=Unit) w prog 3 ll;rw [<-ay]at h1;exact ⟨.map [],h1,ze9⟩
 have o1:=o.below cp;have c9:=aj (zld O _ _ rs (rg o1.rR (by omega)) (by omega));have aw:=bg o.blk 12 (x:=.slice aR rs.length cR) rfl;have aL:=bg o1.blk 12 (x:=.slice aR rs.length cR) rfl;rw [ay]at aL;have gz:=aj o1;have dj:=aj ef;have en:=aj cp;have er:=aj ay;have cm:=aj c1;have aa:=aj rt;have HR:=aj hr;have dd:Hid (∀v,ld nz (ev d.fields h.ab) rs v->∃t∈ts,t.loc=v):=fun v hv=>zvb rt hr hv;have lT:T<w.heap.size:=bz o.blk;have a6:Hid (∀V,Bl w V->qd b B V T (.slice aW h.ab.length cW) (.slice aO h.ap.length cO) (.slice aR rs.length cR) (.slice aC d.am.length cC) (.slice aS d.bj.length cS) (.slice aF d.fields.length cF) (.slice aN d.names.length cN) (.slice aT d.ba.length cT) h rs d):=fun V hV=>o.below hV;have eq:Hid (sm d h ts rs [] rs):=zye;clear o o1 cp ay c1 ef rt hr hw z z1 z2 z3;go_enter func146,ntmps146;go_wp2_with fail;rw [<-er.o];refine c9.o.mono ?_;rintro r w2 ⟨cs,aA,g2,rfl,ee⟩;have e6:=aj (dj.o.below cs dj.o.lt);have e4:=aj ee;have c7:Hid (Bl O w2):=cs;clear cs ee c9;go_wp2_with fail;go_loopg [4] (ts.length*5001+rs.length) (fun gk v wr=>∃(all:List bq) (I:List Int),(ts.length - all.length)*5001+I.length<=gk/\gk<=ts.length*5001+rs.length/\Hid (kc wr (w.heap.size) all/\wr.ownsRow O.heap.size 3 1 v I.length (b8 I)/\sm d h ts rs all I/\Bl w wr/\O.heap.size<=wr.heap.size))
 case atStart=>exact ⟨[],rs,by simp,nlq _,e6.o,e4.o,eq.o,en.o.trans (c7.o.mono (by have:=cm.o;omega)),c7.o.size⟩
 case round=>
  obtain ⟨all,I,fj,g8,HI⟩:=hrel;obtain ⟨b1,J,a8,b0,hf⟩:=HI.o;have c1:=cm.o;rcases eq_nil_or_concat I with d8 | ⟨A,v,dz⟩
  ·subst d8;obtain ⟨a4,c4,rfl⟩:=ku J;have G:Hid (Bl w wr/\kc wr (w.heap.size) all/\sm d h ts rs all []):=⟨b0,b1,a8⟩;clear b1 J a8 b0 HI;go_wp2_with fail;go_ret;exact ⟨G.o.1,_,all,rfl,G.o.2.1,G.o.2.2⟩
  rw [concat_eq_append]at dz;subst dz;have b9:(A++ [v]).length=A.length+1:=by simp
  rw [b9,Eu]at J;rw [b9]at fj;obtain ⟨g4,c4,f5,g7⟩:∃g c,u4=.slice (some ⟨g,0,none⟩) (A.length+1) c/\A.length+1<=c:=by
   rcases J.2 with ⟨e,h0⟩ | ⟨g,cap,g3,e,-,-,hc,-⟩
   ·omega
   exact ⟨g,cap,e,hc⟩
  subst f5;have xv:=J.cellAt A.length (by omega);have xe:(b8 A++ [Value.int .i64 v])[A.length]? =some (.i v):=by rw [getElem?_append_right (by rw [vi];exact nlq _),vi,Nat.sub_self];rfl
  rw [xe]at xv;have lg:=(J.lt g4 rfl).2;have eg:wr.ownsRow O.heap.size 3 1 (.slice (some ⟨g4,0,none⟩) A.length c4) A.length (b8 A):=by have:=zyf (xs:=b8 A) (x:=.i v) (by rw [vi];exact J);rw [vi]at this;exact this
  have r6:∀V,(Instr.slice 22 (.slice (some ⟨g4,0,none⟩) (A.length+1) c4) none (some (.i (A.length:Int))) none).run prog V=.ok (.slice (some ⟨g4,0,none⟩) A.length c4) V:=fun V=>by rw [run_slice_h V 22 _ _ _ underlying22 .i64 (A.length:Int) (by omega) (by omega)];show Result.ok (sliced (some ⟨g4,0,none⟩) 0 ((A.length:Int)).toNat c4 1) V=_;unfold sliced;rw [if_neg (by omega),Option.map_some,zd,Nat.zero_mul,Nat.add_zero,Nat.sub_zero,Int.toNat_natCast,Nat.sub_zero]
  have ei:v=0\/(1<=v/\v<=5000):=by
   rcases a8.ah v (mem_append_right _ (mem_singleton.2 rfl))with q | q
   ·exact inl q
   obtain ⟨t,ht,rfl⟩:=dd.o v q;have:=B5 aa.o.sized aa.o.both t ht;exact inr ⟨by omega,by omega⟩
  have b7:keyOf prog 3 (.i v)=some (jt v):=keyOf_int_mk underlying3 (WalkArith.wf_i64 (by omega));have dk:=aj b1;obtain ⟨D,ce,hD⟩:=b1;have em:Hid (D.atKey (jt v) (mg ⟨0,0,0,0⟩)=mg (qp all v)):=by
   show _=_;unfold qp;cases hp:mw all v with
   | none=>rw [hD.no v _ hp];rfl
   | some t=>rw [hD.at_ v t _ hp];rfl
  have et:Hid (Maps.has D (jt v)=(mw all v).isSome):=hD.has v;have eu:=aj b7;have bs:=aj a8;have c8:=aj b0;have e8:=aj eg;have g0:=aj ei;have wl:IntKind.i64.wrap ((A.length:Int)+1 - 1)=(A.length:Int):=by rw [IntKind.wrap_i64];omega
  have bi:(mw all v).isSome=(all.map bq.loc).contains v:=Fx all v;clear a8 b0 eg J xe hD b7 ei HI;go_wp2_with (at_lookup;refine wpList_lookup_own_ok _ rfl _ _ 199 rfl 3 101 qq underlying199 _ (Ct _) (mg ⟨0,0,0,0⟩) [] rfl (w.heap.size) all.length D rfl ce _ _ rfl eu.o ?_);intro vx ps c2;rw [em.o]at c2;have f7:=ze6 c2;subst f7;rw [et.o];unfold nw;clear c2 ce;have ez:=aj bi;have ci:Hid (∀E:bq,kc (wr.alloc (.cells #[.i E.loc,.i E.tag,.i E.len,.i E.hash] 101)) (w.heap.size) all/\(wr.alloc (.cells #[.i E.loc,.i E.tag,.i E.len,.i E.hash] 101)).ownsRow O.heap.size 3 1 (.slice (some ⟨g4,0,none⟩) A.length c4) A.length (b8 A)/\Bl w (wr.alloc (.cells #[.i E.loc,.i E.tag,.i E.len,.i E.hash] 101))):=fun E=>by have ct:Bl wr (wr.alloc (.cells #[.i E.loc,.i E.tag,.i E.len,.i E.hash] 101)):=(br _ _).alloc (nlq _) _;exact ⟨dk.o.below ct dk.o.lt,km e8.o ct,c8.o.trans (ct.mono c8.o.size)⟩
  cases hk:(mw all v).isSome;rotate_left
  ·have cc:v∈all.map bq.loc:=contains_iff_mem.1 (ez.o.symm.trans hk);have av:=aj (bs.o.skip (inr cc));generalize qp all v=E at*;have G:=aj (ci.o E);have bx:=aj (a6.o _ G.o.2.2);clear hk cc bi;go_wp2_with fail
   go_roundg ((ts.length - all.length)*5001+A.length)
   case measure=>omega
   case rel=>exact ⟨all,A,nlq _,by omega,G.o.1,G.o.2.1,av.o,G.o.2.2,by simp;omega⟩
  by_cases bn:v=0
  ·have av:=aj (bs.o.skip (inl bn));have f4:(v==0)=true:=by simpa using bn
   generalize qp all v=E at*;have G:=aj (ci.o E);have bx:=aj (a6.o _ G.o.2.2);clear hk bi;go_wp2_with fail
   go_roundg ((ts.length - all.length)*5001+A.length)
   case measure=>omega
   case rel=>exact ⟨all,A,nlq _,by omega,G.o.1,G.o.2.1,av.o,G.o.2.2,by simp;omega⟩
  have f4:(v==0)=false:=by simpa using bn
  have ec:v∉all.map bq.loc:=fun hm=>by rw [bi,contains_iff_mem.2 hm]at hk;cases hk
  obtain ⟨x,hx,f8⟩:∃t∈ts,t.loc=v:=dd.o v ((bs.o.ah v (mem_append_right _ (mem_singleton.2 rfl))).resolve_left bn);subst f8;have av:=aj (bs.o.take hx bn ec);have d4:=av.o.few;rw [length_append,length_singleton]at d4;have fc:=B5 aa.o.sized aa.o.both x hx;have c3:bp h.ab x.loc=x:=(se aa.o hx).symm;have fi:x.fin=x.loc+3+x.len:=rfl;have bf:qf d x:=by
   by_cases hy:x.loc<=h.ae
   ·exact (ze aa.o hx hy).fit
   exact (Bw aa.o hx (by omega)).2.2.2.1
  have ho:=bf.lo;have ca:∀c∈refsOf d.fields x,0<=c/\c<h.ab.length:=fun c hc=>by obtain ⟨n,e,hn,-⟩:=Bb hc;omega
  have g9:(refsOf d.fields x).length<=5000:=lt3 (Et d.fields x x.len.toNat) (by omega);have bu:Hid (ev d.fields h.ab x.loc=(refsOf d.fields x).map (wd h.ab)):=by show _=_;unfold ev;rw [c3]
  obtain ⟨n,hn⟩:∃n:Nat,x.loc=(n:Int):=⟨x.loc.toNat,by omega⟩;generalize qp all x.loc=E at*;have G:=aj (ci.o E);have bx:=aj (a6.o _ G.o.2.2);have cn:Hid (Calls prog 141 #[.p T,.i x.loc] (wr.alloc (.cells #[.i E.loc,.i E.tag,.i E.len,.i E.hash] 101)) fun r w'=>r=.returned (nw x)/\Below (wr.alloc (.cells #[.i E.loc,.i E.tag,.i E.len,.i E.hash] 101)).heap.size (wr.alloc (.cells #[.i E.loc,.i E.tag,.i E.len,.i E.hash] 101)) w'):=by have:=ze0 (wr.alloc (.cells #[.i E.loc,.i E.tag,.i E.len,.i E.hash] 101)) _ T _ _ _ _ _ _ _ _ d (bx.o.gd (by omega) eb) n (by omega);rw [<-hn,c3]at this;exact this
  have hq:1<=x.loc/\x.loc<=5000/\x.len<=5000:=by omega
  have ex:=aj ca;have es:=aj bf;have gy:=aj hn;unfold nw at cn;clear hk ec fc c3 bf ca bi hn fi hx;go_wp2_with fail;refine cn.o.mono ?_;rintro r w7 ⟨rfl,bd⟩;have ak:Bl w w7:=G.o.2.2.trans (bd.mono G.o.2.2.size);have he:wr.heap.size+1<=w7.heap.size:=by have:=bd.size;simpa using this
  have cx:kc w7 (w.heap.size) all:=G.o.1.below bd G.o.1.lt;have eh:=km G.o.2.1 bd;obtain ⟨W8,bb⟩:∃W8,W8=w7.alloc (.cells #[.i x.loc,.i x.tag,.i x.len,.i x.hash] 101):=⟨_,rfl⟩;have Y:Bl w7 W8:=bb ▸ (br _ _).alloc (nlq _) _;have k8:W8.heap[w7.heap.size]? =some (.cells #[.i x.loc,.i x.tag,.i x.len,.i x.hash] 101 (0,0)):=bb ▸ heap_alloc_new w7 _;have bc:Bl w W8:=ak.trans (Y.mono ak.size);have gv:=Y.size;have fv:=cx.below Y cx.lt;have cy:=km eh Y;obtain ⟨D2,ac,ds⟩:=fv;have bh:keyOf prog 3 (.i x.loc)=some (jt x.loc):=keyOf_int_mk underlying3 (WalkArith.wf_i64 (by omega));obtain ⟨F,bm,an,Z⟩:=ownsMap.update (w:=W8) ac qq underlying199 (by unfold maxLen;omega) bh (ze4 x);unfold nw at bm;have cf:kc F (w.heap.size) (all++ [x]):=⟨_,by rw [length_append];exact an,zfa ds (ac.tidy qq) x⟩;have g5:w.heap.size<O.heap.size:=by omega
  have ai:Bl w F:=bc.grown Z bc.size (fun j e=>by cases e;exact nlq _);have gl:=Z.size;have fz:O.heap.size<=F.heap.size:=by omega
  have bk:F.ownsRow O.heap.size 3 1 (.slice (some ⟨g4,0,none⟩) A.length c4) A.length (b8 A):=cy.kept Z (inr fun e=>by have:=(cy.lt _ e).1;omega);have a2:=(Z.block w7.heap.size (bz k8) (by intro e;injection e;omega)).trans k8;have a9:=a6.o F ai;have cj:=aj (zhk F.drew _ T _ _ _ _ _ _ _ h d ((a9.below (br _ _).drew).gd (by omega) eb) x es.o ⟨by omega,by omega⟩ (by omega));have g1:=aj bb;have a3:=aj cf;have b5:=aj bk;have b4:=aj ai;have gx:=(bk.lt g4 rfl).2;have e0:=bg k8 0 (x:=.i x.loc) rfl;have e1:=bg k8 1 (x:=.i x.tag) rfl;have e2:=bg k8 2 (x:=.i x.len) rfl;have e3:=bg k8 3 (x:=.i x.hash) rfl;have l8:=bz k8;have f0:=bg a2 0 (x:=.i x.loc) rfl;have f1:=bg a2 1 (x:=.i x.tag) rfl;have f2:=bg a2 2 (x:=.i x.len) rfl;have f3:=bg a2 3 (x:=.i x.hash) rfl;have hs:=bz a2;have dl:=ai.size;have gt:=ak.size;rw [bb]at bm;generalize refsOf d.fields x=l at*;unfold nw at cj;clear bd ak cx eh Y k8 bc cy ac ds bh an Z cf ai bk a2 a9 bb cn G bx;go_wp2_with fail;refine wp_region_held_drew (S:=fun W'=>∀p:Addr,p.block<F.heap.size->W'.cell? p=F.cell? p) (by kernel_rfl) (fun p hp=>rfl) fun hH=>?_;refine ta 0 (.p T) rfl hH ?_;refine ta 1 (.p T) rfl hH ?_;refine ta 2 (.p T) rfl hH ?_;refine ta 3 (.agg #[.i x.loc,.i x.tag,.i x.len,.i x.hash]) rfl hH ?_;refine ta 6 (.i 0) rfl hH ?_;refine wpAnyH_ready (rs:=[4]) (by kernel_rfl) (by simp) ?_;refine AllReadyH.cons rfl (fun K4 fa=>?_) AllReadyH.nil;go_simp;refine cj.o.mono ?_;rintro r w9 ⟨d1,vl,rfl,b3⟩;obtain ⟨co,a7,rfl⟩:=ku b3;have W:Bl F w9:=(br F.heap.size F).drew.trans d1;refine fa.o _ _ (fun p hp=>W.cell hp) fun hH=>?_;refine ta 5 (.i (l.length:Int)) rfl hH ?_;refine wpAnyH_done (by kernel_rfl) ?_ _;clear hH;try simp only [Act.put,p1q,p4q,p3q,p2q,p5q,p6q]
  have e7:Hid (kc w9 (w.heap.size) (all++ [x])):=a3.o.below W a3.o.lt;have e9:=aj (km b5.o W);have e5:=aj b3;have eo:Hid (Bl w w9):=b4.o.trans (W.mono dl);have hd:=W.size;have du:∀q,(Value.slice co l.length a7).ownBlock=some q->F.heap.size<=q/\q<w9.heap.size:=fun q e=>b3.lt q e;have ey:=aj du;clear d1 W b3 cj a3 b5 b4 e0 e1 e2 e3 f0 f1 f2 f3 du bm;go_wp2_with fail;go_loopw [4,61] (fun v4 i wr=>∃(j:Nat),i=.i j/\j<=l.length/\Hid (wr.ownsRow O.heap.size 3 1 v4 (A++(ev d.fields h.ab x.loc).take j).length (b8 (A++(ev d.fields h.ab x.loc).take j))/\kc wr (w.heap.size) (all++ [x])/\Bl w wr/\wr.ownsRow F.drew.heap.size 3 1 (.slice co l.length a7) l.length (b8 l)/\(∀q,v4.ownBlock=some q->(Value.slice co l.length a7).ownBlock≠some q)/\w9.heap.size<=wr.heap.size)) (fun _ i _=>l.length - (intOf i).toNat)
  case atStart=>exact ⟨0,rfl,n0q _,by rw [take_zero,append_nil];exact e9.o,e7.o,eo.o,e5.o,fun q e e2=>by have e:g4=q:=ojq e;have:=(ey.o q e2).1;omega,nlq _⟩
  case round=>
   obtain ⟨j,rfl,hj,HJ⟩:=hrel;obtain ⟨a0,ad,L,az,a1,c6⟩:=HJ.o;by_cases al:j<l.length
   ·obtain ⟨bl,ol,cr,gg,s1⟩:=(rg az (by omega)).atI j al;subst cr;obtain ⟨g6,ff⟩:=ex.o l[j] (gm al);have d6:j<(ev d.fields h.ab x.loc).length:=by rw [bu.o,length_map];exact al
    have ea:(ev d.fields h.ab x.loc)[j]=wd h.ab l[j]:=by
     have e:(ev d.fields h.ab x.loc)[j]? =some (wd h.ab l[j]):=by rw [bu.o,getElem?_map,getElem?_eq_getElem al];rfl
     exact ojq ((getElem?_eq_getElem d6).symm.trans e)
    have cv:A++(ev d.fields h.ab x.loc).take (j+1)=(A++(ev d.fields h.ab x.loc).take j)++ [wd h.ab l[j]]:=by rw [take_succ_eq_append_getElem d6,ea,append_assoc]
    have d5:((ev d.fields h.ab x.loc).take j).length=j:=by rw [length_take];omega
    have d0:(A++(ev d.fields h.ab x.loc).take j).length<=100000000:=by rw [length_append,d5];omega
    obtain ⟨c,hc⟩:∃c:Nat,l[j]=(c:Int):=⟨l[j].toNat,by omega⟩;rw [hc]at s1 ff cv;have d3:c<h.ab.length:=by omega
    have af:=a6.o wr L;obtain ⟨bW,oW,fe,gb,s2⟩:=(rg af.rW (by omega)).atI c d3;subst fe;rw [<-qm d3]at s2;generalize wd h.ab (c:Int)=vv at*;have dg:=aj cv;generalize hacc:A++(ev d.fields h.ab x.loc).take j=acc at*;obtain ⟨a5,c5,f6⟩:=ku a0;subst f6;have s0:=bg af.blk 0 (x:=.slice (some ⟨bW,oW,none⟩) h.ab.length cW) rfl;have hz:=bz af.blk;have ck:=aj a0;have df:=aj (And.intro ad (And.intro L (And.intro az (And.intro a1 c6))));have ch:Hid (acc.length+1<=maxLen/\(acc.length+1)*8<=140737488355328/\O.heap.size<=(wr.alloc (.cells #[.i vv] 3)).heap.size):=⟨by unfold maxLen;omega,by omega,by have:=L.size;simp;omega⟩;have hl:=L.size;clear ea cv d5 d0 hc af a0 ad L az a1 c6 hacc HJ;go_wp2_with (at_builtin;refine wpList_append_lies _ rfl _ _ 22 rfl O.heap.size 3 iI (.i 0) 1 8 underlying22 fk ej ek el rfl (by decide) (.slice a5 acc.length c5) acc.length (b8 acc) rfl (ck.o.alloc _) ⟨wr.heap.size,0,none⟩ 1 1 [.i vv] rfl rfl (news_of_block (heap_alloc_new wr _)) (by intro u hu;simp at hu;subst hu;rfl) (by omega) ch.o.1 ch.o.2.1 ch.o.2.2 _ rfl ?_);intro gA cA bo au N b6 cu;have b2:Bl wr (wr.alloc (.cells #[.i vv] 3)):=(br _ _).alloc (nlq _) _;have c0:∀q,(Value.slice a5 acc.length c5).ownBlock=some q->O.heap.size<=q/\q<wr.heap.size:=fun q e=>ck.o.lt q e;have fl:(wr.alloc (.cells #[.i vv] 3)).heap.size=wr.heap.size+1:=by simp
    have gs:=N.size;have G:Hid (bo.ownsRow O.heap.size 3 1 (.slice (some ⟨gA,0,none⟩) (acc.length+1) cA) (A++(ev d.fields h.ab x.loc).take (j+1)).length (b8 (A++(ev d.fields h.ab x.loc).take (j+1)))/\kc bo (w.heap.size) (all++ [x])/\Bl w bo/\bo.ownsRow F.drew.heap.size 3 1 (.slice (some ⟨bl,ol,none⟩) l.length a7) l.length (b8 l)/\(∀q,(Value.slice (some ⟨gA,0,none⟩) (acc.length+1) cA).ownBlock=some q->(Value.slice (some ⟨bl,ol,none⟩) l.length a7).ownBlock≠some q)/\w9.heap.size<=bo.heap.size):=by
     obtain ⟨ad,L,az,a1,c6⟩:=df.o;refine ⟨?_,(ad.below b2 ad.lt).kept N (fun e=>by have:=(c0 _ e.symm).1;omega),(L.trans (b2.mono L.size)).grown N (by have:=L.size;omega) (fun q e=>by have:=(c0 q e).1;omega),(km az b2).kept N ?_,?_,by omega⟩
     ·rw [dg.o,length_append,Eu,cm.o];exact au
     ·exact inr fun e=>a1 bl e.symm rfl
     intro q e e2;have e:gA=q:=ojq e;have e2:bl=q:=ojq e2;rcases b6 with q1 | q1
     ·exact a1 gA q1 (by rw [e,<-e2];rfl)
     omega
    clear au N b6 b2 c0 fl s0 s1 s2 df ck cu;go_wp2_with fail;go_roundw
    case rel=>exact ⟨j+1,by go_num,by omega,G.o⟩
    case measure=>simp [intOf];omega
   have af:(ev d.fields h.ab x.loc).take j=ev d.fields h.ab x.loc:=take_of_length_le (by rw [bu.o,length_map];omega);rw [af]at a0;have cr:(A++ev d.fields h.ab x.loc).length=A.length+l.length:=by rw [length_append,bu.o,length_map]
   have d2:O.heap.size<=wr.heap.size:=by omega
   have G:=aj (And.intro ad (And.intro a0 (And.intro L d2)));clear a0 ad L az a1 HJ af;go_wp2_with fail
   go_roundg ((ts.length - (all.length+1))*5001+(A.length+l.length))
   case measure=>omega
   case rel=>exact ⟨all++ [x],A++ev d.fields h.ab x.loc,by rw [cr,length_append,length_singleton];exact nlq _,by omega,G.o.1,G.o.2.1,av.o,G.o.2.2.1,G.o.2.2.2⟩
theorem zyj (h0:dq d h rs=0):∃ts,Right d h ts/\rs.length<=1000/\∀v∈rs,cq ts v=true:=by
 unfold dq at h0;by_cases A:cg d h=0
 ·rw [if_pos A]at h0;obtain ⟨ts,D⟩:=ztd A;have e:sw d h=ts:=by unfold sw;rw [D.both];rfl
  rw [e]at h0;unfold j8 at h0;by_cases h1:(rs.length:Int)<=1000
  ·rw [if_pos (decide_eq_true h1)]at h0;cases h2:rs.any fun x=>!cq ts x
   ·refine ⟨ts,D,by omega,fun v E=>?_⟩;have:=any_eq_false.1 h2 v E;cases hc:cq ts v
    ·rw [hc]at this;exact absurd rfl this
    rfl
   rw [h2]at h0;simp at h0
  rw [if_neg (by simpa using h1)]at h0;cases h0
 rw [if_neg A]at h0;exact absurd h0 A
theorem zyk (h:ar) (rs:List Int) (d:ax) (o:qd b B w T nW nO nR kC kS kF kN kT h rs d) (ts:List bq) (D:Right d h ts) (E:∀v∈rs,cq ts v=true) (hw:∀x∈h.ab,(Lit.int .i64 x).wf=true) (ac:rs.length<=1000):
 Calls prog 92 #[.p T] w fun r w'=>r=.returned (.i (ic d h rs))/\Bl w w':=by
 have G:=aj (zyh w b B T _ _ _ _ _ _ _ _ h rs d o ts D E hw ac);have Z:=aj (And.intro D E);clear o D E hw;go_enter func92,ntmps92;go_wp2_with fail;refine G.o.mono ?_;rintro r w1 ⟨J,X,all,rfl,O,A⟩;obtain ⟨D,E⟩:=Z.o;have z:=D.sized;have z1:=z.ae;have z2:=z.old;have z3:=z.len;have W:=zvc D;rw [length_map]at W;have aa:=A.few;have N:∀t∈all,0<=t.loc/\t.loc<=100000/\0<=t.len/\t.len<=5000:=fun t ht=>by have ad:=B5 D.sized D.both t (A.inT t ht);have af:t.fin=t.loc+3+t.len:=rfl;omega
 have V:(all.map fun t:bq=>3+t.len).sum=ic d h rs:=by rw [<-zve D E A.nd A.all,map_map];refine congrArg List.sum (map_congr_left fun t ht=>?_);exact congrArg (3+ ·) (congrArg bq.len (se D (A.inT t ht)))
 have I:=aj (zyd w1 X all O A.nd N (by omega));rw [V]at I;have F:=aj J;clear J O A D E z z1 z2 z3 W aa N V G;go_wp2_with fail;refine I.o.mono ?_;rintro r w2 ⟨rfl,L⟩;have Y:Hid (Bl w w2):=F.o.trans (L.mono F.o.size);clear L;go_wp2_with fail;go_ret;exact ⟨rfl,Y.o⟩
theorem zyl (h:ar) (d:ax) (g:Hd B w vW vO kC kS kF kN kT h d) (vR:Value) (rs:List Int) (hs:SL 1 RI (· <B) w vR rs) (L:∀x∈rs,(Lit.int .i64 x).wf=true) (k0:w.heap[P0]? =some (.cells #[vW,.i h.ae,.i h.old,.i h.bk,.i h.be,vO,.i h.next] 24 (0,0))) (k1:w.heap[P1]? =some (.cells #[kC,kS,kF,kN,kT] 36 (0,0))) (k2:w.heap[P2]? =some (.cells #[vR] 22 (0,0))):
 Calls prog 91 #[.p P0,.p P1,.p P2] w fun r w'=>Bl w w'/\((∃v,r=.returned v/\(∃n,v=.i n)/\dq d h rs=0/\v=.i (ic d h rs))\/∃e p,r=.panicked [wrongV e p]/\e=dq d h rs/\p=0/\dq d h rs≠0):=by
 have V:=aj g;obtain ⟨aW,cW,aO,cO,aC,cC,aS,cS,aF,cF,aN,cN,aT,cT,rfl,rfl,rfl,rfl,rfl,rfl,rfl⟩:=g.agg;have ak:=aj hs;obtain ⟨aR,cR,rfl,-⟩:=hs;clear g;have l0:=bz k0;have l1:=bz k1;have l2:=bz k2;have D:=bg k2 0 (x:=.slice aR rs.length cR) rfl;have ac:=il k0;have bc:=cells5 k1;have O:=aj (zyi w B _ _ _ _ _ _ _ h d V.o (.slice aR rs.length cR) rs ak.o L);have au:=aj L;clear k0 k1 k2 L;go_enter func91,ntmps91;go_wp2_with fail;refine O.o.mono ?_;rintro r w1 ⟨F,⟨h0,nW,dW,nO,dO,nR,dR,rfl,A,J,G⟩ | ⟨h0,rfl⟩⟩
 rotate_left
 ·exact ⟨rfl,F,inr ⟨_,_,rfl,rfl,rfl,h0⟩⟩
 obtain ⟨ts,rt,aa,Z⟩:=zyj h0;have an:=V.o.le;have ad:=F.size;obtain ⟨W2,X,E,av,m0⟩:=jq w1 #[.slice nW h.ab.length dW,.i h.ae,.i h.old,.i h.bk,.i h.be,.slice nO h.ap.length dO,.i h.next,.slice aC d.am.length cC,.slice aS d.bj.length cS,.slice aF d.fields.length cF,.slice aN d.names.length cN,.slice aT d.ba.length cT,.slice nR rs.length dR] 131;have I:Bl w W2:=F.trans (E.mono ad);have W:qd w.heap.size B W2 w1.heap.size (.slice nW h.ab.length dW) (.slice nO h.ap.length dO) (.slice nR rs.length dR) (.slice aC d.am.length cC) (.slice aS d.bj.length cS) (.slice aF d.fields.length cF) (.slice aN d.names.length cN) (.slice aT d.ba.length cT) h rs d:=by refine ⟨m0,km A.rW E,km A.rO E,km J E,(V.o.below (I.mono V.o.le)).lk,by omega,ad,?_⟩;unfold sr;simp only [pairwise_cons,mem_cons,not_mem_nil,or_false,forall_eq_or_imp,forall_eq,Pairwise.nil,and_true,false_implies,implies_true];exact ⟨⟨fun k e D=>by have:=ojq e;have:=(A.rW.lt k D).2;omega,fun k e D=>by have:=ojq e;have:=(A.rO.lt k D).2;omega,fun k e D=>by have:=ojq e;have:=(J.lt k D).2;omega⟩,⟨fun k e=>A.ne k e,fun k e D=>(G k D).1 e⟩,fun k e D=>(G k D).2 e⟩
 have ah:=aj (zyk W2 w.heap.size B w1.heap.size _ _ _ _ _ _ _ _ h rs d W ts rt Z V.o.ww aa);have N:=aj I;have al:=aj X;have ai:=aj h0;clear F A J G X E I W m0 h0 rt aa Z O an D;clear ac;clear bc;go_wp2_with fail;rw [<-al.o];refine ah.o.mono ?_;rintro r w3 ⟨rfl,Y⟩;have af:Hid (Bl w w3):=N.o.trans (Y.mono N.o.size);clear Y;go_wp2_with fail;go_ret;exact ⟨af.o,inl ⟨_,rfl,⟨_,rfl⟩,ai.o,rfl⟩⟩
theorem Bh:(callFunc 91 args).run prog w=.ok (.enter 91 args) w:=by kernel_rfl
theorem zym (h:ar) (d:ax) (g:Hd B w vW vO kC kS kF kN kT h d) (vR:Value) (rs:List Int) (hs:SL 1 RI (· <B) w vR rs) (Z:∀x∈rs,(Lit.int .i64 x).wf=true):
 Calls prog 40 #[.agg #[vW,.i h.ae,.i h.old,.i h.bk,.i h.be,vO,.i h.next],.agg #[kC,kS,kF,kN,kT],vR] w fun r w'=>Bl w w'/\((dq d h rs=0/\r=.returned (.tuple #[.i (ic d h rs),.i 0]))\/(dq d h rs≠0/\r=.returned (.tuple #[.i 0,.i (dq d h rs)]))):=by
 have af:=ri prog;have HG:=aj g;have aa:=aj hs;obtain ⟨aW,cW,aO,cO,aC,cC,aS,cS,aF,cF,aN,cN,aT,cT,rfl,rfl,rfl,rfl,rfl,rfl,rfl⟩:=g.agg;obtain ⟨aR,cR,rfl,-⟩:=hs;clear g;obtain ⟨V,X,I,ac,k0,k1,k2⟩:=we w (H7 aW cW aO cO h) (K5 aC cC aS cS aF cF aN cN aT cT d) #[.slice aR rs.length cR] 24 36 22;have G:Hid (Calls prog 65 #[.func (.func 91) #[] #[.p w.heap.size,.p (w.heap.size+1),.p (w.heap.size+1+1)]] V fun r w'=>Bl V w'/\V.heap.size+4<=w'.heap.size/\
  ((∃v,r=.returned (.tuple #[v,.agg #[.i 0,.i 0]])/\(∃n,v=.i n)/\dq d h rs=0/\v=.i (ic d h rs))\/
   (∃e p,r=.returned (.tuple #[.i 0,.agg #[.i e,.i p]])/\(e=dq d h rs/\p=0/\dq d h rs≠0)))):=by
  refine zjh V 91 _ (fun v _=>dq d h rs=0/\v=.i (ic d h rs)) (fun e p=>e=dq d h rs/\p=0/\dq d h rs≠0) Bh ?_ ?_
  ·intro W hW hs;have hk:∀(b:Nat) (ob:Obj),V.heap[b]? =some ob->W.heap[b]? =some ob:=fun b ob e=>(hW.block b (bz e)).trans e;have Y:=(I.trans (hW.mono I.size)).mono HG.o.le;exact zyl W B _ _ _ _ _ _ _ _ _ _ h d (HG.o.below Y) _ rs (aa.o.keptI (Kp.below Y)) Z (hk _ _ k0) (hk _ _ k1) (hk _ _ k2)
  intro v W W' _ _ o;exact o
 have F:=aj I;have O:=aj X;rw [O.o]at G;clear k0 k1 k2 I X ac Z;go_enter func40,ntmps40;go_wp2_with fail;refine G.o.mono ?_;rw [<-O.o];rintro r w1 ⟨A,ah,⟨v,rfl,-,h0,rfl⟩ | ⟨e,p,rfl,rfl,rfl,h0⟩⟩
 ·obtain ⟨W2,E,D,ad,N⟩:=jq w1 #[.i 0,.i 0] 84;have u0:=bg N 0 (x:=.i 0) rfl;have lm:=bz N;have HF:Hid (Bl w W2):=F.o.trans ((A.trans (D.mono A.size)).mono F.o.size);have L:=aj E;have J:=aj h0;clear A E D N G;go_wp2_with fail;rw [<-L.o];go_quiet (fail);go_wp2_with fail;exact bodyPost_ret (v:=.tuple #[.i (ic d h rs),.i 0]) (by simp [results,results40,go_sem]) rfl ⟨pa HF.o _,inl ⟨J.o,rfl⟩⟩
 obtain ⟨W2,E,D,ad,N⟩:=jq w1 #[.i (dq d h rs),.i 0] 84;have u0:=bg N 0 (x:=.i (dq d h rs)) rfl;have lm:=bz N;have HF:Hid (Bl w W2):=F.o.trans ((A.trans (D.mono A.size)).mono F.o.size);have L:=aj E;have J:=aj h0;clear A E D N G h0;go_wp2_with fail;rw [<-L.o];go_quiet (fail);go_wp2_with fail;exact bodyPost_ret (v:=.tuple #[.i 0,.i (dq d h rs)]) (by simp [results,results40,go_sem]) rfl ⟨pa HF.o _,inr ⟨J.o,rfl⟩⟩
end Go.Proofs.YtjdnmblggdobgaaGreat
