import Derived.Test.YtjdnmblggdobgaaGreatJHzEHzF
set_option maxHeartbeats 8000000
set_option maxRecDepth 100000
namespace Go.Proofs.YtjdnmblggdobgaaGreat
open Go.RowKit Go.Maps Tryz
structure rg (d:bd) (h:ar) (ts:List bk) (rs:List Int) (all:List bk) (ahead:List Int):Prop where
 nd:(all.map bk.loc).Nodup
 inT:∀t∈all,t∈ts
 snd:∀t∈all,kh nz (ed d.fields h.ab) rs t.loc
 ah:∀v∈ahead,v=0\/kh nz (ed d.fields h.ab) rs v
 rt:∀v∈rs,v=0\/v∈all.map bk.loc\/v∈ahead
 cl:∀t∈all,∀v∈ed d.fields h.ab t.loc,v=0\/v∈all.map bk.loc\/v∈ahead
theorem Eb (v:Int):v=0\/nz v=true:=by
 by_cases h:v=0
 ·exact Or.inl h
 exact Or.inr (by unfold nz;simpa using h)
theorem zyo {d:bd} {h:ar} {ts:List bk} {rs:List Int} :rg d h ts rs [] rs:=
 ⟨List.nodup_nil,(fun t A=>by cases A),(fun t A=>by cases A),fun v D=>(Eb v).imp id fun E=>kh.root D E,fun v D=>Or.inr (Or.inr D),fun t A=>by cases A⟩
theorem rg.skip {d:bd} {h:ar} {ts:List bk} {rs:List Int} {all:List bk} {A:List Int} {v:Int} (x:rg d h ts rs all (A++ [v])) (G:v=0\/v∈all.map bk.loc):rg d h ts rs all A:=by
 have D:∀u:Int,u=0\/u∈all.map bk.loc\/u∈A++ [v]->u=0\/u∈all.map bk.loc\/u∈A:=by
  rintro u (h | h | h)
  ·exact Or.inl h
  ·exact Or.inr (Or.inl h)
  rcases List.mem_append.1 h with h | h
  ·exact Or.inr (Or.inr h)
  rw [List.mem_singleton]at h;subst h;exact G.imp id Or.inl
 exact ⟨x.nd,x.inT,x.snd,fun u E=>x.ah u (List.mem_append_left _ E),fun u E=>D u (x.rt u E),fun t F u E=>D u (x.cl t F u E)⟩
theorem rg.take {d:bd} {h:ar} {ts:List bk} {rs:List Int} {all:List bk} {D:List Int} {t:bk} (x:rg d h ts rs all (D++ [t.loc])) (O:t∈ts) (h0:t.loc≠0) (N:t.loc∉all.map bk.loc):rg d h ts rs (all++ [t]) (D++ed d.fields h.ab t.loc):=by
 have J:kh nz (ed d.fields h.ab) rs t.loc:=(x.ah t.loc (List.mem_append_right _ (List.mem_singleton.2 rfl))).resolve_left h0;have I:∀u:Int,u∈(all++ [t]).map bk.loc↔u∈all.map bk.loc\/u=t.loc:=by intro u;rw [List.map_append,List.mem_append];simp
 have E:∀u:Int,u=0\/u∈all.map bk.loc\/u∈D++ [t.loc]->u=0\/u∈(all++ [t]).map bk.loc\/u∈D++ed d.fields h.ab t.loc:=by
  rintro u (h | h | h)
  ·exact Or.inl h
  ·exact Or.inr (Or.inl ((I u).2 (Or.inl h)))
  rcases List.mem_append.1 h with h | h
  ·exact Or.inr (Or.inr (List.mem_append_left _ h))
  exact Or.inr (Or.inl ((I u).2 (Or.inr (List.mem_singleton.1 h))))
 refine ⟨?_,?_,?_,?_,fun u A=>E u (x.rt u A),?_⟩
 ·rw [List.map_append];refine List.nodup_append.2 ⟨x.nd,by simp,fun a L b G e=>?_⟩;rw [List.map_cons,List.map_nil,List.mem_singleton]at G;subst G;subst e;exact N L
 ·intro u A;rcases List.mem_append.1 A with A | A
  ·exact x.inT u A
  rw [List.mem_singleton]at A;rw [A];exact O
 ·intro u A;rcases List.mem_append.1 A with A | A
  ·exact x.snd u A
  rw [List.mem_singleton]at A;rw [A];exact J
 ·intro u A;rcases List.mem_append.1 A with A | A
  ·exact x.ah u (List.mem_append_left _ A)
  exact (Eb u).imp id fun V=>kh.step J A V
 intro u A v F;rcases List.mem_append.1 A with A | A
 ·exact E v (x.cl u A v F)
 rw [List.mem_singleton]at A;rw [A]at F;exact Or.inr (Or.inr (List.mem_append_right _ F))
theorem rg.all {d:bd} {h:ar} {ts:List bk} {rs:List Int} {all:List bk} (x:rg d h ts rs all []) (v:Int):v∈all.map bk.loc↔kh nz (ed d.fields h.ab) rs v:=by
 have A:∀ {v:Int},nz v=true->v≠0:=fun {v} h e=>by subst e;cases h
 constructor
 ·intro E;obtain ⟨t,D,rfl⟩:=List.mem_map.1 E;exact x.snd t D
 intro E;apply kh.ind E
 · intro _ h1 h2
   rcases x.rt _ h1 with q | q | q
   ·exact absurd q (A h2)
   ·exact q
   cases q
 intro _ _ _ h1 h2 ih
 obtain ⟨t,D,rfl⟩:=List.mem_map.1 ih;rcases x.cl t D _ h1 with q | q | q
 ·exact absurd q (A h2)
 ·exact q
 cases q
theorem rg.few {d:bd} {h:ar} {ts:List bk} {rs:List Int} {all:List bk} {A:List Int} (x:rg d h ts rs all A):all.length<=ts.length:=by
 have:=zvh (all.map bk.loc) (ts.map bk.loc) x.nd fun a D=>by obtain ⟨t,E,rfl⟩:=List.mem_map.1 D;exact List.mem_map.2 ⟨t,x.inT t E,rfl⟩
 rwa [List.length_map,List.length_map]at this
theorem zyp {w:World} {B e g cap:Nat} {xs:List Value} {x:Value} (h:w.ownsRow B e 1 (.slice (some ⟨g,0,none⟩) (xs.length+1) cap) (xs.length+1) (xs++ [x])):w.ownsRow B e 1 (.slice (some ⟨g,0,none⟩) xs.length cap) xs.length xs:=by
 rcases h.2 with ⟨q,-⟩ | ⟨L,D,A,q,F,G,hc,I,J,E⟩
 ·cases q
 cases q;refine ⟨by rw [Nat.mul_one],Or.inr ⟨g,cap,A,rfl,F,G,by omega,I,J,?_⟩⟩;rw [Nat.mul_one]at E ⊢;have h1:(A.toList.take (xs.length+1)).take xs.length=(xs++ [x]).take xs.length:=by rw [E]
 rw [List.take_take,Nat.min_eq_left (by omega),List.take_left' rfl]at h1;exact h1
theorem nc.gd {b B T:Nat} {w:World} {L J W D G E F I:Value} {h:ar} {rs:List Int} {d:bd} (o:nc b B w T L J W D G E F I h rs d) (h1:h.ab.length<=1000000) (N:h.am.length<=1000000):Gd w.heap.size w T L J D G E F I h d:=
 have O:=bz o.blk;have V:∀k,k<B->k<w.heap.size:=fun k A=>by have:=o.le;have:=o.bT;omega
 ⟨O,nlq _,bp o.blk 0 rfl,bp o.blk 1 rfl,bp o.blk 2 rfl,bp o.blk 3 rfl,bp o.blk 4 rfl,bp o.blk 5 rfl,bp o.blk 6 rfl,bp o.blk 7 rfl,bp o.blk 8 rfl,bp o.blk 9 rfl,bp o.blk 10 rfl,bp o.blk 11 rfl,(ru o.rW h1).monoI fun k A=>A.lt,(ru o.rO N).monoI fun k A=>A.lt,o.lk.mono V⟩
theorem zyq (n:Int) (w:World):(Instr.makeMap 199 (some (.i n))).run prog w=.ok (.map (some w.heap.size)) (w.alloc (.map #[] 0)):=by simp [Instr.makeMap,run_underlying underlying199,asInt,asIntOf]
theorem zyr (w:World) (b B T:Nat) (nW nO nR kC kS kF kN kT:Value) (h:ar) (rs:List Int) (d:bd) (o:nc b B w T nW nO nR kC kS kF kN kT h rs d) (ts:List bk) (rt:Right d h ts) (hr:∀v∈rs,b8 ts v=true) (hw:∀x∈h.ab,(Lit.int .i64 x).wf=true) (ha:rs.length<=1000):
 Calls prog 146 #[.p T] w fun r w'=>Bl w w'/\∃X all,r=.returned (.map (some X))/\jt w' X all/\rg d h ts rs all []:=by
 have g9:=zyq;obtain ⟨iI,fi,eg,eh,ei⟩:=info_parts jy;obtain ⟨aO,cO,fk⟩:=kq o.rO;subst fk;obtain ⟨aR,cR,fl⟩:=kq o.rR;subst fl;obtain ⟨aW,cW,fo⟩:=kq o.rW;subst fo;obtain ⟨aC,cC,aS,cS,aF,cF,aN,cN,aT,cT,rfl,rfl,rfl,rfl,rfl⟩:=o.lk.agg;have z:=rt.sized;have z1:=z.ae;have z2:=z.old;have z3:=z.len;have d6:h.am.length<=1000000:=(Fp rt.err rt.both hw).2.2;have hg:h.ab.length<=5000:=by omega
 have hf:ts.length<h.ab.length:=by have:=zvm rt;rwa [List.length_map]at this
 obtain ⟨N,ap⟩:∃N,N=w.alloc (.map #[] 0):=⟨_,rfl⟩;have cm:Bl w N:=ap ▸ (br _ _).alloc (nlq _) _;have cx:N.heap.size=w.heap.size+1:=by rw [ap];simp
 have eb:jt N w.heap.size []:=by have h1:=World.ownsMap_made (H:=Unit) w prog 3 ko;rw [<-ap]at h1;exact ⟨.map [],h1,zfi⟩
 have o1:=o.below cm;have c6:=ag (zlm N _ _ rs (ru o1.rR (by omega)) (by omega));have aw:=bp o.blk 12 (x:=.slice aR rs.length cR) rfl;have aL:=bp o1.blk 12 (x:=.slice aR rs.length cR) rfl;rw [ap]at aL;have gx:=ag o1;have dd:=ag eb;have ek:=ag cm;have en:=ag ap;have cj:=ag cx;have Z:=ag rt;have HR:=ag hr;have c7:Hid (∀v,kh nz (ed d.fields h.ab) rs v->∃t∈ts,t.loc=v):=fun v hv=>Fr rt hr hv;have lT:T<w.heap.size:=bz o.blk;have a1:Hid (∀V,Bl w V->nc b B V T (.slice aW h.ab.length cW) (.slice aO h.am.length cO) (.slice aR rs.length cR) (.slice aC d.aj.length cC) (.slice aS d.bg.length cS) (.slice aF d.fields.length cF) (.slice aN d.names.length cN) (.slice aT d.ax.length cT) h rs d):=fun V hV=>o.below hV;have em:Hid (rg d h ts rs [] rs):=zyo;clear o o1 cm ap cx eb rt hr hw z z1 z2 z3;go_enter func146,ntmps146;go_wp2_with fail;rw [<-en.o];refine c6.o.mono ?_;rintro r w2 ⟨co,aA,g1,rfl,ea⟩;have ez:=ag (dd.o.below co dd.o.lt);have ex:=ag ea;have c2:Hid (Bl N w2):=co;clear co ea c6;go_wp2_with fail;go_loopg [4] (ts.length*5001+rs.length) (fun gk v wr=>∃(all:List bk) (G:List Int),(ts.length - all.length)*5001+G.length<=gk/\gk<=ts.length*5001+rs.length/\Hid (jt wr (w.heap.size) all/\wr.ownsRow N.heap.size 3 1 v G.length (bw G)/\rg d h ts rs all G/\Bl w wr/\N.heap.size<=wr.heap.size))
 case atStart=>exact ⟨[],rs,by simp,nlq _,ez.o,ex.o,em.o,ek.o.trans (c2.o.mono (by have:=cj.o;omega)),c2.o.size⟩
 case round=>
  obtain ⟨all,G,ff,g7,HI⟩:=hrel;obtain ⟨bv,I,a3,bu,he⟩:=HI.o;have cx:=cj.o;rcases List.eq_nil_or_concat G with d4 | ⟨A,v,dl⟩
  ·subst d4;obtain ⟨a4,c4,rfl⟩:=kq I;have F:Hid (Bl w wr/\jt wr (w.heap.size) all/\rg d h ts rs all []):=⟨bu,bv,a3⟩;clear bv I a3 bu HI;go_wp2_with fail;go_ret;exact ⟨F.o.1,_,all,rfl,F.o.2.1,F.o.2.2⟩
  rw [List.concat_eq_append]at dl;subst dl;have b5:(A++ [v]).length=A.length+1:=by simp
  rw [b5,El]at I;rw [b5]at ff;obtain ⟨g4,c4,fz,g6⟩:∃g c,u4=.slice (some ⟨g,0,none⟩) (A.length+1) c/\A.length+1<=c:=by
   rcases I.2 with ⟨e,h0⟩ | ⟨g,cap,g2,e,-,-,hc,-⟩
   ·omega
   exact ⟨g,cap,e,hc⟩
  subst fz;have xv:=I.cellAt A.length (by omega);have xe:(bw A++ [Value.int .i64 v])[A.length]? =some (.i v):=by rw [List.getElem?_append_right (by rw [ui];exact nlq _),ui,Nat.sub_self];rfl
  rw [xe]at xv;have lg:=(I.lt g4 rfl).2;have ec:wr.ownsRow N.heap.size 3 1 (.slice (some ⟨g4,0,none⟩) A.length c4) A.length (bw A):=by have:=zyp (xs:=bw A) (x:=.i v) (by rw [ui];exact I);rw [ui]at this;exact this
  have r6:∀V,(Instr.slice 22 (.slice (some ⟨g4,0,none⟩) (A.length+1) c4) none (some (.i (A.length:Int))) none).run prog V=.ok (.slice (some ⟨g4,0,none⟩) A.length c4) V:=fun V=>by rw [run_slice_h V 22 _ _ _ underlying22 .i64 (A.length:Int) (by omega) (by omega)];show Result.ok (sliced (some ⟨g4,0,none⟩) 0 ((A.length:Int)).toNat c4 1) V=_;unfold sliced;rw [if_neg (by omega),Option.map_some,ua,Nat.zero_mul,Nat.add_zero,Nat.sub_zero,Int.toNat_natCast,Nat.sub_zero]
  have ef:v=0\/(1<=v/\v<=5000):=by
   rcases a3.ah v (List.mem_append_right _ (List.mem_singleton.2 rfl))with q | q
   ·exact Or.inl q
   obtain ⟨t,ht,rfl⟩:=c7.o v q;have:=wv Z.o.sized Z.o.both t ht;exact Or.inr ⟨by omega,by omega⟩
  have b4:keyOf prog 3 (.i v)=some (jm v):=keyOf_int_mk underlying3 (WalkArith.wf_i64 (by omega));have de:=ag bv;obtain ⟨D,ca,hD⟩:=bv;have ej:Hid (D.atKey (jm v) (li ⟨0,0,0,0⟩)=li (nu all v)):=by
   show _=_;unfold nu;cases hp:j9 all v with
   | none=>rw [hD.no v _ hp];rfl
   | some t=>rw [hD.at_ v t _ hp];rfl
  have eq:Hid (Maps.has D (jm v)=(j9 all v).isSome):=hD.has v;have er:=ag b4;have bn:=ag a3;have c3:=ag bu;have e5:=ag ec;have gy:=ag ef;have wl:IntKind.i64.wrap ((A.length:Int)+1 - 1)=(A.length:Int):=by rw [IntKind.wrap_i64];omega
  have be:(j9 all v).isSome=(all.map bk.loc).contains v:=Cd all v;clear a3 bu ec I xe hD b4 ef HI;go_wp2_with (at_lookup;refine wpList_lookup_own_ok _ rfl _ _ 199 rfl 3 101 qc underlying199 _ (Ca _) (li ⟨0,0,0,0⟩) [] rfl (w.heap.size) all.length D rfl ca _ _ rfl er.o ?_);intro vx ps cy;rw [ej.o]at cy;have f5:=zff cy;subst f5;rw [eq.o];unfold nb;clear cy ca;have eu:=ag be;have cf:Hid (∀tx:bk,jt (wr.alloc (.cells #[.i tx.loc,.i tx.tag,.i tx.len,.i tx.hash] 101)) (w.heap.size) all/\(wr.alloc (.cells #[.i tx.loc,.i tx.tag,.i tx.len,.i tx.hash] 101)).ownsRow N.heap.size 3 1 (.slice (some ⟨g4,0,none⟩) A.length c4) A.length (bw A)/\Bl w (wr.alloc (.cells #[.i tx.loc,.i tx.tag,.i tx.len,.i tx.hash] 101))):=fun tx=>by have cp:Bl wr (wr.alloc (.cells #[.i tx.loc,.i tx.tag,.i tx.len,.i tx.hash] 101)):=(br _ _).alloc (nlq _) _;exact ⟨de.o.below cp de.o.lt,mf e5.o cp,c3.o.trans (cp.mono c3.o.size)⟩
  cases hk:(j9 all v).isSome with
  | true=>
    have b7:v∈all.map bk.loc:=List.contains_iff_mem.1 (eu.o.symm.trans hk);have ao:=ag (bn.o.skip (Or.inr b7));generalize nu all v=tx at*;have F:=ag (cf.o tx);have bs:=ag (a1.o _ F.o.2.2);clear hk b7 be;go_wp2_with fail
    go_roundg ((ts.length - all.length)*5001+A.length)
    case measure=>omega
    case rel=>exact ⟨all,A,nlq _,by omega,F.o.1,F.o.2.1,ao.o,F.o.2.2,by simp;omega⟩
  | false=>
    by_cases bi:v=0
    ·have ao:=ag (bn.o.skip (Or.inl bi));have fv:(v==0)=true:=by simpa using bi
     generalize nu all v=tx at*;have F:=ag (cf.o tx);have bs:=ag (a1.o _ F.o.2.2);clear hk be;go_wp2_with fail
     go_roundg ((ts.length - all.length)*5001+A.length)
     case measure=>omega
     case rel=>exact ⟨all,A,nlq _,by omega,F.o.1,F.o.2.1,ao.o,F.o.2.2,by simp;omega⟩
    have fv:(v==0)=false:=by simpa using bi
    have d8:v∉all.map bk.loc:=fun hm=>by rw [be,List.contains_iff_mem.2 hm]at hk;cases hk
    obtain ⟨x,hx,f6⟩:∃t∈ts,t.loc=v:=c7.o v ((bn.o.ah v (List.mem_append_right _ (List.mem_singleton.2 rfl))).resolve_left bi);subst f6;have ao:=ag (bn.o.take hx bi d8);have d1:=ao.o.few;rw [List.length_append,List.length_singleton]at d1;have e8:=wv Z.o.sized Z.o.both x hx;have c0:bj h.ab x.loc=x:=(pg Z.o hx).symm;have fe:x.fin=x.loc+3+x.len:=rfl;have bb:pm d x:=by
     by_cases hy:x.loc<=h.ae
     ·exact (xw Z.o hx hy).fit
     exact (A0 Z.o hx (by omega)).2.2.2.1
    have hl:=bb.lo;have b6:∀c∈refsOf d.fields x,0<=c/\c<h.ab.length:=fun c hc=>by obtain ⟨n,e,hn,-⟩:=y9 hc;omega
    have g8:(refsOf d.fields x).length<=5000:=lt3 (Ek d.fields x x.len.toNat) (by omega);have bo:Hid (ed d.fields h.ab x.loc=(refsOf d.fields x).map (wd h.ab)):=by show _=_;unfold ed;rw [c0]
    obtain ⟨n,hn⟩:∃n:Nat,x.loc=(n:Int):=⟨x.loc.toNat,by omega⟩;generalize nu all x.loc=tx at*;have F:=ag (cf.o tx);have bs:=ag (a1.o _ F.o.2.2);have ck:Hid (Calls prog 141 #[.p T,.i x.loc] (wr.alloc (.cells #[.i tx.loc,.i tx.tag,.i tx.len,.i tx.hash] 101)) fun r w'=>r=.returned (nb x)/\Below (wr.alloc (.cells #[.i tx.loc,.i tx.tag,.i tx.len,.i tx.hash] 101)).heap.size (wr.alloc (.cells #[.i tx.loc,.i tx.tag,.i tx.len,.i tx.hash] 101)) w'):=by have:=ze9 (wr.alloc (.cells #[.i tx.loc,.i tx.tag,.i tx.len,.i tx.hash] 101)) _ T _ _ _ _ _ _ _ _ d (bs.o.gd (by omega) d6) n (by omega);rw [<-hn,c0]at this;exact this
    have ho:1<=x.loc/\x.loc<=5000/\x.len<=5000:=by omega
    have es:=ag b6;have eo:=ag bb;have gv:=ag hn;unfold nb at ck;clear hk d8 e8 c0 bb b6 be hn fe hx;go_wp2_with fail;refine ck.o.mono ?_;rintro r w7 ⟨rfl,a9⟩;have ai:Bl w w7:=F.o.2.2.trans (a9.mono F.o.2.2.size);have hd:wr.heap.size+1<=w7.heap.size:=by have:=a9.size;simpa using this
    have ct:jt w7 (w.heap.size) all:=F.o.1.below a9 F.o.1.lt;have ee:=mf F.o.2.1 a9;obtain ⟨W8,a7⟩:∃W8,W8=w7.alloc (.cells #[.i x.loc,.i x.tag,.i x.len,.i x.hash] 101):=⟨_,rfl⟩;have W:Bl w7 W8:=a7 ▸ (br _ _).alloc (nlq _) _;have k8:W8.heap[w7.heap.size]? =some (.cells #[.i x.loc,.i x.tag,.i x.len,.i x.hash] 101 (0,0)):=a7 ▸ heap_alloc_new w7 _;have a8:Bl w W8:=ai.trans (W.mono ai.size);have gs:=W.size;have fr:=ct.below W ct.lt;have cu:=mf ee W;obtain ⟨D2,aa,dg⟩:=fr;have bc:keyOf prog 3 (.i x.loc)=some (jm x.loc):=keyOf_int_mk underlying3 (WalkArith.wf_i64 (by omega));obtain ⟨E,bh,al,Y⟩:=World.ownsMap.update (w:=W8) aa qc underlying199 (by unfold maxLen;omega) bc (zfd x);unfold nb at bh;have cc:jt E (w.heap.size) (all++ [x]):=⟨_,by rw [List.length_append];exact al,zfj dg (aa.tidy qc) x⟩;have g3:w.heap.size<N.heap.size:=by omega
    have af:Bl w E:=a8.grown Y a8.size (fun j e=>by cases e;exact nlq _);have gb:=Y.size;have ft:N.heap.size<=E.heap.size:=by omega
    have bf:E.ownsRow N.heap.size 3 1 (.slice (some ⟨g4,0,none⟩) A.length c4) A.length (bw A):=cu.kept Y (Or.inr fun e=>by have:=(cu.lt _ e).1;omega);have az:=(Y.block w7.heap.size (bz k8) (by intro e;injection e;omega)).trans k8;have a6:=a1.o E af;have ch:=ag (zht E.drew _ T _ _ _ _ _ _ _ h d ((a6.below (br _ _).drew).gd (by omega) d6) x eo.o ⟨by omega,by omega⟩ (by omega));have g0:=ag a7;have a0:=ag cc;have b2:=ag bf;have b1:=ag af;have gt:=(bf.lt g4 rfl).2;have e0:=bp k8 0 (x:=.i x.loc) rfl;have e1:=bp k8 1 (x:=.i x.tag) rfl;have e2:=bp k8 2 (x:=.i x.len) rfl;have e3:=bp k8 3 (x:=.i x.hash) rfl;have l8:=bz k8;have f0:=bp az 0 (x:=.i x.loc) rfl;have f1:=bp az 1 (x:=.i x.tag) rfl;have f2:=bp az 2 (x:=.i x.len) rfl;have f3:=bp az 3 (x:=.i x.hash) rfl;have hq:=bz az;have df:=af.size;have gl:=ai.size;rw [a7]at bh;generalize refsOf d.fields x=l at*;unfold nb at ch;clear a9 ai ct ee W k8 a8 cu aa dg bc al Y cc af bf az a6 a7 ck F bs;go_wp2_with fail;refine wp_region_held_drew (S:=fun W'=>∀p:Addr,p.block<E.heap.size->W'.cell? p=E.cell? p) (by kernel_rfl) (fun p hp=>rfl) fun hH=>?_;refine ta 0 (.p T) rfl hH ?_;refine ta 1 (.p T) rfl hH ?_;refine ta 2 (.p T) rfl hH ?_;refine ta 3 (.agg #[.i x.loc,.i x.tag,.i x.len,.i x.hash]) rfl hH ?_;refine ta 6 (.i 0) rfl hH ?_;refine wpAnyH_ready (rs:=[4]) (by kernel_rfl) (by simp) ?_;refine AllReadyH.cons rfl (fun K4 e7=>?_) AllReadyH.nil;go_simp;refine ch.o.mono ?_;rintro r w9 ⟨du,vl,rfl,b0⟩;obtain ⟨cl,a2,rfl⟩:=kq b0;have O:Bl E w9:=(br E.heap.size E).drew.trans du;refine e7.o _ _ (fun p hp=>O.cell hp) fun hH=>?_;refine ta 5 (.i (l.length:Int)) rfl hH ?_;refine wpAnyH_done (by kernel_rfl) ?_ _;clear hH;try simp only [Act.put,p1q,p4q,p3q,p2q,p5q,p6q]
    have e4:Hid (jt w9 (w.heap.size) (all++ [x])):=a0.o.below O a0.o.lt;have e6:=ag (mf b2.o O);have ey:=ag b0;have el:Hid (Bl w w9):=b1.o.trans (O.mono df);have hb:=O.size;have dk:∀q,(Value.slice cl l.length a2).ownBlock=some q->E.heap.size<=q/\q<w9.heap.size:=fun q e=>b0.lt q e;have et:=ag dk;clear du O b0 ch a0 b2 b1 e0 e1 e2 e3 f0 f1 f2 f3 dk bh;go_wp2_with fail;go_loopw [4,61] (fun v4 i wr=>∃(j:Nat),i=.i j/\j<=l.length/\Hid (wr.ownsRow N.heap.size 3 1 v4 (A++(ed d.fields h.ab x.loc).take j).length (bw (A++(ed d.fields h.ab x.loc).take j))/\jt wr (w.heap.size) (all++ [x])/\Bl w wr/\wr.ownsRow E.drew.heap.size 3 1 (.slice cl l.length a2) l.length (bw l)/\(∀q,v4.ownBlock=some q->(Value.slice cl l.length a2).ownBlock≠some q)/\w9.heap.size<=wr.heap.size)) (fun _ i _=>l.length - (intOf i).toNat)
    case atStart=>exact ⟨0,rfl,n0q _,by rw [List.take_zero,List.append_nil];exact e6.o,e4.o,el.o,ey.o,fun q e e2=>by have e:g4=q:=ojq e;have:=(et.o q e2).1;omega,nlq _⟩
    case round=>
     obtain ⟨j,rfl,hj,HJ⟩:=hrel;obtain ⟨av,ac,J,au,ay,c1⟩:=HJ.o;by_cases ak:j<l.length
     ·obtain ⟨bl,ol,cn,f8,s1⟩:=(ru au (by omega)).atI j ak;subst cn;obtain ⟨g5,fa⟩:=es.o l[j] (gm ak);have d3:j<(ed d.fields h.ab x.loc).length:=by rw [bo.o,List.length_map];exact ak
      have d5:(ed d.fields h.ab x.loc)[j]=wd h.ab l[j]:=by
       have e:(ed d.fields h.ab x.loc)[j]? =some (wd h.ab l[j]):=by rw [bo.o,List.getElem?_map,List.getElem?_eq_getElem ak];rfl
       exact ojq ((List.getElem?_eq_getElem d3).symm.trans e)
      have cs:A++(ed d.fields h.ab x.loc).take (j+1)=(A++(ed d.fields h.ab x.loc).take j)++ [wd h.ab l[j]]:=by rw [List.take_succ_eq_append_getElem d3,d5,List.append_assoc]
      have d2:((ed d.fields h.ab x.loc).take j).length=j:=by rw [List.length_take];omega
      have ds:(A++(ed d.fields h.ab x.loc).take j).length<=100000000:=by rw [List.length_append,d2];omega
      obtain ⟨c,hc⟩:∃c:Nat,l[j]=(c:Int):=⟨l[j].toNat,by omega⟩;rw [hc]at s1 fa cs;have d0:c<h.ab.length:=by omega
      have ad:=a1.o wr J;obtain ⟨bW,oW,e9,f7,s2⟩:=(ru ad.rW (by omega)).atI c d0;subst e9;rw [<-pi d0]at s2;generalize wd h.ab (c:Int)=vv at*;have c9:=ag cs;generalize hacc:A++(ed d.fields h.ab x.loc).take j=acc at*;obtain ⟨a5,c5,f4⟩:=kq av;subst f4;have s0:=bp ad.blk 0 (x:=.slice (some ⟨bW,oW,none⟩) h.ab.length cW) rfl;have hs:=bz ad.blk;have ci:=ag av;have c8:=ag (And.intro ac (And.intro J (And.intro au (And.intro ay c1))));have ce:Hid (acc.length+1<=maxLen/\(acc.length+1)*8<=140737488355328/\N.heap.size<=(wr.alloc (.cells #[.i vv] 3)).heap.size):=⟨by unfold maxLen;omega,by omega,by have:=J.size;simp;omega⟩;have hh:=J.size;clear d5 cs d2 ds hc ad av ac J au ay c1 hacc HJ;go_wp2_with (at_builtin;refine wpList_append_lies _ rfl _ _ 22 rfl N.heap.size 3 iI (.i 0) 1 8 underlying22 fi eg eh ei rfl (by decide) (.slice a5 acc.length c5) acc.length (bw acc) rfl (ci.o.alloc _) ⟨wr.heap.size,0,none⟩ 1 1 [.i vv] rfl rfl (World.news_of_block (heap_alloc_new wr _)) (by intro u hu;simp at hu;subst hu;rfl) (by omega) ce.o.1 ce.o.2.1 ce.o.2.2 _ rfl ?_);intro gA cA bm an L b3 cr;have bx:Bl wr (wr.alloc (.cells #[.i vv] 3)):=(br _ _).alloc (nlq _) _;have cv:∀q,(Value.slice a5 acc.length c5).ownBlock=some q->N.heap.size<=q/\q<wr.heap.size:=fun q e=>ci.o.lt q e;have fj:(wr.alloc (.cells #[.i vv] 3)).heap.size=wr.heap.size+1:=by simp
      have gg:=L.size;have F:Hid (bm.ownsRow N.heap.size 3 1 (.slice (some ⟨gA,0,none⟩) (acc.length+1) cA) (A++(ed d.fields h.ab x.loc).take (j+1)).length (bw (A++(ed d.fields h.ab x.loc).take (j+1)))/\jt bm (w.heap.size) (all++ [x])/\Bl w bm/\bm.ownsRow E.drew.heap.size 3 1 (.slice (some ⟨bl,ol,none⟩) l.length a2) l.length (bw l)/\(∀q,(Value.slice (some ⟨gA,0,none⟩) (acc.length+1) cA).ownBlock=some q->(Value.slice (some ⟨bl,ol,none⟩) l.length a2).ownBlock≠some q)/\w9.heap.size<=bm.heap.size):=by
       obtain ⟨ac,J,au,ay,c1⟩:=c8.o;refine ⟨?_,(ac.below bx ac.lt).kept L (fun e=>by have:=(cv _ e.symm).1;omega),(J.trans (bx.mono J.size)).grown L (by have:=J.size;omega) (fun q e=>by have:=(cv q e).1;omega),(mf au bx).kept L ?_,?_,by omega⟩
       ·rw [c9.o,List.length_append,El,cj.o];exact an
       ·exact Or.inr fun e=>ay bl e.symm rfl
       intro q e e2;have e:gA=q:=ojq e;have e2:bl=q:=ojq e2;rcases b3 with q1 | q1
       ·exact ay gA q1 (by rw [e,<-e2];rfl)
       omega
      clear an L b3 bx cv fj s0 s1 s2 c8 ci cr;go_wp2_with fail;go_roundw
      case rel=>exact ⟨j+1,by go_num,by omega,F.o⟩
      case measure=>simp [intOf];omega
     have ad:(ed d.fields h.ab x.loc).take j=ed d.fields h.ab x.loc:=List.take_of_length_le (by rw [bo.o,List.length_map];omega);rw [ad]at av;have cn:(A++ed d.fields h.ab x.loc).length=A.length+l.length:=by rw [List.length_append,bo.o,List.length_map]
     have dz:N.heap.size<=wr.heap.size:=by omega
     have F:=ag (And.intro ac (And.intro av (And.intro J dz)));clear av ac J au ay HJ ad;go_wp2_with fail
     go_roundg ((ts.length - (all.length+1))*5001+(A.length+l.length))
     case measure=>omega
     case rel=>exact ⟨all++ [x],A++ed d.fields h.ab x.loc,by rw [cn,List.length_append,List.length_singleton];exact nlq _,by omega,F.o.1,F.o.2.1,ao.o,F.o.2.2.1,F.o.2.2.2⟩
theorem zyt {d:bd} {h:ar} {rs:List Int} (h0:dv d h rs=0):∃ts,Right d h ts/\rs.length<=1000/\∀v∈rs,b8 ts v=true:=by
 unfold dv at h0;by_cases A:dt d h=0
 ·rw [if_pos A]at h0;obtain ⟨ts,D⟩:=ztn A;have e:sj d h=ts:=by unfold sj;rw [D.both];rfl
  rw [e]at h0;unfold jr at h0;by_cases h1:(rs.length:Int)<=1000
  ·rw [if_pos (decide_eq_true h1)]at h0;cases h2:rs.any fun x=>!b8 ts x with
   | true=>rw [h2]at h0;simp at h0
   | false=>
     refine ⟨ts,D,by omega,fun v E=>?_⟩;have:=List.any_eq_false.1 h2 v E;cases hc:b8 ts v with
     | true=>rfl
     | false=>rw [hc]at this;exact absurd rfl this
  rw [if_neg (by simpa using h1)]at h0;cases h0
 rw [if_neg A]at h0;exact absurd h0 A
theorem zyu (w:World) (b B T:Nat) (nW nO nR kC kS kF kN kT:Value) (h:ar) (rs:List Int) (d:bd) (o:nc b B w T nW nO nR kC kS kF kN kT h rs d) (ts:List bk) (D:Right d h ts) (E:∀v∈rs,b8 ts v=true) (hw:∀x∈h.ab,(Lit.int .i64 x).wf=true) (ac:rs.length<=1000):
 Calls prog 92 #[.p T] w fun r w'=>r=.returned (.i (dp d h rs))/\Bl w w':=by
 have G:=ag (zyr w b B T _ _ _ _ _ _ _ _ h rs d o ts D E hw ac);have Z:=ag (And.intro D E);clear o D E hw;go_enter func92,ntmps92;go_wp2_with fail;refine G.o.mono ?_;rintro r w1 ⟨J,X,all,rfl,O,A⟩;obtain ⟨D,E⟩:=Z.o;have z:=D.sized;have z1:=z.ae;have z2:=z.old;have z3:=z.len;have W:=zvm D;rw [List.length_map]at W;have aa:=A.few;have N:∀t∈all,0<=t.loc/\t.loc<=100000/\0<=t.len/\t.len<=5000:=fun t ht=>by have ad:=wv D.sized D.both t (A.inT t ht);have af:t.fin=t.loc+3+t.len:=rfl;omega
 have V:(all.map fun t:bk=>3+t.len).sum=dp d h rs:=by rw [<-zvo D E A.nd A.all,List.map_map];refine congrArg List.sum (List.map_congr_left fun t ht=>?_);exact congrArg (3+ ·) (congrArg bk.len (pg D (A.inT t ht)))
 have I:=ag (zyn w1 X all O A.nd N (by omega));rw [V]at I;have F:=ag J;clear J O A D E z z1 z2 z3 W aa N V G;go_wp2_with fail;refine I.o.mono ?_;rintro r w2 ⟨rfl,L⟩;have Y:Hid (Bl w w2):=F.o.trans (L.mono F.o.size);clear L;go_wp2_with fail;go_ret;exact ⟨rfl,Y.o⟩
theorem zyv (w:World) (B P0 P1 P2:Nat) (vW vO kC kS kF kN kT:Value) (h:ar) (d:bd) (g:Hd B w vW vO kC kS kF kN kT h d) (vR:Value) (rs:List Int) (hs:SL 1 RI (· <B) w vR rs) (L:∀x∈rs,(Lit.int .i64 x).wf=true) (k0:w.heap[P0]? =some (.cells #[vW,.i h.ae,.i h.old,.i h.bo,.i h.ba,vO,.i h.next] 24 (0,0))) (k1:w.heap[P1]? =some (.cells #[kC,kS,kF,kN,kT] 36 (0,0))) (k2:w.heap[P2]? =some (.cells #[vR] 22 (0,0))):
 Calls prog 91 #[.p P0,.p P1,.p P2] w fun r w'=>Bl w w'/\((∃v,r=.returned v/\(∃n,v=.i n)/\dv d h rs=0/\v=.i (dp d h rs))\/∃e p,r=.panicked [wrongV e p]/\e=dv d h rs/\p=0/\dv d h rs≠0):=by
 have V:=ag g;obtain ⟨aW,cW,aO,cO,aC,cC,aS,cS,aF,cF,aN,cN,aT,cT,rfl,rfl,rfl,rfl,rfl,rfl,rfl⟩:=g.agg;have ak:=ag hs;obtain ⟨aR,cR,rfl,-⟩:=hs;clear g;have l0:=bz k0;have l1:=bz k1;have l2:=bz k2;have D:=bp k2 0 (x:=.slice aR rs.length cR) rfl;have ac:=ip k0;have bc:=cells5 k1;have O:=ag (zys w B _ _ _ _ _ _ _ h d V.o (.slice aR rs.length cR) rs ak.o L);have ao:=ag L;clear k0 k1 k2 L;go_enter func91,ntmps91;go_wp2_with fail;refine O.o.mono ?_;rintro r w1 ⟨F,⟨h0,nW,dW,nO,dO,nR,dR,rfl,A,J,G⟩ | ⟨h0,rfl⟩⟩
 rotate_left
 ·exact ⟨rfl,F,Or.inr ⟨_,_,rfl,rfl,rfl,h0⟩⟩
 obtain ⟨ts,rt,aa,Z⟩:=zyt h0;have an:=V.o.le;have ad:=F.size;obtain ⟨W2,X,E,ap,m0⟩:=mi w1 #[.slice nW h.ab.length dW,.i h.ae,.i h.old,.i h.bo,.i h.ba,.slice nO h.am.length dO,.i h.next,.slice aC d.aj.length cC,.slice aS d.bg.length cS,.slice aF d.fields.length cF,.slice aN d.names.length cN,.slice aT d.ax.length cT,.slice nR rs.length dR] 131;have I:Bl w W2:=F.trans (E.mono ad);have W:nc w.heap.size B W2 w1.heap.size (.slice nW h.ab.length dW) (.slice nO h.am.length dO) (.slice nR rs.length dR) (.slice aC d.aj.length cC) (.slice aS d.bg.length cS) (.slice aF d.fields.length cF) (.slice aN d.names.length cN) (.slice aT d.ax.length cT) h rs d:=by refine ⟨m0,mf A.rW E,mf A.rO E,mf J E,(V.o.below (I.mono V.o.le)).lk,by omega,ad,?_⟩;unfold si;simp only [List.pairwise_cons,List.mem_cons,List.not_mem_nil,or_false,forall_eq_or_imp,forall_eq,List.Pairwise.nil,and_true,false_implies,implies_true];exact ⟨⟨fun k e D=>by have:=ojq e;have:=(A.rW.lt k D).2;omega,fun k e D=>by have:=ojq e;have:=(A.rO.lt k D).2;omega,fun k e D=>by have:=ojq e;have:=(J.lt k D).2;omega⟩,⟨fun k e=>A.ne k e,fun k e D=>(G k D).1 e⟩,fun k e D=>(G k D).2 e⟩
 have ah:=ag (zyu W2 w.heap.size B w1.heap.size _ _ _ _ _ _ _ _ h rs d W ts rt Z V.o.ww aa);have N:=ag I;have al:=ag X;have ai:=ag h0;clear F A J G X E I W m0 h0 rt aa Z O an D;clear ac;clear bc;go_wp2_with fail;rw [<-al.o];refine ah.o.mono ?_;rintro r w3 ⟨rfl,Y⟩;have af:Hid (Bl w w3):=N.o.trans (Y.mono N.o.size);clear Y;go_wp2_with fail;go_ret;exact ⟨af.o,Or.inl ⟨_,rfl,⟨_,rfl⟩,ai.o,rfl⟩⟩
theorem Ao (args:Array Value) (w:World):(callFunc 91 args).run prog w=.ok (.enter 91 args) w:=by kernel_rfl
theorem zyw (w:World) (B:Nat) (vW vO kC kS kF kN kT:Value) (h:ar) (d:bd) (g:Hd B w vW vO kC kS kF kN kT h d) (vR:Value) (rs:List Int) (hs:SL 1 RI (· <B) w vR rs) (Z:∀x∈rs,(Lit.int .i64 x).wf=true):
 Calls prog 40 #[.agg #[vW,.i h.ae,.i h.old,.i h.bo,.i h.ba,vO,.i h.next],.agg #[kC,kS,kF,kN,kT],vR] w fun r w'=>Bl w w'/\((dv d h rs=0/\r=.returned (.tuple #[.i (dp d h rs),.i 0]))\/(dv d h rs≠0/\r=.returned (.tuple #[.i 0,.i (dv d h rs)]))):=by
 have af:=qj prog;have HG:=ag g;have aa:=ag hs;obtain ⟨aW,cW,aO,cO,aC,cC,aS,cS,aF,cF,aN,cN,aT,cT,rfl,rfl,rfl,rfl,rfl,rfl,rfl⟩:=g.agg;obtain ⟨aR,cR,rfl,-⟩:=hs;clear g;obtain ⟨V,X,I,ac,k0,k1,k2⟩:=uq w #[.slice aW h.ab.length cW,.i h.ae,.i h.old,.i h.bo,.i h.ba,.slice aO h.am.length cO,.i h.next] #[.slice aC d.aj.length cC,.slice aS d.bg.length cS,.slice aF d.fields.length cF,.slice aN d.names.length cN,.slice aT d.ax.length cT] #[.slice aR rs.length cR] 24 36 22;have G:Hid (Calls prog 65 #[.func (.func 91) #[] #[.p w.heap.size,.p (w.heap.size+1),.p (w.heap.size+1+1)]] V fun r w'=>Bl V w'/\V.heap.size+4<=w'.heap.size/\
  ((∃v,r=.returned (.tuple #[v,.agg #[.i 0,.i 0]])/\(∃n,v=.i n)/\dv d h rs=0/\v=.i (dp d h rs))\/
   (∃e p,r=.returned (.tuple #[.i 0,.agg #[.i e,.i p]])/\(e=dv d h rs/\p=0/\dv d h rs≠0)))):=by
  refine zjq V 91 _ (fun v _=>dv d h rs=0/\v=.i (dp d h rs)) (fun e p=>e=dv d h rs/\p=0/\dv d h rs≠0) Ao ?_ ?_
  ·intro W hW hs;have hk:∀(b:Nat) (ob:Obj),V.heap[b]? =some ob->W.heap[b]? =some ob:=fun b ob e=>(hW.block b (bz e)).trans e;have Y:=(I.trans (hW.mono I.size)).mono HG.o.le;exact zyv W B _ _ _ _ _ _ _ _ _ _ h d (HG.o.below Y) _ rs (aa.o.keptI (Kp.below Y)) Z (hk _ _ k0) (hk _ _ k1) (hk _ _ k2)
  intro v W W' _ _ o;exact o
 have F:=ag I;have O:=ag X;rw [O.o]at G;clear k0 k1 k2 I X ac Z;go_enter func40,ntmps40;go_wp2_with fail;refine G.o.mono ?_;rw [<-O.o];rintro r w1 ⟨A,ah,⟨v,rfl,-,h0,rfl⟩ | ⟨e,p,rfl,rfl,rfl,h0⟩⟩
 ·obtain ⟨W2,E,D,ad,N⟩:=mi w1 #[.i 0,.i 0] 84;have u0:=bp N 0 (x:=.i 0) rfl;have lm:=bz N;have HF:Hid (Bl w W2):=F.o.trans ((A.trans (D.mono A.size)).mono F.o.size);have L:=ag E;have J:=ag h0;clear A E D N G;go_wp2_with fail;rw [<-L.o];go_quiet (fail);go_wp2_with fail;exact bodyPost_ret (v:=.tuple #[.i (dp d h rs),.i 0]) (by simp [results,results40,go_sem]) rfl ⟨o7 HF.o _,Or.inl ⟨J.o,rfl⟩⟩
 obtain ⟨W2,E,D,ad,N⟩:=mi w1 #[.i (dv d h rs),.i 0] 84;have u0:=bp N 0 (x:=.i (dv d h rs)) rfl;have lm:=bz N;have HF:Hid (Bl w W2):=F.o.trans ((A.trans (D.mono A.size)).mono F.o.size);have L:=ag E;have J:=ag h0;clear A E D N G h0;go_wp2_with fail;rw [<-L.o];go_quiet (fail);go_wp2_with fail;exact bodyPost_ret (v:=.tuple #[.i 0,.i (dv d h rs)]) (by simp [results,results40,go_sem]) rfl ⟨o7 HF.o _,Or.inr ⟨J.o,rfl⟩⟩
end Go.Proofs.YtjdnmblggdobgaaGreat
