import Derived.Test.YtjdnmblggdobgaaGreatJHzXHxA
import Derived.Test.YtjdnmblggdobgaaGreatJTk2Dies
import Derived.Test.YtjdnmblggdobgaaGreatJHyNHyO
set_option maxHeartbeats 8000000
set_option maxRecDepth 100000
namespace Go.Proofs.YtjdnmblggdobgaaGreat
open Go.RowKit Go.Maps
theorem zzm {A:List Int} {v:Int} (h:v∉A):mq (A++ [v]) v=A.length:=by unfold mq;refine zch (k:=A.length) (by simp) (fun x D=>?_) (by simp);rw [List.take_left]at D;exact decide_eq_false fun e=>h (e ▸ D)
theorem zzn (A:List Int):shT A 0=A/\shN A 0=0:=⟨by unfold shT;rw [if_pos rfl],by unfold shN;rw [if_pos rfl]⟩
theorem zzo {A:List Int} {v:Int} {k:Nat} (h0:v≠0) (D:A[k]? =some v) (E:mq A v=k):shT A v=A/\shN A v=(k:Int)+1:=by
 have e:shT A v=A:=by unfold shT;rw [if_neg h0,List.contains_iff_mem.2 (List.mem_of_getElem? D),if_pos rfl]
 refine ⟨e,?_⟩;unfold shN;rw [if_neg h0,e,E]
theorem zzp {A:List Int} {v:Int} (h0:v≠0) (h:v∉A):shT A v=A++ [v]/\shN A v=(A.length:Int)+1:=by
 have e:shT A v=A++ [v]:=by unfold shT;rw [if_neg h0,if_neg (fun hc=>h (List.contains_iff_mem.1 hc))]
 refine ⟨e,?_⟩;unfold shN;rw [if_neg h0,e,zzm h]
theorem zzq (w:World) (b P:Nat) (vo:Value) (o:List Int) (x:Bx1 b w P vo o) (ad:o.length<=1000000) (v:Int):
 Calls Tryz.prog 145 #[.int .i64 v,.pointer (some ⟨P,0,none⟩)] w fun r w'=>r=.returned (.int .i64 (shN o v))/\∃vo',Bx1 b w' P vo' (shT o v)/\jc w.heap.size P P P (.slice none 0 0) vo w vo' w':=by
 obtain ⟨iI,ac,X,Y,Z⟩:=info_parts Tryz.infoInt;obtain ⟨O,V,rfl⟩:=kh x.row;have HX:=ae x;have c0:=aw x.blk 0 (x:=.slice O o.length V) rfl;have lP:=bk x.blk;have A:=ae (zwa w _ _ _ (zfb x.row ad) v);have ai:=x.bP;clear x;by_cases N:v=0
 ·have G:=ae (zzn o);subst N;clear A;go_enter Tryz.func145,Tryz.ntmps145;go_wp2_with fail;go_ret;exact ⟨by rw [G.out.2];rfl,_,by rw [G.out.1];exact HX.out,jc.ofBelow (br _ _)⟩
 have ak:(v==0)=false:=by simpa using N
 rcases zxe o v with ⟨h1,L⟩ | ⟨k,h1,L⟩
 ·have G:=ae (zzp N h1);rw [L]at A;have aa:=ae HX.out.row;have I:Hid (o.length+1<=maxLen/\(o.length+1)*8<=140737488355328/\b<=(w.alloc (.cells #[.int .i64 v] 3)).heap.size):=⟨by unfold maxLen;omega,by omega,by simp;omega⟩;have w1:IntKind.i64.wrap ((o.length:Int)+1 - 1)=(o.length:Int):=by rw [IntKind.wrap_i64];omega
  have al:IntKind.i64.wrap (((o.length+1:Nat):Int) - 1)=(o.length:Int):=by rw [IntKind.wrap_i64];omega
  have w2:IntKind.i64.wrap ((o.length:Int)+1)=(o.length:Int)+1:=fy _ (by omega) (by omega);clear h1 L N;go_enter Tryz.func145,Tryz.ntmps145;go_wp2_with fail;refine A.out.mono ?_;rintro r w ⟨rfl,rfl⟩;go_wp2_with (at_builtin;refine wpList_append_lies _ rfl _ _ 22 rfl b 3 iI (.int .i64 0) 1 8 Tryz.underlying22 ac X Y Z rfl (by decide) (.slice O o.length V) o.length (b8 o) rfl (aa.out.alloc _) ⟨w.heap.size,0,none⟩ 1 1 [.int .i64 v] rfl rfl (World.news_of_block (heap_alloc_new w _)) (by intro u hu;simp at hu;subst hu;rfl) (by omega) I.out.1 I.out.2.1 I.out.2.2 _ rfl ?_);intro gA cA w3 E D W ah;have F:Below w.heap.size w (w.alloc (.cells #[.int .i64 v] 3)):=(br _ _).alloc (nlq _) _;have xA:=HX.out.below F;have k3:w3.heap[P]? =some (.cells #[.slice O o.length V] 22 (0,0)):=(D.block P (bk xA.blk) (fun e=>xA.ne e.symm)).trans xA.blk;have d0:=aw k3 0 (x:=.slice O o.length V) rfl;have dz:=lj k3 0;have dl:=bk k3;obtain ⟨W4,J⟩:∃W4,W4=w3.setCell ⟨P,0,none⟩ (.slice (some ⟨gA,0,none⟩) (o.length+1) cA):=⟨_,rfl⟩;obtain ⟨x4,m4⟩:=xA.more (v:=v) D E (W.imp id fun e=>by simp;omega) J;have f0:=aw x4.blk 0 (x:=.slice (some ⟨gA,0,none⟩) (o.length+1) cA) rfl;have fl:=bk x4.blk;have HF:Hid (Bx1 b W4 P (.slice (some ⟨gA,0,none⟩) (o.length+1) cA) (o++ [v])/\jc w.heap.size P P P (.slice none 0 0) (.slice O o.length V) w (.slice (some ⟨gA,0,none⟩) (o.length+1) cA) W4):=⟨x4,(jc.ofBelow F).trans (m4 _ F.size)⟩;have af:=J.symm;clear E D W F xA k3 x4 m4 J;go_wp2_with fail;go_ret;exact ⟨by rw [G.out.2];rfl,_,by rw [G.out.1];exact HF.out.1,HF.out.2⟩
 have G:=ae (zzo N h1 L);rw [L]at A;have hk:k<o.length:=by
  rcases Nat.lt_or_ge k o.length with h | h
  ·exact h
  rw [List.getElem?_eq_none h]at h1;cases h1
 have w2:IntKind.i64.wrap ((k:Int)+1)=(k:Int)+1:=fy _ (by omega) (by omega);clear h1 L N;go_enter Tryz.func145,Tryz.ntmps145;go_wp2_with fail;refine A.out.mono ?_;rintro r w ⟨rfl,rfl⟩;go_wp2_with fail;go_ret;exact ⟨by rw [G.out.2];rfl,_,by rw [G.out.1];exact HX.out,jc.ofBelow (br _ _)⟩
theorem callTurnS (args:Array Value) (w:World):(callFunc 145 args).run Tryz.prog w=.ok (.enter 145 args) w:=by kernel_rfl
structure Sh (b:Nat) (w:World) (P:Nat) (vo vt:Value) (s:ShS):Prop where
 bx:Bx1 b w P vo s.met
 row:w.ownsRow b 3 1 vt s.out.length (b8 s.out)
 ne:vt.ownBlock≠some P
 sep:∀j,vt.ownBlock=some j->vo.ownBlock≠some j
theorem Sh.below {b P:Nat} {w w':World} {D E:Value} {s:ShS} (x:Sh b w P D E s) (A:Below w.heap.size w w'):Sh b w' P D E s:=⟨x.bx.below A,kv x.row A,x.ne,x.sep⟩
theorem Sh.turned {b P:Nat} {w w':World} {D A E:Value} {s:ShS} {m:List Int} (x:Sh b w P D E s) (F:Bx1 b w' P A m) (k:jc w.heap.size P P P (.slice none 0 0) D w A w'):Sh b w' P A E ⟨m,s.out⟩:=
 ⟨F,zv0 x.row k (fun j e G=>⟨G,fun h=>x.ne (by rw [e,h]),fun h=>x.ne (by rw [e,h]),fun h=>x.ne (by rw [e,h]),(fun h=>by cases h),x.sep j e⟩),x.ne,fun j e h=>by
  rcases k.gv j h with q | q
  ·exact x.sep j e q
  have:=(x.row.lt j e).2;omega⟩
theorem Sh.told {b P:Nat} {w w':World} {D A vt':Value} {s:ShS} {l:List Int} (x:Sh b w P D A s) (F:w.grownBy w' A.ownBlock) (I:w'.ownsRow b 3 1 vt' (s.out++l).length (b8 (s.out++l))) (E:vt'.ownBlock=A.ownBlock\/∃j,vt'.ownBlock=some j/\w.heap.size<=j):Sh b w' P D vt' ⟨s.met,s.out++l⟩:=by
 have J:=bk x.bx.blk;refine ⟨⟨(F.block P J (fun e=>x.ne e.symm)).trans x.bx.blk,x.bx.row.kept F ?_,x.bx.bP,x.bx.ne⟩,I,?_,?_⟩
 ·cases hv:A.ownBlock with
  | none=>cases D.ownBlock<;>simp
  | some j=>exact Or.inr (x.sep j hv)
 ·rcases E with q | ⟨j,q,G⟩
  ·rw [q];exact x.ne
  rw [q];intro e;have:=ojq e;omega
 intro i e h;rcases E with q | ⟨j,q,G⟩
 ·rw [q]at e;exact x.sep i e h
 rw [q]at e;have e:=ojq e;have:=(x.bx.row.lt i h).2;omega
theorem Sh.bel {b P:Nat} {w w':World} {E A:Value} {s:ShS} (x:Sh b w P E A s) (D:w.grownBy w' A.ownBlock):Below b w w':=
 (br b w).grown D (lt3 x.bx.bP (Nat.le_of_lt (bk x.bx.blk))) (fun k e=>(x.row.lt k e).1)
theorem zzr {A:List Int} {v u:Int} :u∈shT A v↔u∈A\/(u=v/\v≠0):=by
 unfold shT;by_cases h0:v=0
 ·rw [if_pos h0];exact ⟨Or.inl,fun h=>h.elim id fun h=>absurd h0 h.2⟩
 rw [if_neg h0];cases hc:A.contains v with
 | true=>
   have D:=List.contains_iff_mem.1 hc;rw [if_pos rfl];exact ⟨Or.inl,fun h=>h.elim id fun h=>h.1 ▸ D⟩
 | false=>
   rw [if_neg (by simp),List.mem_append,List.mem_singleton];exact ⟨fun h=>h.imp id fun h=>⟨h,h0⟩,fun h=>h.imp id fun h=>h.1⟩
theorem zzs {A:List Int} {v:Int} (D:A.Nodup):(shT A v).Nodup:=by
 unfold shT;split
 ·exact D
 split
 ·exact D
 rename_i hc;refine List.nodup_append.2 ⟨D,by simp,?_⟩;intro a F b E e;rw [List.mem_singleton]at E;subst E;subst e;exact hc (List.contains_iff_mem.2 F)
theorem zzt (A:List Int) (v:Int):∃e,shT A v=A++e:=by
 unfold shT;split
 ·exact ⟨[],(List.append_nil _).symm⟩
 split
 ·exact ⟨[],(List.append_nil _).symm⟩
 exact ⟨[v],rfl⟩
structure ShG (ts:List bp) (s0 s:ShS) (n:Nat):Prop where
 nd:s.met.Nodup
 sub:∀v∈s.met,∃t∈ts,t.loc=v
 ext:∃e,s.met=s0.met++e
 out:s.out.length=s0.out.length+n
section
variable {d:bd} {h:bb} {ts:List bp}
theorem ShG.turn {s0 s:ShS} {n:Nat} (g:ShG ts s0 s n) {v:Int} (F:dh ts v=true):ShG ts s0 (s.turn v) (n+1):=by
 refine ⟨zzs g.nd,fun u E=>?_,?_,?_⟩
 ·rcases zzr.1 E with h | ⟨rfl,h⟩
  ·exact g.sub u h
  exact zux F h
 ·obtain ⟨e,A⟩:=g.ext;obtain ⟨f,D⟩:=zzt s.met v;exact ⟨e++f,by show shT s.met v=_;rw [D,A,List.append_assoc]⟩
 show (s.out++ [shN s.met v]).length=_;rw [List.length_append,g.out];rfl
theorem ShG.roots:∀(rs:List Int) {s0 s:ShS} {n:Nat},ShG ts s0 s n->(∀v∈rs,dh ts v=true)->ShG ts s0 (rs.foldl ShS.turn s) (n+rs.length)
 | [],_,_,_,g,_=>g
 | v::rs,_,s,n,g,h=>by have:=ShG.roots rs (g.turn (h v (List.mem_cons_self ..))) fun u A=>h u (List.mem_cons_of_mem _ A);rw [show n+1+rs.length=n+(v::rs).length by rw [List.length_cons];omega]at this;exact this
theorem ShG.word (r:Right d h ts) {s0 s:ShS} {n:Nat} (g:ShG ts s0 s n) {t:bp} (A:t∈ts) {i:Nat} (hi:(i:Int)<t.len):ShG ts s0 (s.word d h.ab t i) (n+1):=by
 unfold ShS.word;cases hr:je d.fields t i with
 | true=>exact g.turn (zu6 r A (ztp hi hr))
 | false=>
   refine ⟨g.nd,g.sub,g.ext,?_⟩;show (s.out++ [wd h.ab (t.loc+3+i)]).length=_;rw [List.length_append,g.out];rfl
theorem ShG.ab (r:Right d h ts) {t:bp} (A:t∈ts):∀(is:List Nat) {s0 s:ShS} {n:Nat},ShG ts s0 s n->(∀i∈is,(i:Int)<t.len)->ShG ts s0 (is.foldl (ShS.word d h.ab t) s) (n+is.length)
 | [],_,_,_,g,_=>g
 | i::is,_,s,n,g,hi=>by have:=ShG.ab r A is (g.word r A (hi i (List.mem_cons_self ..))) fun j D=>hi j (List.mem_cons_of_mem _ D);rw [show n+1+is.length=n+(i::is).length by rw [List.length_cons];omega]at this;exact this
theorem zzu (r:Right d h ts):((ts.map bp.loc).map fun a=>3+wd h.ab (a+1)).sum<=h.ab.length:=by
 have z:=r.sized;have L:=z.ag;have N:=z.len;have O:=z.be;have V:=z.ar;have e:((ts.map bp.loc).map fun a=>3+wd h.ab (a+1))=ts.map fun t=>3+t.len:=by rw [List.map_map];refine List.map_congr_left fun t E=>?_;show 3+wd h.ab (t.loc+1)=3+t.len;rw [<-congrArg bp.len (th_at r E).symm];rfl
 rw [e];obtain ⟨G,F,A,D,rfl⟩:=zko r.both;have I:=zu1 _ 1 G (nlq _) (by omega) A;have J:=zu1 _ (h.ag+1) F (nlq _) (by omega) D;rw [List.map_append,List.sum_append];omega
theorem zzv (r:Right d h ts) {l:List Int} (E:l.Nodup) (F:∀v∈l,∃t∈ts,t.loc=v):(l.map fun a=>3+wd h.ab (a+1)).sum<=h.ab.length:=by
 refine Int.le_trans (zu0 l (ts.map bp.loc) E (fun x D=>?_) fun x D=>?_) (zzu r)
 ·obtain ⟨t,A,e⟩:=F x D;exact List.mem_map.2 ⟨t,A,e⟩
 obtain ⟨t,A,rfl⟩:=List.mem_map.1 D;have e:t.len=wd h.ab (t.loc+1):=congrArg bp.len (th_at r A);obtain ⟨-,-,q,-⟩:=zy6 r A;have:=zeo q;omega
theorem zzw (r:Right d h ts) {l:List Int} (A:l.Nodup) (D:∀v∈l,∃t∈ts,t.loc=v):l.length<h.ab.length:=
 Nat.lt_of_le_of_lt (zvh l (ts.map bp.loc) A fun x F=>by
  obtain ⟨t,E,e⟩:=D x F;exact List.mem_map.2 ⟨t,E,e⟩) (zvm r)
structure ShI (d:bd) (h:bb) (ts:List bp) (rs:List Int) (k:Nat) (s:ShS):Prop where
 nd:s.met.Nodup
 sub:∀v∈s.met,∃t∈ts,t.loc=v
 out:(s.out.length:Int)=rs.length+((s.met.take k).map fun a=>3+wd h.ab (a+1)).sum
 fin:(ShS.all d h.ab (h.ab.length+1 - k) k s).out=shapeD d h rs
theorem ShI.small (r:Right d h ts) {rs:List Int} {k:Nat} {s:ShS} (i:ShI d h ts rs k s):s.met.length<h.ab.length/\s.out.length<=rs.length+h.ab.length:=by refine ⟨zzw r i.nd i.sub,?_⟩;have h1:=zzv r (l:=s.met.take k) (i.nd.sublist (List.take_sublist _ _)) fun v A=>i.sub v (List.mem_of_mem_take A);have D:=i.out;omega
theorem ShI.start {rs:List Int} (A:∀v∈rs,dh ts v=true):ShI d h ts rs 0 (rs.foldl ShS.turn ⟨[],[]⟩):=by have g:=ShG.roots (ts:=ts) rs (s0:=⟨[],[]⟩) (s:=⟨[],[]⟩) (n:=0) ⟨List.nodup_nil,fun v D=>(by cases D),⟨[],rfl⟩,rfl⟩ A;refine ⟨g.nd,g.sub,?_,rfl⟩;have:=g.out;simp at this;simp [this]
theorem ShI.next (r:Right d h ts) {rs:List Int} {k:Nat} {s:ShS} (i:ShI d h ts rs k s) {a:Int} (D:s.met[k]? =some a):ShI d h ts rs (k+1) (s.thing d h.ab a)/\(s.thing d h.ab a).out.length=s.out.length+3+(bj h.ab a).len.toNat:=by
 obtain ⟨t,I,rfl⟩:=i.sub a (List.mem_of_getElem? D);have E:k<s.met.length:=by
  rcases Nat.lt_or_ge k s.met.length with h | h
  ·exact h
  rw [List.getElem?_eq_none h]at D;cases D
 have O:=(i.small r).1;have A:=th_at r I;have N:0<=t.len:=zeo (zy6 r I).2.2.1;have g:=ShG.ab r I (List.range t.len.toNat) (s0:=s) (s:=⟨s.met,s.out++ [t.tag,t.len,t.hash]⟩) (n:=3) ⟨i.nd,i.sub,⟨[],(List.append_nil _).symm⟩,by rw [List.length_append];rfl⟩ (fun j L=>by have:=List.mem_range.1 L;omega);have e:s.thing d h.ab t.loc=(List.range t.len.toNat).foldl (ShS.word d h.ab t) ⟨s.met,s.out++ [t.tag,t.len,t.hash]⟩:=by unfold ShS.thing;rw [<-A]
 rw [<-e]at g;obtain ⟨V,F⟩:=g.ext;have G:=g.out;rw [List.length_range]at G;refine ⟨⟨g.nd,g.sub,?_,?_⟩,by rw [G,<-A];omega⟩
 ·have h1:=i.out;have J:(s.thing d h.ab t.loc).met.take (k+1)=s.met.take k++ [t.loc]:=by
   rw [F,List.take_append_of_le_length (by omega),List.take_succ_eq_append_getElem E];congr 1;rw [List.getElem?_eq_getElem E]at D;rw [ojq D]
  rw [G,J,List.map_append,List.sum_append];have W:([t.loc].map fun a=>3+wd h.ab (a+1)).sum=3+t.len:=by have:t.len=wd h.ab (t.loc+1):=congrArg bp.len A;simp;omega
  omega
 rw [<-i.fin];rw [show h.ab.length+1 - k=(h.ab.length+1 - (k+1))+1 by omega,ShS.all,D]
theorem ShI.done {rs:List Int} {k:Nat} {s:ShS} (i:ShI d h ts rs k s) (A:s.met.length<=k):s.out=shapeD d h rs:=by
 rw [<-i.fin];cases h.ab.length+1 - k with
 | zero=>rfl
 | succ f=>rw [ShS.all,List.getElem?_eq_none A]
end
theorem zzx (w:World) (B:Nat) (vW vO kC kS kF kN kT:Value) (h:bb) (d:bd) (g:Hd B w vW vO kC kS kF kN kT h d) (ts:List bp) (rt:Right d h ts) (vR:Value) (rs:List Int) (hs:SL 1 RI (· <B) w vR rs) (hr:∀v∈rs,dh ts v=true) (fr:rs.length<=500000):
 Calls Tryz.prog 90 #[.agg #[vW,.int .i64 h.ag,.int .i64 h.old,.int .i64 h.be,.int .i64 h.ar,vO,.int .i64 h.next],.agg #[kC,kS,kF,kN,kT],vR] w fun r w'=>Below w.heap.size w w'/\∃v,r=.returned v/\w'.ownsRow w.heap.size 3 1 v (shapeD d h rs).length (b8 (shapeD d h rs)):=by
 obtain ⟨iI,cn,a2,a3,a4⟩:=info_parts Tryz.infoInt;have fk:=mm Tryz.prog;have e9:=callTurnS;have HG:=ae g;have eb:=ae hs;obtain ⟨aW,cW,aO,cO,aC,cC,aS,cS,aF,cF,aN,cN,aT,cT,rfl,rfl,rfl,rfl,rfl,rfl,rfl⟩:=g.agg;obtain ⟨aR,cR,rfl,-,el,-⟩:=hs;unfold maxLen at el;have fe:=g.le;clear g;obtain ⟨W0,c3,bm,cr,k0,k1,k2⟩:=boxes3 w #[.slice aW h.ab.length cW,.int .i64 h.ag,.int .i64 h.old,.int .i64 h.be,.int .i64 h.ar,.slice aO h.am.length cO,.int .i64 h.next] #[.slice aC d.aj.length cC,.slice aS d.ax.length cS,.slice aF d.fields.length cF,.slice aN d.names.length cN,.slice aT d.aq.length cT] #[.slice none 0 0] 24 36 22;have x0:Sh (w.heap.size+1+1) W0 (w.heap.size+1+1) (.slice none 0 0) (.slice none 0 0) ⟨[],[]⟩:=⟨⟨k2,World.ownsRow_nil _ _ _ _,nlq _,fun e=>by cases e⟩,World.ownsRow_nil _ _ _ _,(fun e=>by cases e),fun j e=>by cases e⟩;have z:=rt.sized;have z1:=z.ag;have z2:=z.old;have z3:=z.len;have ft:h.ab.length<=100000:=by omega
 have O:=ae rt;have cu:=ae hr;have eg:=ae x0;have d3:=ae bm;have d5:=ae c3;have d8:=ae cr;have ct:=ae (And.intro k0 k1);have ca:Hid (∀V,Below (w.heap.size+1+1) W0 V->Hd B V (.slice aW h.ab.length cW) (.slice aO h.am.length cO) (.slice aC d.aj.length cC) (.slice aS d.ax.length cS) (.slice aF d.fields.length cF) (.slice aN d.names.length cN) (.slice aT d.aq.length cT) h d):=fun V hV=>HG.out.below ((bm.trans (hV.mono (by omega))).mono (by omega));have ec:Hid (∀V,Below (w.heap.size+1+1) W0 V->SL 1 RI (· <B) V (.slice aR rs.length cR) rs):=fun V hV=>eb.out.keptI (Kp.below ((bm.trans (hV.mono (by omega))).mono (by omega)));clear k0 k1 k2 x0 bm c3 cr rt hr z z1 z2 z3;go_enter Tryz.func90,Tryz.ntmps90;go_wp2_with fail;rw [<-d5.out];go_loopw [8,10] (fun vt i wr=>∃(k:Nat) (vo:Value),i=.int .i64 k/\k<=rs.length/\Hid (Sh (w.heap.size+1+1) wr (w.heap.size+1+1) vo vt ((rs.take k).foldl ShS.turn ⟨[],[]⟩)/\Below (w.heap.size+1+1) W0 wr)) (fun _ i _=>rs.length - (intOf i).toNat)
 case atStart=>exact ⟨0,_,rfl,n0q _,eg.out,br _ _⟩
 case round=>
  obtain ⟨k,vo,rfl,hk,HI⟩:=hrel;have cr:=d8.out;have ds:=HI.out.2.size;by_cases c8:k<rs.length
  ·obtain ⟨Y,W⟩:=HI.out;obtain ⟨bR,off,rfl,e8,e0⟩:=(ec.out wr W).atI k c8;have gg:=ShG.roots (ts:=ts) (rs.take k) (s0:=⟨[],[]⟩) (s:=⟨[],[]⟩) (n:=0) ⟨List.nodup_nil,fun v hv=>(by cases hv),⟨[],rfl⟩,rfl⟩ fun v hv=>cu.out v (List.mem_of_mem_take hv);have eu:=zzw O.out gg.nd gg.sub;have dk:((rs.take k).foldl ShS.turn ⟨[],[]⟩).out.length<=1000000:=by
    have h1:((rs.take k).foldl ShS.turn ⟨[],[]⟩).out.length=0+(0+(rs.take k).length):=gg.out;rw [List.length_take]at h1;omega
   have a9:=ae (zv4 ShS.turn rs ⟨[],[]⟩ k c8);generalize (rs.take k).foldl ShS.turn ⟨[],[]⟩=s at*;have av:=ae (zzq wr (w.heap.size+1+1) (w.heap.size+1+1) vo _ Y.bx (by omega) rs[k]);obtain ⟨bh,bi,rfl⟩:=kh Y.row;have N:=ae Y;have Z:=ae W;generalize rs[k]=v at*;clear gg Y W HI;go_wp2_with fail;refine av.out.mono ?_;rintro r w5 ⟨rfl,a6,x5,m5⟩;have a5:=N.out.turned x5 m5;have ak:Below (w.heap.size+1+1) W0 w5:=Z.out.trans (N.out.bx.bel m5 (by omega));have af:=ae a5;have b7:=ae ak;obtain ⟨E,J⟩:∃E,s.out=E:=⟨_,rfl⟩;have cv:Hid ((rs.take (k+1)).foldl ShS.turn ⟨[],[]⟩=⟨shT s.met v,E++ [shN s.met v]⟩):=by rw [a9.out,<-J];rfl
   rw [J]at af dk;have ac:=ae af.out.row;have en:=ak.size;have L:Hid (E.length+1<=maxLen/\(E.length+1)*8<=140737488355328/\w.heap.size+1+1<=(w5.alloc (.cells #[.int .i64 (shN s.met v)] 3)).heap.size):=⟨by unfold maxLen;omega,by omega,by simp;omega⟩;rw [J];generalize shN s.met v=nv at*;clear x5 m5 a5 ak av N Z e0 J a9;go_wp2_with (at_builtin;refine wpList_append_lies _ rfl _ _ 22 rfl (w.heap.size+1+1) 3 iI (.int .i64 0) 1 8 Tryz.underlying22 cn a2 a3 a4 rfl (by decide) (.slice bh E.length bi) E.length (b8 E) rfl (ac.out.alloc _) ⟨w5.heap.size,0,none⟩ 1 1 [.int .i64 nv] rfl rfl (World.news_of_block (heap_alloc_new w5 _)) (by intro u hu;simp at hu;subst hu;rfl) (by omega) L.out.1 L.out.2.1 L.out.2.2 _ rfl ?_);intro gA cA w3 I G ah a1;have X:Below w5.heap.size w5 (w5.alloc (.cells #[.int .i64 nv] 3)):=(br _ _).alloc (nlq _) _;have sA:=af.out.below X;have s3:=sA.told (l:=[nv]) (vt':=.slice (some ⟨gA,0,none⟩) (E.length+1) cA) G (by
    show w3.ownsRow _ 3 1 (.slice (some ⟨gA,0,none⟩) (E.length+1) cA) (E++ [nv]).length (b8 (E++ [nv]));rw [List.length_append,zhs];exact I) (ah.elim (fun q=>Or.inl q.symm) fun q=>Or.inr ⟨gA,rfl,by simp;omega⟩)
   have ai:Below (w.heap.size+1+1) W0 w3:=b7.out.trans ((X.mono (by have:=bk af.out.bx.blk;omega)).trans (sA.bel G));have HF:Hid (Sh (w.heap.size+1+1) w3 (w.heap.size+1+1) a6 (.slice (some ⟨gA,0,none⟩) (E.length+1) cA) ((rs.take (k+1)).foldl ShS.turn ⟨[],[]⟩)/\Below (w.heap.size+1+1) W0 w3):=⟨by rw [cv.out];exact s3,ai⟩;clear I G ah X sA s3 ai ac L;go_wp2_with fail;go_roundw
   case rel=>exact ⟨k+1,a6,by go_num,by omega,HF.out⟩
   case measure=>simp [intOf];omega
  obtain rfl:k=rs.length:=by omega
  have cj:=HI.out;rw [List.take_length]at cj;have ce:=ae cj;clear HI cj ds;go_wp2_with fail;go_loopw [8,11] (fun vt i wr=>∃(k:Nat) (vo:Value) (s:ShS),i=.int .i64 k/\k<=h.ab.length/\Hid (Sh (w.heap.size+1+1) wr (w.heap.size+1+1) vo vt s/\ShI d h ts rs k s/\Below (w.heap.size+1+1) W0 wr)) (fun _ i _=>h.ab.length+1 - (intOf i).toNat)
  case atStart=>exact ⟨0,vo,_,rfl,n0q _,ce.out.1,ShI.start cu.out,ce.out.2⟩
  case round=>
   obtain ⟨k,gs,s,rfl,fi,HI⟩:=hrel;clear ce;obtain ⟨wq,eo⟩:∃wq,wq=wr:=⟨_,rfl⟩;subst eo;obtain ⟨Y,hI,W⟩:=HI.out;have ds:=W.size;obtain ⟨fl,dk⟩:=hI.small O.out;obtain ⟨aP,c2,rfl⟩:=kh Y.bx.row;have p0:=aw Y.bx.blk 0 (x:=.slice aP s.met.length c2) rfl;have lP:=bk Y.bx.blk;by_cases al:k<s.met.length
   ·obtain ⟨gO,ek⟩:∃gO,aP=some ⟨gO,0,none⟩:=by
     rcases Y.bx.row.2 with ⟨e,h0⟩ | ⟨g,cap,e6,e,-⟩
     ·omega
     injection e with e1;exact ⟨g,e1⟩
    subst ek;have cp:s.met[k]? =some s.met[k]:=List.getElem?_eq_getElem al;obtain ⟨t,ht,cs⟩:=hI.sub _ (gm al);have eh:=zsg O.out.sized O.out.both t ht;obtain ⟨a,ha⟩:∃a:Nat,s.met[k]=(a:Int):=⟨s.met[k].toNat,by omega⟩;have e0:=(Y.bx.row.cellAt k (by rw [Nat.mul_one];exact al)).trans (zmp al);have lO:=(Y.bx.row.lt gO rfl).2;rw [ha]at e0 cs cp;have bu:bj h.ab (a:Int)=t:=by rw [<-cs];exact (th_at O.out ht).symm
    have cl:lg d (bj h.ab (a:Int)):=by
     rw [bu];by_cases hy:t.loc<=h.ag
     ·exact (zuv O.out ht hy).fit
     exact (zu7 O.out ht (by omega)).2.2.2.1
    have ej:(bj h.ab (a:Int)).fin<=h.ab.length:=by rw [bu];omega
    have ei:(bj h.ab (a:Int)).fin=(a:Int)+3+(bj h.ab (a:Int)).len:=rfl;have fa:=cl.lo;obtain ⟨co,fo⟩:=hI.next O.out cp;have ey:=(co.small O.out).2;have a9:=ae co;have d6:=ae cl;have ee:Hid (bj h.ab (a:Int)∈ts):=by rw [bu];exact ht
    have du:h.ab[a]'(by omega)=(bj h.ab (a:Int)).tag:=(mw (by omega)).symm;have c7:h.ab[a+1]'(by omega)=(bj h.ab (a:Int)).len:=by show _=wd h.ab ((a:Int)+1);rw [show (a:Int)+1=((a+1:Nat):Int) by omega];exact (mw (by omega)).symm
    have c6:h.ab[a+2]'(by omega)=(bj h.ab (a:Int)).hash:=by show _=wd h.ab ((a:Int)+2);rw [show (a:Int)+2=((a+2:Nat):Int) by omega];exact (mw (by omega)).symm
    obtain ⟨bW,oW,rfl,c4,-⟩:=atIm (ca.out wq W).sW a (by omega);have bf:Hid (∀V,Below (w.heap.size+1+1) W0 V->∀m:Nat,m<h.ab.length->V.cell? ⟨bW,oW+m,none⟩=some (.int .i64 (wd h.ab m))):=fun V hV m hm=>by obtain ⟨b1,o1,q1,-,-,q2⟩:=atIm (ca.out V hV).sW m hm;cases q1;rw [mw hm];exact q2
    have cc:Hid (∀V,Below (w.heap.size+1+1) W0 V->V.heap[w.heap.size]? =_/\V.heap[w.heap.size+1]? =_):=fun V hV=>⟨(hV.block _ (by omega:w.heap.size<w.heap.size+1+1)).trans ct.out.1,(hV.block _ (by omega:w.heap.size+1<w.heap.size+1+1)).trans ct.out.2⟩;have er:bW<w.heap.size+1+1:=by have h:bW<B:=c4;omega
    have c1:Hid (∀V,Below (w.heap.size+1+1) W0 V->V.cell? ⟨bW,oW+a,none⟩=some (.int .i64 (bj h.ab (a:Int)).tag)/\V.cell? ⟨bW,oW+(a+1),none⟩=some (.int .i64 (bj h.ab (a:Int)).len)/\V.cell? ⟨bW,oW+(a+2),none⟩=some (.int .i64 (bj h.ab (a:Int)).hash)):=fun V hV=>by have q0:=bf.out V hV a (by omega);have q1:=bf.out V hV (a+1) (by omega);have q2:=bf.out V hV (a+2) (by omega);rw [mw (by omega)]at q0 q1 q2;rw [du]at q0;rw [c7]at q1;rw [c6]at q2;exact ⟨q0,q1,q2⟩
    obtain ⟨t0,t1,t2⟩:=c1.out wq W;have c0:=aw (cc.out wq W).1 0 (x:=.slice (some ⟨bW,oW,none⟩) h.ab.length cW) rfl;obtain ⟨bh,bi,rfl⟩:=kh Y.row;have N:=ae Y;have Z:=ae W;have w1:IntKind.i64.wrap ((a:Int)+1)=(a:Int)+1:=fy _ (by omega) (by omega);have w2:IntKind.i64.wrap ((a:Int)+2)=(a:Int)+2:=fy _ (by omega) (by omega);have w3:IntKind.i64.wrap ((a:Int)+3)=(a:Int)+3:=fy _ (by omega) (by omega);have fz:(0:Int)<=a:=by omega
    have f1:(a:Int)<h.ab.length:=by omega
    have f2:(0:Int)<=(a:Int)+1:=by omega
    have f3:(a:Int)+1<h.ab.length:=by omega
    have f4:(0:Int)<=(a:Int)+2:=by omega
    have f5:(a:Int)+2<h.ab.length:=by omega
    have f6:((a:Int)+1).toNat=a+1:=by omega
    have f7:((a:Int)+2).toNat=a+2:=by omega
    have lB:w.heap.size<w.heap.size+1+1:=by omega
    have gb:w.heap.size+1<w.heap.size+1+1:=by omega
    have e7:w.heap.size+1+1<=wq.heap.size:=by omega
    have fj:(a:Int)+3+(bj h.ab (a:Int)).len<=h.ab.length:=by omega
    have cf:Hid ((bj h.ab (a:Int)).len.toNat=(bj h.ab (a:Int)).len):=by show (((bj h.ab (a:Int)).len.toNat:Nat):Int)=_;omega
    have cy:=ae (And.intro hI.nd hI.sub);clear hI Y W HI eh cs bu cl co cp ht du c7 c6 ej ei ha;go_wp2_with fail;refine wp_region_held_drew (S:=fun W'=>∀p:Addr,p.block<w.heap.size+1+1->W'.cell? p=wq.cell? p) (by kernel_rfl) (fun p hp=>rfl) fun D=>?_;refine ta 0 (.slice bh s.out.length bi) rfl D ?_;refine ta 1 (.pointer (some ⟨w.heap.size,0,none⟩)) rfl D ?_;refine ta 2 (.slice (some ⟨bW,oW,none⟩) h.ab.length cW) rfl D ?_;refine ta 3 (.int .i64 (a:Int)) rfl D ?_;refine ta 4 (.pointer (some ⟨bW,oW+a,none⟩)) rfl D ?_;refine ta 5 (.int .i64 (bj h.ab (a:Int)).tag) rfl D ?_;refine ta 6 (.pointer (some ⟨w.heap.size,0,none⟩)) rfl D ?_;refine ta 7 (.slice (some ⟨bW,oW,none⟩) h.ab.length cW) rfl D ?_;refine ta 8 (.int .i64 (a:Int)) rfl D ?_;refine ta 9 (.int .i64 ((a:Int)+1)) rfl D ?_;refine ta 10 (.pointer (some ⟨bW,oW+(a+1),none⟩)) rfl D ?_;refine ta 11 (.int .i64 (bj h.ab (a:Int)).len) rfl D ?_;refine ta 12 (.pointer (some ⟨w.heap.size,0,none⟩)) rfl D ?_;refine ta 13 (.slice (some ⟨bW,oW,none⟩) h.ab.length cW) rfl D ?_;refine ta 14 (.int .i64 (a:Int)) rfl D ?_;refine ta 15 (.int .i64 ((a:Int)+2)) rfl D ?_;refine ta 16 (.pointer (some ⟨bW,oW+(a+2),none⟩)) rfl D ?_;refine ta 17 (.int .i64 (bj h.ab (a:Int)).hash) rfl D ?_;refine wpAnyH_ready (rs:=[18]) (by kernel_rfl) (by simp) ?_;refine AllReadyH.cons rfl (fun e4 bw=>?_) AllReadyH.nil;go_simp;obtain ⟨V1,bn⟩:∃V1,V1=(wq.alloc (.cells #[.int .i64 (bj h.ab (a:Int)).tag,.int .i64 (bj h.ab (a:Int)).len,.int .i64 (bj h.ab (a:Int)).hash] 3)).drew:=⟨_,rfl⟩;rw [<-bn];have bs:V1.heap[wq.heap.size]? =some (.cells #[.int .i64 (bj h.ab (a:Int)).tag,.int .i64 (bj h.ab (a:Int)).len,.int .i64 (bj h.ab (a:Int)).hash] 3 (0,0)):=bn ▸ heap_alloc_new wq _;have aa:Below wq.heap.size wq V1:=bn ▸ ((br _ wq).alloc (nlq _) _).drew;have es:=bk bs;have d1:SL 1 RI (· <V1.heap.size) V1 (.slice (some ⟨wq.heap.size,0,none⟩) 3 3) [(bj h.ab (a:Int)).tag,(bj h.ab (a:Int)).len,(bj h.ab (a:Int)).hash]:=(zfb (zsx (n:=3) (cap:=3) bs (nlq wq.heap.size) rfl (nlq _) (by unfold maxLen;omega) rfl (fun i u hi=>by rw [zsw bs];simpa [b8]using hi)) (by simp)).monoI fun j hj=>hj.lt;refine bw.out _ _ (fun p hp=>aa.cell (by omega)) fun D=>?_;refine wpAnyH_ready (rs:=[19]) (by kernel_rfl) (by simp) ?_;refine AllReadyH.cons rfl (fun e5 bz=>?_) AllReadyH.nil;refine zrr V1 rfl (.tmp 41) (.tmp 59) rfl (w.heap.size+1+1) (.slice bh s.out.length bi) s.out rfl (kv N.out.row aa) (· <V1.heap.size) (.slice (some ⟨wq.heap.size,0,none⟩) 3 3) [(bj h.ab (a:Int)).tag,(bj h.ab (a:Int)).len,(bj h.ab (a:Int)).hash] rfl d1 (by simp;omega) (by omega) ?_;intro v8 V2 dg cm dz;have a0:Below (w.heap.size+1+1) wq V2:=(aa.mono (by omega)).trans ((N.out.below aa).bel cm);refine bz.out _ _ (fun p hp=>a0.cell hp) fun D=>?_;have d2:Sh (w.heap.size+1+1) V2 (w.heap.size+1+1) (.slice (some ⟨gO,0,none⟩) s.met.length c2) v8 ⟨s.met,s.out++ [(bj h.ab (a:Int)).tag,(bj h.ab (a:Int)).len,(bj h.ab (a:Int)).hash]⟩:=(N.out.below aa).told cm dg (dz.imp id fun e=>⟨_,e,nlq _⟩);have ea:=ae d2;have d4:=ae (Z.out.trans a0);refine ta 20 (v8) rfl D ?_;refine wpAnyH_done (by kernel_rfl) ?_ _;clear D bw bz dg cm dz a0 d1 bs aa bn d2;try simp only [Act.put,p1q,p4q,p3q,p2q,p5q,p6q]
    clear N Z e0 lO c0 t0 t1 t2 p0 lP;generalize htl:(bj h.ab (a:Int)).len.toNat=tn at*;have ez:s.out.length+3+tn<=rs.length+h.ab.length:=by omega
    have bc:=ae htl;clear htl;go_wp2_with fail;go_loopw [8,13] (fun vt i wr=>∃(n:Nat) (vo:Value),i=.int .i64 n/\n<=tn/\Hid (Sh (w.heap.size+1+1) wr (w.heap.size+1+1) vo vt ((List.range n).foldl (ShS.word d h.ab (bj h.ab (a:Int))) ⟨s.met,s.out++ [(bj h.ab (a:Int)).tag,(bj h.ab (a:Int)).len,(bj h.ab (a:Int)).hash]⟩)/\Below (w.heap.size+1+1) W0 wr)) (fun _ i _=>tn - (intOf i).toNat)
    case atStart=>exact ⟨0,_,rfl,n0q _,ea.out,d4.out⟩
    case round=>
     obtain ⟨n,au,rfl,hn,HJ⟩:=hrel;obtain ⟨A,d0⟩:∃A,A=wr:=⟨_,rfl⟩;subst d0;obtain ⟨Y,W⟩:=HJ.out;have e3:=W.size;obtain ⟨t0,t1,-⟩:=c1.out A W;have j0:=(cc.out A W).1;have c0:=aw j0 0 (x:=.slice (some ⟨bW,oW,none⟩) h.ab.length cW) rfl;have gl:=bk j0;have eq:bW<A.heap.size:=by omega
     by_cases a1:n<tn
     ·have c9:(n:Int)<(bj h.ab (a:Int)).len:=by have:=cf.out;have:=bc.out;omega
      have gg:=ShG.ab O.out ee.out (List.range n) (s0:=s) (s:=⟨s.met,s.out++ [(bj h.ab (a:Int)).tag,(bj h.ab (a:Int)).len,(bj h.ab (a:Int)).hash]⟩) (n:=3) ⟨cy.out.1,cy.out.2,⟨[],(List.append_nil _).symm⟩,by rw [List.length_append];rfl⟩ (fun j hj=>by have:=List.mem_range.1 hj;omega);have ex:=zzw O.out gg.nd gg.sub;have dl:((List.range n).foldl (ShS.word d h.ab (bj h.ab (a:Int))) ⟨s.met,s.out++ [(bj h.ab (a:Int)).tag,(bj h.ab (a:Int)).len,(bj h.ab (a:Int)).hash]⟩).out.length<=s.out.length+3+tn:=by have h1:=gg.out;rw [List.length_range]at h1;omega
      have b6:((List.range (n+1)).foldl (ShS.word d h.ab (bj h.ab (a:Int))) ⟨s.met,s.out++ [(bj h.ab (a:Int)).tag,(bj h.ab (a:Int)).len,(bj h.ab (a:Int)).hash]⟩)=ShS.word d h.ab (bj h.ab (a:Int)) ((List.range n).foldl (ShS.word d h.ab (bj h.ab (a:Int))) ⟨s.met,s.out++ [(bj h.ab (a:Int)).tag,(bj h.ab (a:Int)).len,(bj h.ab (a:Int)).hash]⟩) n:=by rw [List.range_succ,List.foldl_append];rfl
      have s3:=bf.out A W (a+3+n) (by omega);have ao:=ae (fun V (hV:Below A.heap.size A V)=>zky V B _ _ _ _ _ d (ca.out V (W.trans (hV.mono (by omega)))).lk (bj h.ab (a:Int)) d6.out n c9);have ef:Hid (wd h.ab ((bj h.ab (a:Int)).loc+3+n)=wd h.ab ((a+3+n:Nat):Int)):=by show wd h.ab ((a:Int)+3+n)=_;rw [show (a:Int)+3+(n:Int)=((a+3+n:Nat):Int) by omega]
      generalize ((List.range n).foldl (ShS.word d h.ab (bj h.ab (a:Int))) ⟨s.met,s.out++ [(bj h.ab (a:Int)).tag,(bj h.ab (a:Int)).len,(bj h.ab (a:Int)).hash]⟩)=u at*;have w4:IntKind.i64.wrap ((a:Int)+3+n)=(a:Int)+3+n:=fy _ (by omega) (by omega);have f8:(0:Int)<=(a:Int)+3+n:=by omega
      have f9:(a:Int)+3+n<h.ab.length:=by omega
      have f0:((a:Int)+3+n).toNat=a+3+n:=by omega
      have q7:decide ((n:Int)<(bj h.ab (a:Int)).len)=true:=decide_eq_true c9;obtain ⟨b0,b1,b2,b3,b4,bl⟩:=cells5 (cc.out A W).2;obtain ⟨ch,ci,rfl⟩:=kh Y.row;obtain ⟨E,J⟩:∃E,u.out=E:=⟨_,rfl⟩;rw [J]at dl;have N:Hid (Sh (w.heap.size+1+1) A (w.heap.size+1+1) au (.slice ch E.length ci) ⟨u.met,E⟩):=by rw [<-J];exact Y
      have Z:=ae W;have a8:Hid (ShS.word d h.ab (bj h.ab (a:Int)) u n=if je d.fields (bj h.ab (a:Int)) n then ⟨shT u.met (wd h.ab ((a+3+n:Nat):Int)),E++ [shN u.met (wd h.ab ((a+3+n:Nat):Int))]⟩ else ⟨u.met,E++ [wd h.ab ((a+3+n:Nat):Int)]⟩):=by show _=_;unfold ShS.word;rw [ef.out,<-J];rfl
      have cx:=ae b6;generalize wd h.ab ((a+3+n:Nat):Int)=v at*;clear gg Y W HJ b6 j0;have an:Hid (Below A.heap.size A A.drew):=(br _ _).drew;rw [J];clear J;cases hrf:je d.fields (bj h.ab (a:Int)) n with
      | true=>
        rw [hrf]at ao a8;clear hrf;go_wp2_with fail;refine wp_region_held_drew (S:=fun W'=>∀p:Addr,p.block<A.heap.size->W'.cell? p=A.cell? p) (by kernel_rfl) (fun p hp=>rfl) fun D=>?_;refine ta 0 (.agg #[.slice aC d.aj.length cC,.slice aS d.ax.length cS,.slice aF d.fields.length cF,.slice aN d.names.length cN,.slice aT d.aq.length cT]) rfl D ?_;refine ta 1 (.pointer (some ⟨w.heap.size,0,none⟩)) rfl D ?_;refine ta 2 (.slice (some ⟨bW,oW,none⟩) h.ab.length cW) rfl D ?_;refine ta 3 (.int .i64 (a:Int)) rfl D ?_;refine ta 4 (.pointer (some ⟨bW,oW+a,none⟩)) rfl D ?_;refine ta 5 (.int .i64 (bj h.ab (a:Int)).tag) rfl D ?_;refine ta 6 (.int .i64 (n:Int)) rfl D ?_;refine wpAnyH_ready (rs:=[7]) (by kernel_rfl) (by simp) ?_;refine AllReadyH.cons rfl (fun K7 ay=>?_) AllReadyH.nil;go_simp;refine (ao.out _ an.out).mono ?_;rintro r w2 ⟨rfl,az⟩;have F:Below A.heap.size A w2:=an.out.trans az;refine ay.out _ _ (fun p hp=>F.cell hp) fun D=>?_;refine wpAnyH_done (by kernel_rfl) ?_ _;clear D ay;try simp only [Act.put,p1q,p4q,p3q,p2q,p5q,p6q]
        have em:=F.size;have ad:=ae (N.out.below F);have a7:Hid (Below (w.heap.size+1+1) W0 w2):=Z.out.trans (F.mono (by omega));clear az F ao an N Z t0 t1 c0 s3 b0 b1 b2 b3 b4 bl;have av:=ae (zzq w2 (w.heap.size+1+1) (w.heap.size+1+1) au _ ad.out.bx (by show u.met.length<=_;omega) v);go_wp2_with fail;refine av.out.mono ?_;rintro r w5 ⟨rfl,a6,x5,m5⟩;have a5:=ad.out.turned x5 m5;have ak:Below (w.heap.size+1+1) W0 w5:=a7.out.trans (ad.out.bx.bel m5 (by omega));have af:=ae a5;have b7:=ae ak;have ac:=ae af.out.row;have en:=ak.size;have L:Hid (E.length+1<=maxLen/\(E.length+1)*8<=140737488355328/\w.heap.size+1+1<=(w5.alloc (.cells #[.int .i64 (shN u.met v)] 3)).heap.size):=⟨by unfold maxLen;omega,by omega,by simp;omega⟩;generalize shN u.met v=nv at*;clear x5 m5 a5 ak av ad a7;go_wp2_with (at_builtin;refine wpList_append_lies _ rfl _ _ 22 rfl (w.heap.size+1+1) 3 iI (.int .i64 0) 1 8 Tryz.underlying22 cn a2 a3 a4 rfl (by decide) (.slice ch E.length ci) E.length (b8 E) rfl (ac.out.alloc _) ⟨w5.heap.size,0,none⟩ 1 1 [.int .i64 nv] rfl rfl (World.news_of_block (heap_alloc_new w5 _)) (by intro u hu;simp at hu;subst hu;rfl) (by omega) L.out.1 L.out.2.1 L.out.2.2 _ rfl ?_);intro gA cA w3 I G ah a1;have X:Below w5.heap.size w5 (w5.alloc (.cells #[.int .i64 nv] 3)):=(br _ _).alloc (nlq _) _;have sA:=af.out.below X;have s3:=sA.told (l:=[nv]) (vt':=.slice (some ⟨gA,0,none⟩) (E.length+1) cA) G (by
         show w3.ownsRow _ 3 1 (.slice (some ⟨gA,0,none⟩) (E.length+1) cA) (E++ [nv]).length (b8 (E++ [nv]));rw [List.length_append,zhs];exact I) (ah.elim (fun q=>Or.inl q.symm) fun q=>Or.inr ⟨gA,rfl,by simp;omega⟩)
        have ai:Below (w.heap.size+1+1) W0 w3:=b7.out.trans ((X.mono (by have:=bk af.out.bx.blk;omega)).trans (sA.bel G));have HF:Hid (Sh (w.heap.size+1+1) w3 (w.heap.size+1+1) a6 (.slice (some ⟨gA,0,none⟩) (E.length+1) cA) ((List.range (n+1)).foldl (ShS.word d h.ab (bj h.ab (a:Int))) ⟨s.met,s.out++ [(bj h.ab (a:Int)).tag,(bj h.ab (a:Int)).len,(bj h.ab (a:Int)).hash]⟩)/\Below (w.heap.size+1+1) W0 w3):=⟨by rw [cx.out,a8.out,if_pos trivial];exact s3,ai⟩;clear I G ah X sA s3 ai ac L;go_wp2_with fail;go_roundw
        case rel=>exact ⟨n+1,a6,by go_num,by omega,HF.out⟩
        case measure=>simp [intOf];omega
      | false=>
        rw [hrf]at ao a8;clear hrf;go_wp2_with fail;refine wp_region_held_drew (S:=fun W'=>∀p:Addr,p.block<A.heap.size->W'.cell? p=A.cell? p) (by kernel_rfl) (fun p hp=>rfl) fun D=>?_;refine ta 0 (.agg #[.slice aC d.aj.length cC,.slice aS d.ax.length cS,.slice aF d.fields.length cF,.slice aN d.names.length cN,.slice aT d.aq.length cT]) rfl D ?_;refine ta 1 (.pointer (some ⟨w.heap.size,0,none⟩)) rfl D ?_;refine ta 2 (.slice (some ⟨bW,oW,none⟩) h.ab.length cW) rfl D ?_;refine ta 3 (.int .i64 (a:Int)) rfl D ?_;refine ta 4 (.pointer (some ⟨bW,oW+a,none⟩)) rfl D ?_;refine ta 5 (.int .i64 (bj h.ab (a:Int)).tag) rfl D ?_;refine ta 6 (.int .i64 (n:Int)) rfl D ?_;refine wpAnyH_ready (rs:=[7]) (by kernel_rfl) (by simp) ?_;refine AllReadyH.cons rfl (fun K7 ay=>?_) AllReadyH.nil;go_simp;refine (ao.out _ an.out).mono ?_;rintro r w2 ⟨rfl,az⟩;have F:Below A.heap.size A w2:=an.out.trans az;refine ay.out _ _ (fun p hp=>F.cell hp) fun D=>?_;refine wpAnyH_done (by kernel_rfl) ?_ _;clear D ay;try simp only [Act.put,p1q,p4q,p3q,p2q,p5q,p6q]
        have em:=F.size;have ad:=ae (N.out.below F);have a7:Hid (Below (w.heap.size+1+1) W0 w2):=Z.out.trans (F.mono (by omega));clear az F ao an N Z t0 t1 c0 s3 b0 b1 b2 b3 b4 bl;have ac:=ae ad.out.row;have e2:w.heap.size+1+1<=w2.heap.size:=by omega
        have L:Hid (E.length+1<=maxLen/\(E.length+1)*8<=140737488355328/\w.heap.size+1+1<=(w2.alloc (.cells #[.int .i64 v] 3)).heap.size):=⟨by unfold maxLen;omega,by omega,by simp;omega⟩;go_wp2_with (at_builtin;refine wpList_append_lies _ rfl _ _ 22 rfl (w.heap.size+1+1) 3 iI (.int .i64 0) 1 8 Tryz.underlying22 cn a2 a3 a4 rfl (by decide) (.slice ch E.length ci) E.length (b8 E) rfl (ac.out.alloc _) ⟨w2.heap.size,0,none⟩ 1 1 [.int .i64 v] rfl rfl (World.news_of_block (heap_alloc_new w2 _)) (by intro u hu;simp at hu;subst hu;rfl) (by omega) L.out.1 L.out.2.1 L.out.2.2 _ rfl ?_);intro gA cA w3 I G ah a1;have X:Below w2.heap.size w2 (w2.alloc (.cells #[.int .i64 v] 3)):=(br _ _).alloc (nlq _) _;have sA:=ad.out.below X;have s3:=sA.told (l:=[v]) (vt':=.slice (some ⟨gA,0,none⟩) (E.length+1) cA) G (by
         show w3.ownsRow _ 3 1 (.slice (some ⟨gA,0,none⟩) (E.length+1) cA) (E++ [v]).length (b8 (E++ [v]));rw [List.length_append,zhs];exact I) (ah.elim (fun q=>Or.inl q.symm) fun q=>Or.inr ⟨gA,rfl,by simp;omega⟩)
        have ai:Below (w.heap.size+1+1) W0 w3:=a7.out.trans ((X.mono (by have:=bk ad.out.bx.blk;omega)).trans (sA.bel G));have HF:Hid (Sh (w.heap.size+1+1) w3 (w.heap.size+1+1) au (.slice (some ⟨gA,0,none⟩) (E.length+1) cA) ((List.range (n+1)).foldl (ShS.word d h.ab (bj h.ab (a:Int))) ⟨s.met,s.out++ [(bj h.ab (a:Int)).tag,(bj h.ab (a:Int)).len,(bj h.ab (a:Int)).hash]⟩)/\Below (w.heap.size+1+1) W0 w3):=⟨by rw [cx.out,a8.out,if_neg (by simp)];exact s3,ai⟩;clear I G ah X sA s3 ai ac L;go_wp2_with fail;go_roundw
        case rel=>exact ⟨n+1,au,by go_num,by omega,HF.out⟩
        case measure=>simp [intOf];omega
     have dd:n=tn:=by omega
     have b5:((List.range n).foldl (ShS.word d h.ab (bj h.ab (a:Int))) ⟨s.met,s.out++ [(bj h.ab (a:Int)).tag,(bj h.ab (a:Int)).len,(bj h.ab (a:Int)).hash]⟩)=s.thing d h.ab (a:Int):=by unfold ShS.thing;rw [bc.out,dd]
     have HF:Hid (Sh (w.heap.size+1+1) A (w.heap.size+1+1) au _ (s.thing d h.ab (a:Int))/\ShI d h ts rs (k+1) (s.thing d h.ab (a:Int))/\Below (w.heap.size+1+1) W0 A):=⟨b5 ▸ Y,a9.out,W⟩;have q7:decide ((n:Int)<(bj h.ab (a:Int)).len)=false:=decide_eq_false (by have:=cf.out;have:=bc.out;omega);have q8:¬(n:Int)<(bj h.ab (a:Int)).len:=by have:=cf.out;have:=bc.out;omega
     clear b5 Y W HJ j0 dd;go_wp2_with fail;go_roundw
     case rel=>exact ⟨k+1,au,_,by go_num,by omega,HF.out⟩
     case measure=>simp [intOf];omega
   have c5:=hI.done (by omega);have HF:Hid (Below w.heap.size w wq/\wq.ownsRow w.heap.size 3 1 _ (shapeD d h rs).length (b8 (shapeD d h rs))):=⟨d3.out.trans (W.mono (by omega)),by rw [<-c5];exact zhp Y.row (by omega)⟩;clear Y hI W HI c5;go_wp2_with fail;go_ret;exact ⟨HF.out.1,_,rfl,HF.out.2⟩
theorem zzy {d:bd} {h:bb} {ts:List bp} (r:Right d h ts) {rs:List Int} (D:∀v∈rs,dh ts v=true):(shapeD d h rs).length<=rs.length+h.ab.length:=by
 have A:∀(f k:Nat) (s:ShS),ShI d h ts rs k s->(ShS.all d h.ab f k s).out.length<=rs.length+h.ab.length:=by
  intro f;induction f with
  | zero=>intro k s i;exact (i.small r).2
  | succ f ih=>
    intro k s i;rw [ShS.all];cases ha:s.met[k]? with
    | none=>exact (i.small r).2
    | some a=>exact ih (k+1) _ (i.next r ha).1
 exact A _ 0 _ (ShI.start D)
theorem zzz {ts:List bp} {rs:List Int} (h1:rs.length<=1000) (A:∀v∈rs,dh ts v=true):jg ts rs=0:=by
 unfold jg;rw [decide_eq_true (by omega:(rs.length:Int)<=1000),if_pos rfl];have:(rs.any fun x=>!dh ts x)=false:=List.any_eq_false.2 fun v D=>by rw [A v D];simp
 rw [this];rfl
theorem zz0 (w:World) (B:Nat) (vW vO kC kS kF kN kT xW xO:Value) (h x:bb) (d:bd) (g:Hd B w vW vO kC kS kF kN kT h d) (aa:Hd B w xW xO kC kS kF kN kT x d) (ts tx:List bp) (rt:Right d h ts) (rx:Right d x tx) (bu:x.next<=9223372036854775807) (vR:Value) (rs:List Int) (hs:SL 1 RI (· <B) w vR rs) (hr:∀v∈rs,dh ts v=true) (cr:rs.length<=1000) (vM:Value) (F:List Int) (hm:SL 1 RI (· <B) w vM F) (an:∀v∈F,dh tx v=true) (bs:F.length=rs.length) (bw:shapeD d x F=shapeD d h rs):
 Calls Tryz.prog 39 #[.agg #[vW,.int .i64 h.ag,.int .i64 h.old,.int .i64 h.be,.int .i64 h.ar,vO,.int .i64 h.next],.agg #[kC,kS,kF,kN,kT],vR,.agg #[xW,.int .i64 x.ag,.int .i64 x.old,.int .i64 x.be,.int .i64 x.ar,xO,.int .i64 x.next],vM] w fun r w'=>r=.returned (.bool true)/\Below w.heap.size w w':=by
 have HG:=ae g;have b6:=ae aa;have ce:=ae hs;have ca:=ae hm;obtain ⟨aW,cW,aO,cO,O,cC,Y,cS,W,cF,X,cN,Z,cT,rfl,rfl,rfl,rfl,rfl,rfl,rfl⟩:=g.agg;obtain ⟨aX,cX,rfl,-⟩:=aa.sW;obtain ⟨aQ,cQ,rfl,-⟩:=aa.sO;obtain ⟨aR,cR,rfl,-⟩:=hs;obtain ⟨aM,cM,rfl,-⟩:=hm;have co:=g.le;clear g aa;obtain ⟨D,bh,ac,ci,k0,k1,k2⟩:=boxes3 w #[.slice aW h.ab.length cW,.int .i64 h.ag,.int .i64 h.old,.int .i64 h.be,.int .i64 h.ar,.slice aO h.am.length cO,.int .i64 h.next] #[.slice O d.aj.length cC,.slice Y d.ax.length cS,.slice W d.fields.length cF,.slice X d.names.length cN,.slice Z d.aq.length cT] #[.slice aX x.ab.length cX,.int .i64 x.ag,.int .i64 x.old,.int .i64 x.be,.int .i64 x.ar,.slice aQ x.am.length cQ,.int .i64 x.next] 24 36 24;have cs:=bk k0;have lk1:=bk k1;have lk2:=bk k2;have av:=ae ac;have b5:=ae bh;obtain ⟨a0,a1,a2,a3,a4,a5,a6,az,al⟩:=iu k0;obtain ⟨b0,b1,b2,b3,b4,bl⟩:=cells5 k1;obtain ⟨x0,x1,x2,x3,x4,x5,x6,xz,xl⟩:=iu k2;have E:Hid (∀V,Below D.heap.size D V->Hd B V (.slice aW h.ab.length cW) (.slice aO h.am.length cO) (.slice O d.aj.length cC) (.slice Y d.ax.length cS) (.slice W d.fields.length cF) (.slice X d.names.length cN) (.slice Z d.aq.length cT) h d/\Hd B V (.slice aX x.ab.length cX) (.slice aQ x.am.length cQ) (.slice O d.aj.length cC) (.slice Y d.ax.length cS) (.slice W d.fields.length cF) (.slice X d.names.length cN) (.slice Z d.aq.length cT) x d/\SL 1 RI (· <B) V (.slice aR rs.length cR) rs/\SL 1 RI (· <B) V (.slice aM F.length cM) F):=fun V G=>by have hb:=(ac.trans (G.mono ac.size)).mono HG.out.le;exact ⟨HG.out.below hb,b6.out.below hb,ce.out.keptI (Kp.below hb),ca.out.keptI (Kp.below hb)⟩
 have b7:Hid (∀V,Below D.heap.size D V->Calls Tryz.prog 21 #[.agg #[.slice aX x.ab.length cX,.int .i64 x.ag,.int .i64 x.old,.int .i64 x.be,.int .i64 x.ar,.slice aQ x.am.length cQ,.int .i64 x.next],.agg #[.slice O d.aj.length cC,.slice Y d.ax.length cS,.slice W d.fields.length cF,.slice X d.names.length cN,.slice Z d.aq.length cT]] V fun r w'=>r=.returned (.int .i64 0)/\Below V.heap.size V w'):=fun V G=>by have:=zrf V B _ _ _ _ _ _ _ x d (E.out V G).2.1 bu;rw [rx.err]at this;exact this
 have bz:Hid (∀V,Below D.heap.size D V->Calls Tryz.prog 85 #[.agg #[.slice aX x.ab.length cX,.int .i64 x.ag,.int .i64 x.old,.int .i64 x.be,.int .i64 x.ar,.slice aQ x.am.length cQ,.int .i64 x.next],.agg #[.slice O d.aj.length cC,.slice Y d.ax.length cS,.slice W d.fields.length cF,.slice X d.names.length cN,.slice Z d.aq.length cT],.slice aM F.length cM] V fun r w'=>r=.returned (.int .i64 0)/\Below V.heap.size V w'):=fun V G=>by have:=zue V B _ _ _ _ _ _ _ x d (E.out V G).2.1 rx.sized (zki rx.ok) tx rx.both _ F (E.out V G).2.2.2;rw [zzz (by omega) an]at this;exact this
 have cc:=ae fun V (G:Below D.heap.size D V)=>zzx V B _ _ _ _ _ _ _ h d (E.out V G).1 ts rt _ rs (E.out V G).2.2.1 hr (by omega);have a8:=ae fun V (G:Below D.heap.size D V)=>zzx V B _ _ _ _ _ _ _ x d (E.out V G).2.1 tx rx _ F (E.out V G).2.2.2 an (by omega);rw [bw]at a8;have a7:Hid ((shapeD d h rs).length<=1000000):=by have h1:=zzy rt hr;have z1:=rt.sized.ag;have z2:=rt.sized.old;have z3:=rt.sized.len;show _<=_;omega
 generalize shapeD d h rs=sl at*;have af:Hid (Below D.heap.size D D.drew):=(br _ _).drew;have ad:(rs.length:Int)=F.length:=by omega
 have cp:((rs.length:Int)==(F.length:Int))=true:=by rw [ad];simp
 clear k0 k1 k2 ac bh ci rt rx hr an bw bu ad;have cj:=ae bs;clear bs;go_enter Tryz.func39,Tryz.ntmps39;go_wp2_with fail;rw [<-b5.out];refine wp_region_held_drew (S:=fun W'=>∀p:Addr,p.block<D.heap.size->W'.cell? p=D.cell? p) (by kernel_rfl) (fun p N=>rfl) fun A=>?_;refine ta 0 (.agg #[.slice aX x.ab.length cX,.int .i64 x.ag,.int .i64 x.old,.int .i64 x.be,.int .i64 x.ar,.slice aQ x.am.length cQ,.int .i64 x.next]) rfl A ?_;refine ta 1 (.agg #[.slice O d.aj.length cC,.slice Y d.ax.length cS,.slice W d.fields.length cF,.slice X d.names.length cN,.slice Z d.aq.length cT]) rfl A ?_;refine wpAnyH_ready (rs:=[2]) (by kernel_rfl) (by simp) ?_;refine AllReadyH.cons rfl (fun K2 cf=>?_) AllReadyH.nil;go_simp;refine (b7.out _ af.out).mono ?_;rintro r w1 ⟨rfl,bi⟩;have I:Below D.heap.size D w1:=af.out.trans (bi.mono af.out.size);refine cf.out _ _ (fun p N=>I.cell N) fun A=>?_;refine ta 3 (.bool true) rfl A ?_;refine ta 4 (.bool true) rfl A ?_;refine ta 5 (.agg #[.slice aX x.ab.length cX,.int .i64 x.ag,.int .i64 x.old,.int .i64 x.be,.int .i64 x.ar,.slice aQ x.am.length cQ,.int .i64 x.next]) rfl A ?_;refine ta 6 (.agg #[.slice O d.aj.length cC,.slice Y d.ax.length cS,.slice W d.fields.length cF,.slice X d.names.length cN,.slice Z d.aq.length cT]) rfl A ?_;refine ta 7 (.slice aM F.length cM) rfl A ?_;refine wpAnyH_ready (rs:=[8]) (by kernel_rfl) (by simp) ?_;refine AllReadyH.cons rfl (fun K8 ch=>?_) AllReadyH.nil;go_simp;refine (bz.out _ I).mono ?_;rintro r w2 ⟨rfl,bm⟩;have J:Below D.heap.size D w2:=I.trans (bm.mono I.size);refine ch.out _ _ (fun p N=>J.cell N) fun A=>?_;refine ta 9 (.bool true) rfl A ?_;refine ta 10 (.bool true) rfl A ?_;refine ta 11 (.bool true) rfl A ?_;refine ta 12 (.slice aR rs.length cR) rfl A ?_;refine ta 13 (.int .i64 rs.length) rfl A ?_;refine ta 14 (.slice aM F.length cM) rfl A ?_;refine ta 15 (.int .i64 F.length) rfl A ?_;refine ta 16 (.bool true) rfl A ?_;refine ta 17 (.bool true) rfl A ?_;refine ta 18 (.bool true) rfl A ?_;refine ta 19 (.agg #[.slice aW h.ab.length cW,.int .i64 h.ag,.int .i64 h.old,.int .i64 h.be,.int .i64 h.ar,.slice aO h.am.length cO,.int .i64 h.next]) rfl A ?_;refine ta 20 (.agg #[.slice O d.aj.length cC,.slice Y d.ax.length cS,.slice W d.fields.length cF,.slice X d.names.length cN,.slice Z d.aq.length cT]) rfl A ?_;refine ta 21 (.slice aR rs.length cR) rfl A ?_;refine ta 23 (.agg #[.slice aX x.ab.length cX,.int .i64 x.ag,.int .i64 x.old,.int .i64 x.be,.int .i64 x.ar,.slice aQ x.am.length cQ,.int .i64 x.next]) rfl A ?_;refine ta 24 (.agg #[.slice O d.aj.length cC,.slice Y d.ax.length cS,.slice W d.fields.length cF,.slice X d.names.length cN,.slice Z d.aq.length cT]) rfl A ?_;refine ta 25 (.slice aM F.length cM) rfl A ?_;refine wpAnyH_ready (rs:=[22]) (by kernel_rfl) (by simp) ?_;refine AllReadyH.cons rfl (fun cl a9=>?_) AllReadyH.nil;go_simp;refine (cc.out _ J).mono ?_;rintro r w3 ⟨bn,v3,rfl,ao⟩;obtain ⟨a3,c3,rfl⟩:=kh ao;have L:Below D.heap.size D w3:=J.trans (bn.mono J.size);refine a9.out _ _ (fun p N=>L.cell N) fun A=>?_;refine wpAnyH_ready (rs:=[26]) (by kernel_rfl) (by simp) ?_;refine AllReadyH.cons rfl (fun cm bc=>?_) AllReadyH.nil;go_simp;refine (a8.out _ L).mono ?_;rintro r w4 ⟨ah,v4,rfl,au⟩;obtain ⟨a4,c4,rfl⟩:=kh au;have ai:Below D.heap.size D w4:=L.trans (ah.mono L.size);have ay:Hid (Calls Tryz.prog 29 #[.slice a3 sl.length c3,.slice a4 sl.length c4] w4 fun r w'=>r=.returned (.bool true)/\∃n,w'=w4.drewN n):=by have:=zsj w4 _ _ _ _ sl sl (zfb (kv ao ah) a7.out) (zfb au a7.out);rw [zsl]at this;exact this
 refine bc.out _ _ (fun p N=>ai.cell N) fun A=>?_;refine wpAnyH_ready (rs:=[27]) (by kernel_rfl) (by simp) ?_;refine AllReadyH.cons rfl (fun cn bf=>?_) AllReadyH.nil;go_simp;refine ay.out.mono ?_;rintro r w5 ⟨rfl,m5,rfl⟩;have ak:=zsk ai m5;refine bf.out _ _ (fun p N=>ak.cell N) fun A=>?_;refine ta 28 (.bool true) rfl A ?_;refine ta 29 (.bool true) rfl A ?_;refine wpAnyH_done (by kernel_rfl) ?_ _;clear A;try simp only [Act.put,p1q,p4q,p3q,p2q,p5q,p6q]
 have bx:Hid (Below w.heap.size w (w4.drewN m5)):=av.out.trans (ak.mono av.out.size);clear I J L ai ak bi bm bn ah ao au ay;go_wp2_with fail;go_ret;exact ⟨rfl,bx.out⟩
theorem zz1 {d:bd} {h:bb} {ts I:List bp} (r:Right d h ts) (E:0<=leftD h) (A:cb d.aj.length d.fields h.ab (h.ag+1) h.ar=some I) (rs:List Int) (F:∀v∈rs,dh ts v=true) (G:∀v∈h.ab,(Lit.int .i64 v).wf=true):
 ∃tx,Right d (ck d h rs) tx/\(∀v∈ep h rs,dh tx v=true)/\(ep h rs).length=rs.length/\shapeD d (ck d h rs) (ep h rs)=shapeD d h rs/\(∀v∈(ck d h rs).ab,(Lit.int .i64 v).wf=true)/\(ck d h rs).be=1/\(ck d h rs).am= []/\(ck d h rs).next=h.next:=by
 obtain ⟨J,L,-⟩:=zxz r E A rs F;obtain ⟨k,D⟩:=zzl r E A rs F;have n:=zzk r k;rw [J,L];refine ⟨_,n.right k r,k.leads D,?_,n.shape k r D,n.small k r G,rfl,rfl,rfl⟩;unfold rebR;rw [List.length_map]
theorem youngKeeps_any (w:World) (B:Nat) (vW vO kC kS kF kN kT:Value) (h:bb) (d:bd) (g:Hd B w vW vO kC kS kF kN kT h d) (b7:h.next<=9223372036854775807) (vR:Value) (rs:List Int) (hs:SL 1 RI (· <B) w vR rs) (ce:∀x∈rs,(Lit.int .i64 x).wf=true):
 Calls Tryz.prog 11 #[.agg #[vW,.int .i64 h.ag,.int .i64 h.old,.int .i64 h.be,.int .i64 h.ar,vO,.int .i64 h.next],.agg #[kC,kS,kF,kN,kT],vR] w fun r w'=>r=.returned (.bool true)/\Below w.heap.size w w':=by
 have HG:=ae g;have cj:=ae hs;obtain ⟨aW,cW,aO,cO,aC,cC,aS,cS,aF,cF,aN,cN,aT,cT,rfl,rfl,rfl,rfl,rfl,rfl,rfl⟩:=g.agg;obtain ⟨aR,cR,rfl,-⟩:=hs;clear g;obtain ⟨D,bx,N,co,k0,k1⟩:=j7 w #[.slice aW h.ab.length cW,.int .i64 h.ag,.int .i64 h.old,.int .i64 h.be,.int .i64 h.ar,.slice aO h.am.length cO,.int .i64 h.next] #[.slice aC d.aj.length cC,.slice aS d.ax.length cS,.slice aF d.fields.length cF,.slice aN d.names.length cN,.slice aT d.aq.length cT] 24 36;have a7:=bk k0;have lk1:=bk k1;have L:=ae N;have a8:=ae bx;have G:=ae (And.intro k0 k1);have bs:Hid (∀V,Below D.heap.size D V->Hd B V (.slice aW h.ab.length cW) (.slice aO h.am.length cO) (.slice aC d.aj.length cC) (.slice aS d.ax.length cS) (.slice aF d.fields.length cF) (.slice aN d.names.length cN) (.slice aT d.aq.length cT) h d):=fun V J=>HG.out.below ((N.trans (J.mono N.size)).mono HG.out.le);have bw:Hid (∀V,Below D.heap.size D V->SL 1 RI (· <B) V (.slice aR rs.length cR) rs):=fun V J=>cj.out.keptI (Kp.below ((N.trans (J.mono N.size)).mono HG.out.le));have ak:=ae fun V (J:Below D.heap.size D V)=>zyd V B _ _ _ _ _ _ _ h d (bs.out V J) _ rs (bw.out V J) ce;have ac:=ae (zyn D);rw [a8.out]at ac;have I:gp d h rs=0\/gp d h rs≠0:=by omega
 clear N bx co k0 k1 ce;rcases I with I | I
 ·have bc:fm d h rs=0/\0<=leftD h:=by
   unfold gp at I;by_cases h1:fm d h rs=0
   ·rw [if_pos h1]at I;by_cases h2:0<=leftD h
    ·exact ⟨h1,h2⟩
    rw [if_neg h2]at I;cases I
   rw [if_neg h1]at I;exact absurd I h1
  obtain ⟨ts,rt,cn,bf⟩:=zyb bc.1;obtain ⟨ys,os,e1,e2,-⟩:=zko rt.both;obtain ⟨tx,rx,b6,b5,ca,cf,bh,au,av⟩:=zz1 rt bc.2 e2 rs bf HG.out.ww;have cc:(ck d h rs).ab.length<=1000000:=by have z1:=rx.sized.ag;have z2:=rx.sized.old;have z3:=rx.sized.len;omega
  have aa:Hid (∀V,Below D.heap.size D V->Calls Tryz.prog 33 #[.agg #[.slice aW h.ab.length cW,.int .i64 h.ag,.int .i64 h.old,.int .i64 h.be,.int .i64 h.ar,.slice aO h.am.length cO,.int .i64 h.next],.agg #[.slice aC d.aj.length cC,.slice aS d.ax.length cS,.slice aF d.fields.length cF,.slice aN d.names.length cN,.slice aT d.aq.length cT],.slice aR rs.length cR] V fun r w'=>Below V.heap.size V w'/\∃Y W X O nR dR,r=.returned (.tuple #[.agg #[.slice Y (ck d h rs).ab.length W,.int .i64 (ck d h rs).ag,.int .i64 (ck d h rs).old,.int .i64 1,.int .i64 (ck d h rs).ar,.slice X 0 O,.int .i64 h.next],.slice nR (ep h rs).length dR,.int .i64 0])/\i7 V.heap.size w' (.slice Y (ck d h rs).ab.length W) (.slice X 0 O) (ck d h rs)/\w'.ownsRow V.heap.size 3 1 (.slice nR (ep h rs).length dR) (ep h rs).length (b8 (ep h rs))):=fun V J=>(ak.out V J).mono fun r w' ⟨hb,q⟩=>by
   have a9:(ck d h rs).am.length=0:=by rw [au];rfl
   rcases q with ⟨-,Y,W,X,O,nR,dR,q1,q2,q3⟩ | ⟨q,-⟩
   ·rw [a9,bh,av]at q1;rw [a9]at q2;exact ⟨hb,Y,W,X,O,nR,dR,q1,q2,q3⟩
   exact absurd I q
  have bm:Hid (∀(V:World) (Y X nR:Option Addr) (W O dR:Nat),Below D.heap.size D V->i7 D.heap.size V (.slice Y (ck d h rs).ab.length W) (.slice X 0 O) (ck d h rs)->V.ownsRow D.heap.size 3 1 (.slice nR (ep h rs).length dR) (ep h rs).length (b8 (ep h rs))->Calls Tryz.prog 39 #[.agg #[.slice aW h.ab.length cW,.int .i64 h.ag,.int .i64 h.old,.int .i64 h.be,.int .i64 h.ar,.slice aO h.am.length cO,.int .i64 h.next],.agg #[.slice aC d.aj.length cC,.slice aS d.ax.length cS,.slice aF d.fields.length cF,.slice aN d.names.length cN,.slice aT d.aq.length cT],.slice aR rs.length cR,.agg #[.slice Y (ck d h rs).ab.length W,.int .i64 (ck d h rs).ag,.int .i64 (ck d h rs).old,.int .i64 1,.int .i64 (ck d h rs).ar,.slice X 0 O,.int .i64 h.next],.slice nR (ep h rs).length dR] V fun r w'=>r=.returned (.bool true)/\Below V.heap.size V w'):=fun V Y X nR W O dR J ah ay=>by
   have cs:B<=V.heap.size:=lt3 HG.out.le (L.out.trans (J.mono L.out.size)).size;have hm:∀k,k<B->k<V.heap.size:=fun k hk=>by omega
   have g1:=bs.out V J;have g2:Hd V.heap.size V (.slice aW h.ab.length cW) (.slice aO h.am.length cO) (.slice aC d.aj.length cC) (.slice aS d.ax.length cS) (.slice aF d.fields.length cF) (.slice aN d.names.length cN) (.slice aT d.aq.length cT) h d:=⟨g1.sW.monoI hm,g1.sO.monoI hm,g1.lk.mono hm,nlq _,g1.ww,g1.wn⟩;have a9:(ck d h rs).am.length=0:=by rw [au];rfl
   have cm:Hd V.heap.size V (.slice Y (ck d h rs).ab.length W) (.slice X 0 O) (.slice aC d.aj.length cC) (.slice aS d.ax.length cS) (.slice aF d.fields.length cF) (.slice aN d.names.length cN) (.slice aT d.aq.length cT) (ck d h rs) d:=⟨(zfb ah.rW cc).monoI fun _ hk=>hk.lt,(zfb ah.rO (by omega)).monoI fun _ hk=>hk.lt,g1.lk.mono hm,nlq _,cf,fun v hv=>by rw [au]at hv;cases hv⟩;have:=zz0 V V.heap.size _ _ _ _ _ _ _ _ _ h (ck d h rs) d g2 cm ts tx rt rx (by rw [av];exact b7) _ rs ((bw.out V J).monoI hm) bf cn _ (ep h rs) ((zfb ay (by omega)).monoI fun _ hk=>hk.lt) b6 b5 ca;rw [bh,av]at this;exact this
  generalize ck d h rs=hc at*;generalize ep h rs=rc at*;clear ak I bc rt bf e1 e2 rx b6 b5 ca cf bh au av cc b7;go_enter Tryz.func11,Tryz.ntmps11;go_wp2_with fail;refine ac.out.mono ?_;rw [<-a8.out];rintro r w1 ⟨rfl,A⟩;have j0:=(A.block _ a7).trans G.out.1;have j1:=(A.block _ lk1).trans G.out.2;obtain ⟨a0,a1,a2,a3,a4,a5,a6,az,al⟩:=iu j0;obtain ⟨b0,b1,b2,b3,b4,bl⟩:=cells5 j1;have F:=ae A;have Z:=ae (aa.out w1 A);clear A j0 j1 ac aa;go_wp2_with fail;refine Z.out.mono ?_;rintro r w2 ⟨af,Y,W,X,O,nR,dR,rfl,ah,ay⟩;clear Z;clear a0 a1 a2 a3 a4 a5 a6 al az;clear b0 b1 b2 b3 b4 bl;have E:Below D.heap.size D w2:=F.out.trans (af.mono F.out.size);obtain ⟨W3,bz,an,cp,kx⟩:=jw w2 #[.slice Y hc.ab.length W,.int .i64 hc.ag,.int .i64 hc.old,.int .i64 1,.int .i64 hc.ar,.slice X 0 O,.int .i64 h.next] 24;have ad:Below D.heap.size D W3:=E.trans (an.mono E.size);have bi:=ae (bm.out W3 Y X nR W O dR ad ((ah.below an).mono F.out.size) (zhp (kv ay an) F.out.size));have j0:=(E.block _ a7).trans G.out.1;have j1:=(E.block _ lk1).trans G.out.2;obtain ⟨a0,a1,a2,a3,a4,a5,a6,az,al⟩:=iu j0;obtain ⟨b0,b1,b2,b3,b4,bl⟩:=cells5 j1;have cl:=ae bz;have bu:=ae kx;have ai:=ae ad;have cr:w2.heap.size<W3.heap.size:=by omega
  clear bz cp kx ad j0 j1 an ah ay af E bm;go_wp2_with fail;rw [<-cl.out];refine bi.out.mono ?_;rintro r w4 ⟨rfl,ao⟩;clear a0 a1 a2 a3 a4 a5 a6 al az;clear b0 b1 b2 b3 b4 bl;have ch:=(ao.block _ (bk bu.out)).trans bu.out;have j0:=((ai.out.trans (ao.mono ai.out.size)).block _ a7).trans G.out.1;obtain ⟨x0,x1,x2,x3,x4,x5,x6,xz,xl⟩:=iu ch;obtain ⟨a0,a1,a2,a3,a4,a5,a6,az,al⟩:=iu j0;have ci:Hid (Below w.heap.size w w4):=L.out.trans ((ai.out.trans (ao.mono ai.out.size)).mono L.out.size);clear ch j0 ao bi;go_wp2_with fail;go_ret;exact ⟨by simp,ci.out⟩
 have aa:Hid (∀V,Below D.heap.size D V->Calls Tryz.prog 33 #[.agg #[.slice aW h.ab.length cW,.int .i64 h.ag,.int .i64 h.old,.int .i64 h.be,.int .i64 h.ar,.slice aO h.am.length cO,.int .i64 h.next],.agg #[.slice aC d.aj.length cC,.slice aS d.ax.length cS,.slice aF d.fields.length cF,.slice aN d.names.length cN,.slice aT d.aq.length cT],.slice aR rs.length cR] V fun r w'=>Below V.heap.size V w'/\r=.returned (.tuple #[.agg #[.slice none 0 0,.int .i64 0,.int .i64 0,.int .i64 0,.int .i64 0,.slice none 0 0,.int .i64 0],.slice none 0 0,.int .i64 (gp d h rs)])):=fun V J=>(ak.out V J).mono fun r w' ⟨hb,q⟩=>by
  rcases q with ⟨q,-⟩ | ⟨-,q⟩
  ·exact absurd q I
  exact ⟨hb,q⟩
 have ct:(gp d h rs==0)=false:=by simpa using I
 generalize gp d h rs=er at*;clear ak I;go_enter Tryz.func11,Tryz.ntmps11;go_wp2_with fail;refine ac.out.mono ?_;rw [<-a8.out];rintro r w1 ⟨rfl,A⟩;have j0:=(A.block _ a7).trans G.out.1;have j1:=(A.block _ lk1).trans G.out.2;obtain ⟨a0,a1,a2,a3,a4,a5,a6,az,al⟩:=iu j0;obtain ⟨b0,b1,b2,b3,b4,bl⟩:=cells5 j1;have F:=ae A;have Z:=ae (aa.out w1 A);clear A j0 j1 ac aa;go_wp2_with fail;refine Z.out.mono ?_;rintro r w2 ⟨af,rfl⟩;clear Z;clear a0 a1 a2 a3 a4 a5 a6 al az;clear b0 b1 b2 b3 b4 bl;have bn:Hid (Below w.heap.size w w2):=L.out.trans ((F.out.trans (af.mono F.out.size)).mono L.out.size);clear af;go_wp2_with fail;go_ret;exact ⟨by simp,bn.out.alloc bn.out.size _⟩
end Go.Proofs.YtjdnmblggdobgaaGreat
