import Derived.Test.YtjdnmblggdobgaaGreatJHxOHxP
import Derived.Test.YtjdnmblggdobgaaGreatJHzTHxE
import Derived.Test.YtjdnmblggdobgaaGreatJTk2Dies
import Derived.Test.YtjdnmblggdobgaaGreatJHmKHyL
import Derived.Test.YtjdnmblggdobgaaGreatJHtGHuC
import Derived.Test.YtjdnmblggdobgaaGreatJLPu5HuE
set_option maxHeartbeats 8000000
set_option maxRecDepth 100000
namespace Go.Proofs.YtjdnmblggdobgaaGreat
open Go.RowKit Go.Maps
section
variable {d:be} {h x:bd} {ts:List bp} {l:List (Int×Int)} {tau:Int->Int} {hi:Int} {rs:List Int}
theorem nz_ne {v:Int} (h:nz v=true):v≠0:=fun e=>by subst e;cases h
theorem ne_nz {v:Int} (h:v≠0):nz v=true:=by unfold nz;simpa using h
theorem Kept.rch (k:Kept d h ts l tau hi) (A:∀v∈rs,v=0\/∃q∈l,q.1=v) {v:Int} (E:jq nz (fm d.fields h.ab) rs v):∃q∈l,q.1=v:=by
 apply jq.ind E
 ·intro _ h1 h2
  exact (A _ h1).resolve_left (nz_ne h2)
 intro _ _ _ h1 h2 ih
 obtain ⟨p,D,rfl⟩:=ih;unfold fm at h1;obtain ⟨a,u,rfl⟩:=List.mem_map.1 h1;exact (k.refs p D a u).resolve_left (nz_ne h2)
theorem Into.rch (n:Into d h l tau hi x) (k:Kept d h ts l tau hi) (r:Right d h ts) (G:∀v∈rs,v=0\/∃q∈l,q.1=v) (u:Int):jq nz (fm d.fields x.ab) (rs.map tau) u↔∃v,jq nz (fm d.fields h.ab) rs v/\tau v=u:=by
 constructor
 ·intro N;apply jq.ind N
  ·intro _ h1 h2
   obtain ⟨v,A,rfl⟩:=List.mem_map.1 h1;exact ⟨v,jq.root A (ne_nz fun e=>nz_ne h2 (by rw [e];exact k.zero)),rfl⟩
  intro _ _ _ h1 h2 ih
  obtain ⟨v,A,rfl⟩:=ih;obtain ⟨p,E,rfl⟩:=k.rch G A;rw [k.tq p E]at h1;unfold fm at h1;rw [n.head k r E]at h1;obtain ⟨a,J,rfl⟩:=List.mem_map.1 h1;obtain ⟨m,e,D,F⟩:=zto J;rw [zva (x:=lr h.ab p) (y:=bj h.ab p.1) rfl]at F;have D:(m:Int)<(bj h.ab p.1).len:=D;obtain ⟨I,-⟩:=n.ref k E D F;have e:a=p.2+3+m:=e;rw [e,I]at h2 ⊢;refine ⟨_,jq.step A ?_ (ne_nz fun e=>nz_ne h2 (by rw [e];exact k.zero)),rfl⟩;unfold fm;exact List.mem_map.2 ⟨_,ztp (x:=bj h.ab p.1) D F,rfl⟩
 rintro ⟨v,A,rfl⟩;apply jq.ind A
 ·intro _ h1 h2
  exact jq.root (List.mem_map.2 ⟨_,h1,rfl⟩) (ne_nz (k.pos r ((G _ h1).resolve_left (nz_ne h2))).1)
 intro _ _ A h1 h2 ih
 obtain ⟨p,E,rfl⟩:=k.rch G A;have L:=k.rch G (jq.step A h1 h2);refine jq.step ih ?_ (ne_nz (k.pos r L).1);rw [k.tq p E];unfold fm at h1 ⊢;rw [n.head k r E];obtain ⟨a,J,rfl⟩:=List.mem_map.1 h1;obtain ⟨m,e,D,F⟩:=zto J;obtain ⟨I,-⟩:=n.ref k E D F;have e:a=p.1+3+m:=e;rw [e];refine List.mem_map.2 ⟨p.2+3+m,?_,I⟩;exact ztp (x:=lr h.ab p) D (by rw [zva (x:=lr h.ab p) (y:=bj h.ab p.1) rfl];exact F)
theorem Into.live (n:Into d h l tau hi x) (k:Kept d h ts l tau hi) (r:Right d h ts) (J:∀v∈rs,cw ts v=true) (D:∀v∈rs,v=0\/∃q∈l,q.1=v):fc d x (rs.map tau)=fc d h rs:=by
 obtain ⟨L,E⟩:=zvn r J;have I:((cg d h rs).map tau).Nodup:=by refine List.Pairwise.map _ (fun a b u e=>u.2.2 (k.inj r (k.rch D ((E a).1 u.1)) (k.rch D ((E b).1 u.2.1)) e)) (List.Pairwise.imp_of_mem (S:=fun a b=>a∈cg d h rs/\b∈cg d h rs/\a≠b) (fun {a b} A G u=>⟨A,G,u⟩) L)
 rw [<-zvo (n.right k r) (k.leads D) I fun v=>?_]
 ·unfold fc;rw [List.map_map];refine congrArg List.sum (List.map_congr_left fun a A=>?_);obtain ⟨p,F,rfl⟩:=k.rch D ((E a).1 A);show 3+wd x.ab (tau p.1+1)=3+wd h.ab (p.1+1);rw [k.tq p F];have:(bj x.ab p.2).len=(lr h.ab p).len:=congrArg bp.len (n.head k r F);exact congrArg (3+ ·) this
 rw [n.rch k r D v,List.mem_map];constructor
 ·rintro ⟨a,A,e⟩;exact ⟨a,(E a).1 A,e⟩
 rintro ⟨a,A,e⟩;exact ⟨a,(E a).2 A,e⟩
end
theorem z11 {ws:List Int} {hi:Int} :∀(m:List (Int×Int)) (lo:Int),LaidP ws lo m hi->∀a:Int,lo<=a->a<hi->∃p∈m,p.2<=a/\a<p.2+3+(bj ws p.1).len
 | [],lo,h,a,h1,h2=>by have h:lo=hi:=h;omega
 | p::m,lo,h,a,h1,h2=>by
   have e:=h.1;by_cases c:a<p.2+3+(bj ws p.1).len
   ·exact ⟨p,List.mem_cons_self ..,by omega,c⟩
   obtain ⟨q,A,u⟩:=z11 m _ h.2 a (by omega) h2;exact ⟨q,List.mem_cons_of_mem _ A,u⟩
theorem z12 {ws:List Int} {hi:Int} :∀(m:List (Int×Int)) (lo:Int) (ws':List Int),LaidP ws lo m hi->(∀p∈m,wd ws' (p.2+1)=(bj ws p.1).len)->gz ws' lo (m.map (·.2))=m.map (·.2)/\toR ws' lo (m.map (·.2))=hi
 | [],lo,_,h,_=>⟨rfl,h⟩
 | p::m,lo,ws',h,hs=>by
   have e:=h.1;have E:=hs p (List.mem_cons_self ..);obtain ⟨h1,A⟩:=z12 m _ ws' h.2 fun q D=>hs q (List.mem_cons_of_mem _ D);have u:lo+(3+wd ws' (p.2+1))=lo+3+(bj ws p.1).len:=by omega
   constructor
   ·show lo::gz ws' (lo+(3+wd ws' (p.2+1))) (m.map (·.2))=p.2::m.map (·.2);rw [u,h1,e]
   show toR ws' (lo+(3+wd ws' (p.2+1))) (m.map (·.2))=hi;rw [u,A]
theorem z13 (o:List Int) (v:Int):mm o o v=v:=by
 unfold mm;rcases zxe o v with ⟨-,u⟩ | ⟨k,h1,u⟩
 ·rw [if_pos (Or.inr (by omega))]
 by_cases c:v=0\/j5 o v<0
 ·rw [if_pos c]
 rw [if_neg c,u];unfold wd;rw [show ((k:Int)).toNat=k by omega,h1];rfl
theorem z14:∀(l:List Int),∀q∈l.zip l,q.1=q.2
 | [],q,h=>by cases h
 | a::l,q,h=>by
   rcases List.mem_cons.1 h with rfl | h
   ·rfl
   exact z14 l q h
theorem z15 {d:be} {h:bd} {ts:List bp} (r:Right d h ts) (rs:List Int) (hr:∀v∈rs,cw ts v=true) (hl:fc d h rs<=h.old) (hw:∀v∈h.ab,(Lit.int .i64 v).wf=true):
 ∃tx,Right d (cq d h rs) tx/\(∀v∈ga d h rs,cw tx v=true)/\(ga d h rs).length=rs.length/\j6 d (cq d h rs) (ga d h rs)=j6 d h rs/\(∀v∈(cq d h rs).ab,(Lit.int .i64 v).wf=true)/\(cq d h rs).bg=1/\(cq d h rs).ap= []/\(cq d h rs).next=h.next/\(cq d h rs).ae=h.ae/\(cq d h rs).old=h.old/\(cq d h rs).bk=h.ae+1+fc d h rs/\fc d (cq d h rs) (ga d h rs)=fc d h rs/\cq d (cq d h rs) (ga d h rs)=cq d h rs/\ga d (cq d h rs) (ga d h rs)=ga d h rs:=by
 obtain ⟨D,A,e1,e2,aq⟩:=zko r.both;obtain ⟨s1,s2⟩:=z0x r e1 e2 rs hr hl;obtain ⟨k,N,ah,ao,W⟩:=zyf r e1 e2 rs hr hl;have n:=zyb r k;rw [s1,s2];have aa:kc h [] (fu (cg d h rs) D A) (h.ae+1)=(fu (cg d h rs) D A).zip (gz h.ab (h.ae+1) (fu (cg d h rs) D A)):=by unfold kc;rw [List.map_nil,List.nil_append]
 unfold rebR;rw [aa]at n k N;rw [ah]at n k;generalize hx:rebD d h [] (fu (cg d h rs) D A) (h.ae+1)=x at*;generalize mm (fu (cg d h rs) D A) (gz h.ab (h.ae+1) (fu (cg d h rs) D A))=tau at*;have G:∀q∈(fu (cg d h rs) D A).zip (gz h.ab (h.ae+1) (fu (cg d h rs) D A)),jq nz (fm d.fields h.ab) rs q.1:=fun q hq=>(W q.1).1 (List.of_mem_zip hq).1;generalize (fu (cg d h rs) D A).zip (gz h.ab (h.ae+1) (fu (cg d h rs) D A))=kl at*;have Z:=n.right k r;have E:=k.leads N;have V:=n.live k r hr N;have ai:b9 d.aj.length d.fields x.ab (h.ae+1) (h.ae+1+fc d h rs)=some (kl.map (lr h.ab)):=n.walk k r kl _ (fun p J=>J) k.laid;have f1:b9 d.aj.length d.fields x.ab 1 x.bg=some []:=by rw [n.yt,zes (by omega)]
 have f2:b9 d.aj.length d.fields x.ab (x.ae+1) x.bk=some (kl.map (lr h.ab)):=by rw [n.yo,n.ot];exact ai
 have O:fc d x (rs.map tau)<=x.old:=by rw [V,n.ol];exact hl
 obtain ⟨t1,t2⟩:=z0x Z f1 f2 (rs.map tau) E O;obtain ⟨Y,an,F,al,ad⟩:=zyf Z f1 f2 (rs.map tau) E O;have u:=zyb Z Y;have af:fu (cg d x (rs.map tau)) [] (kl.map (lr h.ab))=kl.map (·.2):=by unfold fu;rw [List.map_nil,List.filter_nil,List.append_nil,List.map_map];show (kl.map (·.2)).filter _=_;rw [List.filter_eq_self];intro v hv;obtain ⟨q,hq,rfl⟩:=List.mem_map.1 hv;rw [List.contains_iff_mem,(zvn Z E).2,n.rch k r N];exact ⟨q.1,G q hq,k.tq q hq⟩
 obtain ⟨g1,g2⟩:=z12 kl (h.ae+1) x.ab k.laid fun p J=>congrArg bp.len (n.head k r J);have I:=n.yo;rw [af]at t1 t2 u Y F;rw [I]at t1 t2 u Y F;have L:∀v,mm (kl.map (·.2)) (gz x.ab (h.ae+1) (kl.map (·.2))) v=v:=fun v=>by rw [g1];exact z13 _ v
 have ac:kc x [] (kl.map (·.2)) (h.ae+1)=(kl.map (·.2)).zip (kl.map (·.2)):=by unfold kc;rw [List.map_nil,List.nil_append,g1]
 rw [ac,g2]at u Y;have ak:rebD d x [] (kl.map (·.2)) (h.ae+1)=x:=by
  generalize rebD d x [] (kl.map (·.2)) (h.ae+1)=x' at*;have X:x'.ab=x.ab:=by
   refine zxl u.len fun i hi=>?_;by_cases c:(i:Int)<=h.ae\/h.ae+1+fc d h rs<=(i:Int)
   ·rw [u.rest i (by omega) (by rw [I];exact c),n.rest i (by omega) c]
   obtain ⟨p,J,c1,c2⟩:=z11 _ _ Y.laid (i:Int) (by rw [I];omega) (by omega);have e:=z14 _ p J;have w:=u.word p J ((i:Int) - p.2).toNat (by omega);rw [L,e,show p.2+((((i:Int) - p.2).toNat:Nat):Int)=i by omega]at w;rw [w];split<;>rfl
  have a1:=u.yo;have a2:=u.ol;have a3:=u.yt;have a4:=u.ot;have a5:=u.no;have a6:=u.nx;have b3:=n.yt;have b4:=n.ot;have b5:=n.no;cases x';cases x;simp only at X a1 a2 a3 a4 a5 a6 b3 b4 b5;simp [X,a1,a2,a3,a4,a5,a6,b3,b4,b5]
 refine ⟨_,Z,E,by rw [List.length_map],n.shape k r N,n.small k r hw,n.yt,n.no,n.nx,n.yo,n.ol,n.ot,V,t1.trans ak,?_⟩;rw [t2];unfold rebR;rw [List.map_congr_left (g:=id) fun v _=>L v,List.map_id]
theorem z16 {d:be} {h:bd} {ts:List bp} (r:Right d h ts) {rs:List Int} (D:∀v∈rs,cw ts v=true):∀v∈rs,(Lit.int .i64 v).wf=true:=fun v F=>by
 by_cases h0:v=0
 ·rw [h0];rfl
 obtain ⟨t,E,rfl⟩:=zux (D v F) h0;have u:=zsg r.sized r.both t E;have A:t.fin=t.loc+3+t.len:=rfl;have G:=r.sized.ae;have I:=r.sized.old;have J:=r.sized.len;exact WalkArith.wf_i64 (by omega)
theorem z19 {u:List Int} {v:Int} (h:v∉u):j5 (u++ [v]) v=u.length:=by unfold j5;refine zch (k:=u.length) (by simp) (fun x A=>?_) (by simp);rw [List.take_left]at A;exact decide_eq_false fun e=>h (e ▸ A)
theorem z2a (u:List Int):shT u 0=u/\shN u 0=0:=⟨by unfold shT;rw [if_pos rfl],by unfold shN;rw [if_pos rfl]⟩
theorem z2b {u:List Int} {v:Int} {k:Nat} (h0:v≠0) (A:u[k]? =some v) (D:j5 u v=k):shT u v=u/\shN u v=(k:Int)+1:=by
 have e:shT u v=u:=by unfold shT;rw [if_neg h0,List.contains_iff_mem.2 (List.mem_of_getElem? A),if_pos rfl]
 refine ⟨e,?_⟩;unfold shN;rw [if_neg h0,e,D]
theorem z2c {u:List Int} {v:Int} (h0:v≠0) (h:v∉u):shT u v=u++ [v]/\shN u v=(u.length:Int)+1:=by
 have e:shT u v=u++ [v]:=by unfold shT;rw [if_neg h0,if_neg (fun hc=>h (List.contains_iff_mem.1 hc))]
 refine ⟨e,?_⟩;unfold shN;rw [if_neg h0,e,z19 h]
theorem z2d (w:World) (b P:Nat) (vo:Value) (o:List Int) (x:Bx1 b w P vo o) (ad:o.length<=1000000) (v:Int):
 Calls Tryz.prog 145 #[.int .i64 v,.pointer (some ⟨P,0,none⟩)] w fun r w'=>r=.returned (.int .i64 (shN o v))/\∃vo',Bx1 b w' P vo' (shT o v)/\Mvd w.heap.size P P P (.slice none 0 0) vo w vo' w':=by
 obtain ⟨iI,ac,X,Y,Z⟩:=info_parts Tryz.infoInt;obtain ⟨O,V,rfl⟩:=kh x.row;have HX:=ag x;have c0:=ba x.blk 0 (x:=.slice O o.length V) rfl;have lP:=bz x.blk;have A:=ag (zwa w _ _ _ (zfb x.row ad) v);have ah:=x.bP;clear x;by_cases N:v=0
 ·have G:=ag (z2a o);subst N;clear A;go_enter Tryz.func145,Tryz.ntmps145;go_wp2_with fail;go_ret;exact ⟨by rw [G.o.2];rfl,_,by rw [G.o.1];exact HX.o,Mvd.ofBelow (br _ _)⟩
 have ai:(v==0)=false:=by simpa using N
 rcases zxe o v with ⟨h1,L⟩ | ⟨k,h1,L⟩
 ·have G:=ag (z2c N h1);rw [L]at A;have aa:=ag HX.o.row;have I:Hid (o.length+1<=maxLen/\(o.length+1)*8<=140737488355328/\b<=(w.alloc (.cells #[.int .i64 v] 3)).heap.size):=⟨by unfold maxLen;omega,by omega,by simp;omega⟩;have w1:IntKind.i64.wrap ((o.length:Int)+1 - 1)=(o.length:Int):=by rw [IntKind.wrap_i64];omega
  have aj:IntKind.i64.wrap (((o.length+1:Nat):Int) - 1)=(o.length:Int):=by rw [IntKind.wrap_i64];omega
  have w2:IntKind.i64.wrap ((o.length:Int)+1)=(o.length:Int)+1:=ge _ (by omega) (by omega);clear h1 L N;go_enter Tryz.func145,Tryz.ntmps145;go_wp2_with fail;refine A.o.mono ?_;rintro r w ⟨rfl,rfl⟩;go_wp2_with (at_builtin;refine wpList_append_lies _ rfl _ _ 22 rfl b 3 iI (.int .i64 0) 1 8 Tryz.underlying22 ac X Y Z rfl (by decide) (.slice O o.length V) o.length (bv o) rfl (aa.o.alloc _) ⟨w.heap.size,0,none⟩ 1 1 [.int .i64 v] rfl rfl (World.news_of_block (heap_alloc_new w _)) (by intro u hu;simp at hu;subst hu;rfl) (by omega) I.o.1 I.o.2.1 I.o.2.2 _ rfl ?_);intro gA cA w3 E D W af;have F:Below w.heap.size w (w.alloc (.cells #[.int .i64 v] 3)):=(br _ _).alloc (nlq _) _;have xA:=HX.o.below F;have k3:w3.heap[P]? =some (.cells #[.slice O o.length V] 22 (0,0)):=(D.block P (bz xA.blk) (fun e=>xA.ne e.symm)).trans xA.blk;have d0:=ba k3 0 (x:=.slice O o.length V) rfl;have dz:=nu k3 0;have dl:=bz k3;obtain ⟨W4,J⟩:∃W4,W4=w3.setCell ⟨P,0,none⟩ (.slice (some ⟨gA,0,none⟩) (o.length+1) cA):=⟨_,rfl⟩;obtain ⟨x4,m4⟩:=xA.more (v:=v) D E (W.imp id fun e=>by simp;omega) J;have f0:=ba x4.blk 0 (x:=.slice (some ⟨gA,0,none⟩) (o.length+1) cA) rfl;have fl:=bz x4.blk;have HF:Hid (Bx1 b W4 P (.slice (some ⟨gA,0,none⟩) (o.length+1) cA) (o++ [v])/\Mvd w.heap.size P P P (.slice none 0 0) (.slice O o.length V) w (.slice (some ⟨gA,0,none⟩) (o.length+1) cA) W4):=⟨x4,(Mvd.ofBelow F).trans (m4 _ F.size)⟩;have ae:=J.symm;clear E D W F xA k3 x4 m4 J;go_wp2_with fail;go_ret;exact ⟨by rw [G.o.2];rfl,_,by rw [G.o.1];exact HF.o.1,HF.o.2⟩
 have G:=ag (z2b N h1 L);rw [L]at A;have hk:k<o.length:=by
  rcases Nat.lt_or_ge k o.length with h | h
  ·exact h
  rw [List.getElem?_eq_none h]at h1;cases h1
 have w2:IntKind.i64.wrap ((k:Int)+1)=(k:Int)+1:=ge _ (by omega) (by omega);clear h1 L N;go_enter Tryz.func145,Tryz.ntmps145;go_wp2_with fail;refine A.o.mono ?_;rintro r w ⟨rfl,rfl⟩;go_wp2_with fail;go_ret;exact ⟨by rw [G.o.2];rfl,_,by rw [G.o.1];exact HX.o,Mvd.ofBelow (br _ _)⟩
theorem callTurnS (args:Array Value) (w:World):(callFunc 145 args).run Tryz.prog w=.ok (.enter 145 args) w:=by kernel_rfl
structure Sh (b:Nat) (w:World) (P:Nat) (vo vt:Value) (s:je):Prop where
 bx:Bx1 b w P vo s.met
 row:w.ownsRow b 3 1 vt s.o.length (bv s.o)
 ne:vt.ownBlock≠some P
 sep:∀j,vt.ownBlock=some j->vo.ownBlock≠some j
theorem Sh.below {b P:Nat} {w w':World} {A D:Value} {s:je} (x:Sh b w P A D s) (u:Below w.heap.size w w'):Sh b w' P A D s:=⟨x.bx.below u,kg x.row u,x.ne,x.sep⟩
theorem Sh.turned {b P:Nat} {w w':World} {A u D:Value} {s:je} {m:List Int} (x:Sh b w P A D s) (E:Bx1 b w' P u m) (k:Mvd w.heap.size P P P (.slice none 0 0) A w u w'):Sh b w' P u D ⟨m,s.o⟩:=
 ⟨E,zv0 x.row k (fun j e F=>⟨F,fun h=>x.ne (by rw [e,h]),fun h=>x.ne (by rw [e,h]),fun h=>x.ne (by rw [e,h]),(fun h=>by cases h),x.sep j e⟩),x.ne,fun j e h=>by
  rcases k.gv j h with q | q
  ·exact x.sep j e q
  have:=(x.row.lt j e).2;omega⟩
theorem Sh.told {b P:Nat} {w w':World} {A u vt':Value} {s:je} {l:List Int} (x:Sh b w P A u s) (E:w.grownBy w' u.ownBlock) (G:w'.ownsRow b 3 1 vt' (s.o++l).length (bv (s.o++l))) (D:vt'.ownBlock=u.ownBlock\/∃j,vt'.ownBlock=some j/\w.heap.size<=j):Sh b w' P A vt' ⟨s.met,s.o++l⟩:=by
 have I:=bz x.bx.blk;refine ⟨⟨(E.block P I (fun e=>x.ne e.symm)).trans x.bx.blk,x.bx.row.kept E ?_,x.bx.bP,x.bx.ne⟩,G,?_,?_⟩
 ·cases hv:u.ownBlock with
  | none=>cases A.ownBlock<;>simp
  | some j=>exact Or.inr (x.sep j hv)
 ·rcases D with q | ⟨j,q,F⟩
  ·rw [q];exact x.ne
  rw [q];intro e;have:=ojq e;omega
 intro i e h;rcases D with q | ⟨j,q,F⟩
 ·rw [q]at e;exact x.sep i e h
 rw [q]at e;have e:=ojq e;have:=(x.bx.row.lt i h).2;omega
theorem Sh.bel {b P:Nat} {w w':World} {D u:Value} {s:je} (x:Sh b w P D u s) (A:w.grownBy w' u.ownBlock):Below b w w':=
 (br b w).grown A (lt3 x.bx.bP (Nat.le_of_lt (bz x.bx.blk))) (fun k e=>(x.row.lt k e).1)
theorem z2e {A:List Int} {v u:Int} :u∈shT A v↔u∈A\/(u=v/\v≠0):=by
 unfold shT;by_cases h0:v=0
 ·rw [if_pos h0];exact ⟨Or.inl,fun h=>h.elim id fun h=>absurd h0 h.2⟩
 rw [if_neg h0];cases hc:A.contains v with
 | true=>
   have D:=List.contains_iff_mem.1 hc;rw [if_pos rfl];exact ⟨Or.inl,fun h=>h.elim id fun h=>h.1 ▸ D⟩
 | false=>
   rw [if_neg (by simp),List.mem_append,List.mem_singleton];exact ⟨fun h=>h.imp id fun h=>⟨h,h0⟩,fun h=>h.imp id fun h=>h.1⟩
theorem z2f {u:List Int} {v:Int} (A:u.Nodup):(shT u v).Nodup:=by
 unfold shT;split
 ·exact A
 split
 ·exact A
 rename_i hc;refine List.nodup_append.2 ⟨A,by simp,?_⟩;intro a E b D e;rw [List.mem_singleton]at D;subst D;subst e;exact hc (List.contains_iff_mem.2 E)
theorem z2g (u:List Int) (v:Int):∃e,shT u v=u++e:=by
 unfold shT;split
 ·exact ⟨[],(List.append_nil _).symm⟩
 split
 ·exact ⟨[],(List.append_nil _).symm⟩
 exact ⟨[v],rfl⟩
structure ShG (ts:List bp) (s0 s:je) (n:Nat):Prop where
 nd:s.met.Nodup
 sub:∀v∈s.met,∃t∈ts,t.loc=v
 ext:∃e,s.met=s0.met++e
 o:s.o.length=s0.o.length+n
section
variable {d:be} {h:bd} {ts:List bp}
theorem ShG.turn {s0 s:je} {n:Nat} (g:ShG ts s0 s n) {v:Int} (F:cw ts v=true):ShG ts s0 (s.turn v) (n+1):=by
 refine ⟨z2f g.nd,fun u E=>?_,?_,?_⟩
 ·rcases z2e.1 E with h | ⟨rfl,h⟩
  ·exact g.sub u h
  exact zux F h
 ·obtain ⟨e,A⟩:=g.ext;obtain ⟨f,D⟩:=z2g s.met v;exact ⟨e++f,by show shT s.met v=_;rw [D,A,List.append_assoc]⟩
 show (s.o++ [shN s.met v]).length=_;rw [List.length_append,g.o];rfl
theorem ShG.roots:∀(rs:List Int) {s0 s:je} {n:Nat},ShG ts s0 s n->(∀v∈rs,cw ts v=true)->ShG ts s0 (rs.foldl je.turn s) (n+rs.length)
 | [],_,_,_,g,_=>g
 | v::rs,_,s,n,g,h=>by have:=ShG.roots rs (g.turn (h v (List.mem_cons_self ..))) fun u A=>h u (List.mem_cons_of_mem _ A);rw [show n+1+rs.length=n+(v::rs).length by rw [List.length_cons];omega]at this;exact this
theorem ShG.word (r:Right d h ts) {s0 s:je} {n:Nat} (g:ShG ts s0 s n) {t:bp} (u:t∈ts) {i:Nat} (hi:(i:Int)<t.len):ShG ts s0 (s.word d h.ab t i) (n+1):=by
 unfold je.word;cases hr:jh d.fields t i with
 | true=>exact g.turn (zu6 r u (ztp hi hr))
 | false=>
   refine ⟨g.nd,g.sub,g.ext,?_⟩;show (s.o++ [wd h.ab (t.loc+3+i)]).length=_;rw [List.length_append,g.o];rfl
theorem ShG.ab (r:Right d h ts) {t:bp} (u:t∈ts):∀(is:List Nat) {s0 s:je} {n:Nat},ShG ts s0 s n->(∀i∈is,(i:Int)<t.len)->ShG ts s0 (is.foldl (je.word d h.ab t) s) (n+is.length)
 | [],_,_,_,g,_=>g
 | i::is,_,s,n,g,hi=>by have:=ShG.ab r u is (g.word r u (hi i (List.mem_cons_self ..))) fun j A=>hi j (List.mem_cons_of_mem _ A);rw [show n+1+is.length=n+(i::is).length by rw [List.length_cons];omega]at this;exact this
theorem z2h (r:Right d h ts):((ts.map bp.loc).map fun a=>3+wd h.ab (a+1)).sum<=h.ab.length:=by
 have z:=r.sized;have J:=z.ae;have L:=z.len;have N:=z.bg;have O:=z.bk;have e:((ts.map bp.loc).map fun a=>3+wd h.ab (a+1))=ts.map fun t=>3+t.len:=by rw [List.map_map];refine List.map_congr_left fun t D=>?_;show 3+wd h.ab (t.loc+1)=3+t.len;rw [<-congrArg bp.len (th_at r D).symm];rfl
 rw [e];obtain ⟨F,E,u,A,rfl⟩:=zko r.both;have G:=zu1 _ 1 F (nlq _) (by omega) u;have I:=zu1 _ (h.ae+1) E (nlq _) (by omega) A;rw [List.map_append,List.sum_append];omega
theorem z2i (r:Right d h ts) {l:List Int} (D:l.Nodup) (E:∀v∈l,∃t∈ts,t.loc=v):(l.map fun a=>3+wd h.ab (a+1)).sum<=h.ab.length:=by
 refine Int.le_trans (zu0 l (ts.map bp.loc) D (fun x A=>?_) fun x A=>?_) (z2h r)
 ·obtain ⟨t,u,e⟩:=E x A;exact List.mem_map.2 ⟨t,u,e⟩
 obtain ⟨t,u,rfl⟩:=List.mem_map.1 A;have e:t.len=wd h.ab (t.loc+1):=congrArg bp.len (th_at r u);obtain ⟨-,-,q,-⟩:=zxx r u;have:=zeo q;omega
theorem z2j (r:Right d h ts) {l:List Int} (u:l.Nodup) (A:∀v∈l,∃t∈ts,t.loc=v):l.length<h.ab.length:=
 Nat.lt_of_le_of_lt (zvh l (ts.map bp.loc) u fun x E=>by
  obtain ⟨t,D,e⟩:=A x E;exact List.mem_map.2 ⟨t,D,e⟩) (zvm r)
structure ShI (d:be) (h:bd) (ts:List bp) (rs:List Int) (k:Nat) (s:je):Prop where
 nd:s.met.Nodup
 sub:∀v∈s.met,∃t∈ts,t.loc=v
 o:(s.o.length:Int)=rs.length+((s.met.take k).map fun a=>3+wd h.ab (a+1)).sum
 fin:(je.all d h.ab (h.ab.length+1 - k) k s).o=j6 d h rs
theorem ShI.small (r:Right d h ts) {rs:List Int} {k:Nat} {s:je} (i:ShI d h ts rs k s):s.met.length<h.ab.length/\s.o.length<=rs.length+h.ab.length:=by refine ⟨z2j r i.nd i.sub,?_⟩;have h1:=z2i r (l:=s.met.take k) (i.nd.sublist (List.take_sublist _ _)) fun v u=>i.sub v (List.mem_of_mem_take u);have A:=i.o;omega
theorem ShI.start {rs:List Int} (u:∀v∈rs,cw ts v=true):ShI d h ts rs 0 (rs.foldl je.turn ⟨[],[]⟩):=by have g:=ShG.roots (ts:=ts) rs (s0:=⟨[],[]⟩) (s:=⟨[],[]⟩) (n:=0) ⟨List.nodup_nil,fun v A=>(by cases A),⟨[],rfl⟩,rfl⟩ u;refine ⟨g.nd,g.sub,?_,rfl⟩;have:=g.o;simp at this;simp [this]
theorem ShI.next (r:Right d h ts) {rs:List Int} {k:Nat} {s:je} (i:ShI d h ts rs k s) {a:Int} (u:s.met[k]? =some a):ShI d h ts rs (k+1) (s.thing d h.ab a)/\(s.thing d h.ab a).o.length=s.o.length+3+(bj h.ab a).len.toNat:=by
 obtain ⟨t,G,rfl⟩:=i.sub a (List.mem_of_getElem? u);have A:k<s.met.length:=by
  rcases Nat.lt_or_ge k s.met.length with h | h
  ·exact h
  rw [List.getElem?_eq_none h]at u;cases u
 have N:=(i.small r).1;have D:=th_at r G;have L:0<=t.len:=zeo (zxx r G).2.2.1;have g:=ShG.ab r G (List.range t.len.toNat) (s0:=s) (s:=⟨s.met,s.o++ [t.tag,t.len,t.hash]⟩) (n:=3) ⟨i.nd,i.sub,⟨[],(List.append_nil _).symm⟩,by rw [List.length_append];rfl⟩ (fun j J=>by have:=List.mem_range.1 J;omega);have e:s.thing d h.ab t.loc=(List.range t.len.toNat).foldl (je.word d h.ab t) ⟨s.met,s.o++ [t.tag,t.len,t.hash]⟩:=by unfold je.thing;rw [<-D]
 rw [<-e]at g;obtain ⟨O,E⟩:=g.ext;have F:=g.o;rw [List.length_range]at F;refine ⟨⟨g.nd,g.sub,?_,?_⟩,by rw [F,<-D];omega⟩
 ·have h1:=i.o;have I:(s.thing d h.ab t.loc).met.take (k+1)=s.met.take k++ [t.loc]:=by
   rw [E,List.take_append_of_le_length (by omega),List.take_succ_eq_append_getElem A];congr 1;rw [List.getElem?_eq_getElem A]at u;rw [ojq u]
  rw [F,I,List.map_append,List.sum_append];have V:([t.loc].map fun a=>3+wd h.ab (a+1)).sum=3+t.len:=by have:t.len=wd h.ab (t.loc+1):=congrArg bp.len D;simp;omega
  omega
 rw [<-i.fin];rw [show h.ab.length+1 - k=(h.ab.length+1 - (k+1))+1 by omega,je.all,u]
theorem ShI.done {rs:List Int} {k:Nat} {s:je} (i:ShI d h ts rs k s) (u:s.met.length<=k):s.o=j6 d h rs:=by
 rw [<-i.fin];cases h.ab.length+1 - k with
 | zero=>rfl
 | succ f=>rw [je.all,List.getElem?_eq_none u]
end
theorem z2k (w:World) (B:Nat) (vW vO kC kS kF kN kT:Value) (h:bd) (d:be) (g:Hd B w vW vO kC kS kF kN kT h d) (ts:List bp) (rt:Right d h ts) (vR:Value) (rs:List Int) (hs:SL 1 RI (· <B) w vR rs) (hr:∀v∈rs,cw ts v=true) (fj:rs.length<=500000):
 Calls Tryz.prog 90 #[.agg #[vW,.int .i64 h.ae,.int .i64 h.old,.int .i64 h.bg,.int .i64 h.bk,vO,.int .i64 h.next],.agg #[kC,kS,kF,kN,kT],vR] w fun r w'=>Below w.heap.size w w'/\∃v,r=.returned v/\w'.ownsRow w.heap.size 3 1 v (j6 d h rs).length (bv (j6 d h rs)):=by
 obtain ⟨iI,cl,a0,a1,a2⟩:=info_parts Tryz.infoInt;have fe:=np Tryz.prog;have e6:=callTurnS;have HG:=ag g;have d5:=ag hs;obtain ⟨aW,cW,aO,cO,aC,cC,aS,cS,aF,cF,aN,cN,aT,cT,rfl,rfl,rfl,rfl,rfl,rfl,rfl⟩:=g.agg;obtain ⟨aR,cR,rfl,-,eh,-⟩:=hs;unfold maxLen at eh;have e8:=g.le;clear g;obtain ⟨W0,c1,bf,co,k0,k1,k2⟩:=boxes3 w #[.slice aW h.ab.length cW,.int .i64 h.ae,.int .i64 h.old,.int .i64 h.bg,.int .i64 h.bk,.slice aO h.ap.length cO,.int .i64 h.next] #[.slice aC d.aj.length cC,.slice aS d.ax.length cS,.slice aF d.fields.length cF,.slice aN d.names.length cN,.slice aT d.aq.length cT] #[.slice none 0 0] 24 36 22;have x0:Sh (w.heap.size+1+1) W0 (w.heap.size+1+1) (.slice none 0 0) (.slice none 0 0) ⟨[],[]⟩:=⟨⟨k2,World.ownsRow_nil _ _ _ _,nlq _,fun e=>by cases e⟩,World.ownsRow_nil _ _ _ _,(fun e=>by cases e),fun j e=>by cases e⟩;have z:=rt.sized;have z1:=z.ae;have z2:=z.old;have z3:=z.len;have fk:h.ab.length<=100000:=by omega
 have O:=ag rt;have cs:=ag hr;have eb:=ag x0;have dz:=ag bf;have d1:=ag c1;have d3:=ag co;have cr:=ag (And.intro k0 k1);have b6:Hid (∀V,Below (w.heap.size+1+1) W0 V->Hd B V (.slice aW h.ab.length cW) (.slice aO h.ap.length cO) (.slice aC d.aj.length cC) (.slice aS d.ax.length cS) (.slice aF d.fields.length cF) (.slice aN d.names.length cN) (.slice aT d.aq.length cT) h d):=fun V hV=>HG.o.below ((bf.trans (hV.mono (by omega))).mono (by omega));have d6:Hid (∀V,Below (w.heap.size+1+1) W0 V->SL 1 RI (· <B) V (.slice aR rs.length cR) rs):=fun V hV=>d5.o.keptI (Kp.below ((bf.trans (hV.mono (by omega))).mono (by omega)));clear k0 k1 k2 x0 bf c1 co rt hr z z1 z2 z3;go_enter Tryz.func90,Tryz.ntmps90;go_wp2_with fail;rw [<-d1.o];go_loopw [8,10] (fun vt i wr=>∃(k:Nat) (vo:Value),i=.int .i64 k/\k<=rs.length/\Hid (Sh (w.heap.size+1+1) wr (w.heap.size+1+1) vo vt ((rs.take k).foldl je.turn ⟨[],[]⟩)/\Below (w.heap.size+1+1) W0 wr)) (fun _ i _=>rs.length - (intOf i).toNat)
 case atStart=>exact ⟨0,_,rfl,n0q _,eb.o,br _ _⟩
 case round=>
  obtain ⟨k,vo,rfl,hk,HI⟩:=hrel;have co:=d3.o;have df:=HI.o.2.size;by_cases c6:k<rs.length
  ·obtain ⟨Y,W⟩:=HI.o;obtain ⟨bR,off,rfl,e5,e0⟩:=(d6.o wr W).atI k c6;have gg:=ShG.roots (ts:=ts) (rs.take k) (s0:=⟨[],[]⟩) (s:=⟨[],[]⟩) (n:=0) ⟨List.nodup_nil,fun v hv=>(by cases hv),⟨[],rfl⟩,rfl⟩ fun v hv=>cs.o v (List.mem_of_mem_take hv);have eq:=z2j O.o gg.nd gg.sub;have da:((rs.take k).foldl je.turn ⟨[],[]⟩).o.length<=1000000:=by
    have h1:((rs.take k).foldl je.turn ⟨[],[]⟩).o.length=0+(0+(rs.take k).length):=gg.o;rw [List.length_take]at h1;omega
   have a7:=ag (zv4 je.turn rs ⟨[],[]⟩ k c6);generalize (rs.take k).foldl je.turn ⟨[],[]⟩=s at*;have au:=ag (z2d wr (w.heap.size+1+1) (w.heap.size+1+1) vo _ Y.bx (by omega) rs[k]);obtain ⟨bb,bc,rfl⟩:=kh Y.row;have N:=ag Y;have Z:=ag W;generalize rs[k]=v at*;clear gg Y W HI;go_wp2_with fail;refine au.o.mono ?_;rintro r w5 ⟨rfl,a4,x5,m5⟩;have a3:=N.o.turned x5 m5;have ak:Below (w.heap.size+1+1) W0 w5:=Z.o.trans (N.o.bx.bel m5 (by omega));have af:=ag a3;have b5:=ag ak;obtain ⟨E,J⟩:∃E,s.o=E:=⟨_,rfl⟩;have ct:Hid ((rs.take (k+1)).foldl je.turn ⟨[],[]⟩=⟨shT s.met v,E++ [shN s.met v]⟩):=by rw [a7.o,<-J];rfl
   rw [J]at af da;have ac:=ag af.o.row;have ej:=ak.size;have L:Hid (E.length+1<=maxLen/\(E.length+1)*8<=140737488355328/\w.heap.size+1+1<=(w5.alloc (.cells #[.int .i64 (shN s.met v)] 3)).heap.size):=⟨by unfold maxLen;omega,by omega,by simp;omega⟩;rw [J];generalize shN s.met v=nv at*;clear x5 m5 a3 ak au N Z e0 J a7;go_wp2_with (at_builtin;refine wpList_append_lies _ rfl _ _ 22 rfl (w.heap.size+1+1) 3 iI (.int .i64 0) 1 8 Tryz.underlying22 cl a0 a1 a2 rfl (by decide) (.slice bb E.length bc) E.length (bv E) rfl (ac.o.alloc _) ⟨w5.heap.size,0,none⟩ 1 1 [.int .i64 nv] rfl rfl (World.news_of_block (heap_alloc_new w5 _)) (by intro u hu;simp at hu;subst hu;rfl) (by omega) L.o.1 L.o.2.1 L.o.2.2 _ rfl ?_);intro gA cA w3 I G ah az;have X:Below w5.heap.size w5 (w5.alloc (.cells #[.int .i64 nv] 3)):=(br _ _).alloc (nlq _) _;have sA:=af.o.below X;have s3:=sA.told (l:=[nv]) (vt':=.slice (some ⟨gA,0,none⟩) (E.length+1) cA) G (by
    show w3.ownsRow _ 3 1 (.slice (some ⟨gA,0,none⟩) (E.length+1) cA) (E++ [nv]).length (bv (E++ [nv]));rw [List.length_append,zhs];exact I) (ah.elim (fun q=>Or.inl q.symm) fun q=>Or.inr ⟨gA,rfl,by simp;omega⟩)
   have ai:Below (w.heap.size+1+1) W0 w3:=b5.o.trans ((X.mono (by have:=bz af.o.bx.blk;omega)).trans (sA.bel G));have HF:Hid (Sh (w.heap.size+1+1) w3 (w.heap.size+1+1) a4 (.slice (some ⟨gA,0,none⟩) (E.length+1) cA) ((rs.take (k+1)).foldl je.turn ⟨[],[]⟩)/\Below (w.heap.size+1+1) W0 w3):=⟨by rw [ct.o];exact s3,ai⟩;clear I G ah X sA s3 ai ac L;go_wp2_with fail;go_roundw
   case rel=>exact ⟨k+1,a4,by go_num,by omega,HF.o⟩
   case measure=>simp [intOf];omega
  obtain rfl:k=rs.length:=by omega
  have ch:=HI.o;rw [List.take_length]at ch;have ca:=ag ch;clear HI ch df;go_wp2_with fail;go_loopw [8,11] (fun vt i wr=>∃(k:Nat) (vo:Value) (s:je),i=.int .i64 k/\k<=h.ab.length/\Hid (Sh (w.heap.size+1+1) wr (w.heap.size+1+1) vo vt s/\ShI d h ts rs k s/\Below (w.heap.size+1+1) W0 wr)) (fun _ i _=>h.ab.length+1 - (intOf i).toNat)
  case atStart=>exact ⟨0,vo,_,rfl,n0q _,ca.o.1,ShI.start cs.o,ca.o.2⟩
  case round=>
   obtain ⟨k,ft,s,rfl,e9,HI⟩:=hrel;clear ca;obtain ⟨wq,ek⟩:∃wq,wq=wr:=⟨_,rfl⟩;subst ek;obtain ⟨Y,hI,W⟩:=HI.o;have df:=W.size;obtain ⟨ff,da⟩:=hI.small O.o;obtain ⟨aP,cy,rfl⟩:=kh Y.bx.row;have p0:=ba Y.bx.blk 0 (x:=.slice aP s.met.length cy) rfl;have lP:=bz Y.bx.blk;by_cases al:k<s.met.length
   ·obtain ⟨gO,eg⟩:∃gO,aP=some ⟨gO,0,none⟩:=by
     rcases Y.bx.row.2 with ⟨e,h0⟩ | ⟨g,cap,e3,e,-⟩
     ·omega
     injection e with e1;exact ⟨g,e1⟩
    subst eg;have cn:s.met[k]? =some s.met[k]:=List.getElem?_eq_getElem al;obtain ⟨t,ht,cp⟩:=hI.sub _ (gm al);have ec:=zsg O.o.sized O.o.both t ht;obtain ⟨a,ha⟩:∃a:Nat,s.met[k]=(a:Int):=⟨s.met[k].toNat,by omega⟩;have e0:=(Y.bx.row.cellAt k (by rw [Nat.mul_one];exact al)).trans (zmp al);have lO:=(Y.bx.row.lt gO rfl).2;rw [ha]at e0 cp cn;have bm:bj h.ab (a:Int)=t:=by rw [<-cp];exact (th_at O.o ht).symm
    have ci:FitT d (bj h.ab (a:Int)):=by
     rw [bm];by_cases hy:t.loc<=h.ae
     ·exact (zuv O.o ht hy).fit
     exact (zu7 O.o ht (by omega)).2.2.2.1
    have ef:(bj h.ab (a:Int)).fin<=h.ab.length:=by rw [bm];omega
    have ee:(bj h.ab (a:Int)).fin=(a:Int)+3+(bj h.ab (a:Int)).len:=rfl;have e7:=ci.lo;obtain ⟨cm,fi⟩:=hI.next O.o cn;have es:=(cm.small O.o).2;have a7:=ag cm;have d2:=ag ci;have d8:Hid (bj h.ab (a:Int)∈ts):=by rw [bm];exact ht
    have dg:h.ab[a]'(by omega)=(bj h.ab (a:Int)).tag:=(zen (by omega)).symm;have c5:h.ab[a+1]'(by omega)=(bj h.ab (a:Int)).len:=by show _=wd h.ab ((a:Int)+1);rw [show (a:Int)+1=((a+1:Nat):Int) by omega];exact (zen (by omega)).symm
    have c4:h.ab[a+2]'(by omega)=(bj h.ab (a:Int)).hash:=by show _=wd h.ab ((a:Int)+2);rw [show (a:Int)+2=((a+2:Nat):Int) by omega];exact (zen (by omega)).symm
    obtain ⟨bW,oW,rfl,c2,-⟩:=atIm (b6.o wq W).sW a (by omega);have a9:Hid (∀V,Below (w.heap.size+1+1) W0 V->∀m:Nat,m<h.ab.length->V.cell? ⟨bW,oW+m,none⟩=some (.int .i64 (wd h.ab m))):=fun V hV m hm=>by obtain ⟨b1,o1,q1,-,-,q2⟩:=atIm (b6.o V hV).sW m hm;cases q1;rw [zen hm];exact q2
    have b7:Hid (∀V,Below (w.heap.size+1+1) W0 V->V.heap[w.heap.size]? =_/\V.heap[w.heap.size+1]? =_):=fun V hV=>⟨(hV.block _ (by omega:w.heap.size<w.heap.size+1+1)).trans cr.o.1,(hV.block _ (by omega:w.heap.size+1<w.heap.size+1+1)).trans cr.o.2⟩;have em:bW<w.heap.size+1+1:=by have h:bW<B:=c2;omega
    have cx:Hid (∀V,Below (w.heap.size+1+1) W0 V->V.cell? ⟨bW,oW+a,none⟩=some (.int .i64 (bj h.ab (a:Int)).tag)/\V.cell? ⟨bW,oW+(a+1),none⟩=some (.int .i64 (bj h.ab (a:Int)).len)/\V.cell? ⟨bW,oW+(a+2),none⟩=some (.int .i64 (bj h.ab (a:Int)).hash)):=fun V hV=>by have q0:=a9.o V hV a (by omega);have q1:=a9.o V hV (a+1) (by omega);have q2:=a9.o V hV (a+2) (by omega);rw [zen (by omega)]at q0 q1 q2;rw [dg]at q0;rw [c5]at q1;rw [c4]at q2;exact ⟨q0,q1,q2⟩
    obtain ⟨t0,t1,t2⟩:=cx.o wq W;have c0:=ba (b7.o wq W).1 0 (x:=.slice (some ⟨bW,oW,none⟩) h.ab.length cW) rfl;obtain ⟨bb,bc,rfl⟩:=kh Y.row;have N:=ag Y;have Z:=ag W;have w1:IntKind.i64.wrap ((a:Int)+1)=(a:Int)+1:=ge _ (by omega) (by omega);have w2:IntKind.i64.wrap ((a:Int)+2)=(a:Int)+2:=ge _ (by omega) (by omega);have w3:IntKind.i64.wrap ((a:Int)+3)=(a:Int)+3:=ge _ (by omega) (by omega);have i0:(0:Int)<=a:=by omega
    have i1:(a:Int)<h.ab.length:=by omega
    have i2:(0:Int)<=(a:Int)+1:=by omega
    have i3:(a:Int)+1<h.ab.length:=by omega
    have i4:(0:Int)<=(a:Int)+2:=by omega
    have i5:(a:Int)+2<h.ab.length:=by omega
    have i6:((a:Int)+1).toNat=a+1:=by omega
    have i7:((a:Int)+2).toNat=a+2:=by omega
    have lB:w.heap.size<w.heap.size+1+1:=by omega
    have fo:w.heap.size+1<w.heap.size+1+1:=by omega
    have e4:w.heap.size+1+1<=wq.heap.size:=by omega
    have fa:(a:Int)+3+(bj h.ab (a:Int)).len<=h.ab.length:=by omega
    have cc:Hid ((bj h.ab (a:Int)).len.toNat=(bj h.ab (a:Int)).len):=by show (((bj h.ab (a:Int)).len.toNat:Nat):Int)=_;omega
    have cv:=ag (And.intro hI.nd hI.sub);clear hI Y W HI ec cp bm ci cm cn ht dg c5 c4 ef ee ha;go_wp2_with fail;refine wp_region_held_drew (S:=fun W'=>∀p:Addr,p.block<w.heap.size+1+1->W'.cell? p=wq.cell? p) (by kernel_rfl) (fun p hp=>rfl) fun D=>?_;refine ta 0 (.slice bb s.o.length bc) rfl D ?_;refine ta 1 (.pointer (some ⟨w.heap.size,0,none⟩)) rfl D ?_;refine ta 2 (.slice (some ⟨bW,oW,none⟩) h.ab.length cW) rfl D ?_;refine ta 3 (.int .i64 (a:Int)) rfl D ?_;refine ta 4 (.pointer (some ⟨bW,oW+a,none⟩)) rfl D ?_;refine ta 5 (.int .i64 (bj h.ab (a:Int)).tag) rfl D ?_;refine ta 6 (.pointer (some ⟨w.heap.size,0,none⟩)) rfl D ?_;refine ta 7 (.slice (some ⟨bW,oW,none⟩) h.ab.length cW) rfl D ?_;refine ta 8 (.int .i64 (a:Int)) rfl D ?_;refine ta 9 (.int .i64 ((a:Int)+1)) rfl D ?_;refine ta 10 (.pointer (some ⟨bW,oW+(a+1),none⟩)) rfl D ?_;refine ta 11 (.int .i64 (bj h.ab (a:Int)).len) rfl D ?_;refine ta 12 (.pointer (some ⟨w.heap.size,0,none⟩)) rfl D ?_;refine ta 13 (.slice (some ⟨bW,oW,none⟩) h.ab.length cW) rfl D ?_;refine ta 14 (.int .i64 (a:Int)) rfl D ?_;refine ta 15 (.int .i64 ((a:Int)+2)) rfl D ?_;refine ta 16 (.pointer (some ⟨bW,oW+(a+2),none⟩)) rfl D ?_;refine ta 17 (.int .i64 (bj h.ab (a:Int)).hash) rfl D ?_;refine wpAnyH_ready (rs:=[18]) (by kernel_rfl) (by simp) ?_;refine AllReadyH.cons rfl (fun ez bn=>?_) AllReadyH.nil;go_simp;obtain ⟨V1,bh⟩:∃V1,V1=(wq.alloc (.cells #[.int .i64 (bj h.ab (a:Int)).tag,.int .i64 (bj h.ab (a:Int)).len,.int .i64 (bj h.ab (a:Int)).hash] 3)).drew:=⟨_,rfl⟩;rw [<-bh];have bi:V1.heap[wq.heap.size]? =some (.cells #[.int .i64 (bj h.ab (a:Int)).tag,.int .i64 (bj h.ab (a:Int)).len,.int .i64 (bj h.ab (a:Int)).hash] 3 (0,0)):=bh ▸ heap_alloc_new wq _;have aa:Below wq.heap.size wq V1:=bh ▸ ((br _ wq).alloc (nlq _) _).drew;have en:=bz bi;have ds:SL 1 RI (· <V1.heap.size) V1 (.slice (some ⟨wq.heap.size,0,none⟩) 3 3) [(bj h.ab (a:Int)).tag,(bj h.ab (a:Int)).len,(bj h.ab (a:Int)).hash]:=(zfb (zsx (n:=3) (cap:=3) bi (nlq wq.heap.size) rfl (nlq _) (by unfold maxLen;omega) rfl (fun i u hi=>by rw [zsw bi];simpa [bv]using hi)) (by simp)).monoI fun j hj=>hj.lt;refine bn.o _ _ (fun p hp=>aa.cell (by omega)) fun D=>?_;refine wpAnyH_ready (rs:=[19]) (by kernel_rfl) (by simp) ?_;refine AllReadyH.cons rfl (fun e2 bq=>?_) AllReadyH.nil;refine zrr V1 rfl (.tmp 41) (.tmp 59) rfl (w.heap.size+1+1) (.slice bb s.o.length bc) s.o rfl (kg N.o.row aa) (· <V1.heap.size) (.slice (some ⟨wq.heap.size,0,none⟩) 3 3) [(bj h.ab (a:Int)).tag,(bj h.ab (a:Int)).len,(bj h.ab (a:Int)).hash] rfl ds (by simp;omega) (by omega) ?_;intro v8 V2 c9 cj dk;have ay:Below (w.heap.size+1+1) wq V2:=(aa.mono (by omega)).trans ((N.o.below aa).bel cj);refine bq.o _ _ (fun p hp=>ay.cell hp) fun D=>?_;have du:Sh (w.heap.size+1+1) V2 (w.heap.size+1+1) (.slice (some ⟨gO,0,none⟩) s.met.length cy) v8 ⟨s.met,s.o++ [(bj h.ab (a:Int)).tag,(bj h.ab (a:Int)).len,(bj h.ab (a:Int)).hash]⟩:=(N.o.below aa).told cj c9 (dk.imp id fun e=>⟨_,e,nlq _⟩);have d4:=ag du;have d0:=ag (Z.o.trans ay);refine ta 20 (v8) rfl D ?_;refine wpAnyH_done (by kernel_rfl) ?_ _;clear D bn bq c9 cj dk ay ds bi aa bh du;try simp only [Act.put,p1q,p4q,p3q,p2q,p5q,p6q]
    clear N Z e0 lO c0 t0 t1 t2 p0 lP;generalize htl:(bj h.ab (a:Int)).len.toNat=tn at*;have et:s.o.length+3+tn<=rs.length+h.ab.length:=by omega
    have a8:=ag htl;clear htl;go_wp2_with fail;go_loopw [8,13] (fun vt i wr=>∃(n:Nat) (vo:Value),i=.int .i64 n/\n<=tn/\Hid (Sh (w.heap.size+1+1) wr (w.heap.size+1+1) vo vt ((List.range n).foldl (je.word d h.ab (bj h.ab (a:Int))) ⟨s.met,s.o++ [(bj h.ab (a:Int)).tag,(bj h.ab (a:Int)).len,(bj h.ab (a:Int)).hash]⟩)/\Below (w.heap.size+1+1) W0 wr)) (fun _ i _=>tn - (intOf i).toNat)
    case atStart=>exact ⟨0,_,rfl,n0q _,d4.o,d0.o⟩
    case round=>
     obtain ⟨n,ar,rfl,hn,HJ⟩:=hrel;obtain ⟨A,dl⟩:∃A,A=wr:=⟨_,rfl⟩;subst dl;obtain ⟨Y,W⟩:=HJ.o;have ex:=W.size;obtain ⟨t0,t1,-⟩:=cx.o A W;have j0:=(b7.o A W).1;have c0:=ba j0 0 (x:=.slice (some ⟨bW,oW,none⟩) h.ab.length cW) rfl;have fr:=bz j0;have el:bW<A.heap.size:=by omega
     by_cases az:n<tn
     ·have c7:(n:Int)<(bj h.ab (a:Int)).len:=by have:=cc.o;have:=a8.o;omega
      have gg:=ShG.ab O.o d8.o (List.range n) (s0:=s) (s:=⟨s.met,s.o++ [(bj h.ab (a:Int)).tag,(bj h.ab (a:Int)).len,(bj h.ab (a:Int)).hash]⟩) (n:=3) ⟨cv.o.1,cv.o.2,⟨[],(List.append_nil _).symm⟩,by rw [List.length_append];rfl⟩ (fun j hj=>by have:=List.mem_range.1 hj;omega);have er:=z2j O.o gg.nd gg.sub;have dd:((List.range n).foldl (je.word d h.ab (bj h.ab (a:Int))) ⟨s.met,s.o++ [(bj h.ab (a:Int)).tag,(bj h.ab (a:Int)).len,(bj h.ab (a:Int)).hash]⟩).o.length<=s.o.length+3+tn:=by have h1:=gg.o;rw [List.length_range]at h1;omega
      have bu:((List.range (n+1)).foldl (je.word d h.ab (bj h.ab (a:Int))) ⟨s.met,s.o++ [(bj h.ab (a:Int)).tag,(bj h.ab (a:Int)).len,(bj h.ab (a:Int)).hash]⟩)=je.word d h.ab (bj h.ab (a:Int)) ((List.range n).foldl (je.word d h.ab (bj h.ab (a:Int))) ⟨s.met,s.o++ [(bj h.ab (a:Int)).tag,(bj h.ab (a:Int)).len,(bj h.ab (a:Int)).hash]⟩) n:=by rw [List.range_succ,List.foldl_append];rfl
      have s3:=a9.o A W (a+3+n) (by omega);have ao:=ag (fun V (hV:Below A.heap.size A V)=>zky V B _ _ _ _ _ d (b6.o V (W.trans (hV.mono (by omega)))).lk (bj h.ab (a:Int)) d2.o n c7);have ea:Hid (wd h.ab ((bj h.ab (a:Int)).loc+3+n)=wd h.ab ((a+3+n:Nat):Int)):=by show wd h.ab ((a:Int)+3+n)=_;rw [show (a:Int)+3+(n:Int)=((a+3+n:Nat):Int) by omega]
      generalize ((List.range n).foldl (je.word d h.ab (bj h.ab (a:Int))) ⟨s.met,s.o++ [(bj h.ab (a:Int)).tag,(bj h.ab (a:Int)).len,(bj h.ab (a:Int)).hash]⟩)=u at*;have w4:IntKind.i64.wrap ((a:Int)+3+n)=(a:Int)+3+n:=ge _ (by omega) (by omega);have i8:(0:Int)<=(a:Int)+3+n:=by omega
      have i9:(a:Int)+3+n<h.ab.length:=by omega
      have fl:((a:Int)+3+n).toNat=a+3+n:=by omega
      have q7:decide ((n:Int)<(bj h.ab (a:Int)).len)=true:=decide_eq_true c7;obtain ⟨b0,b1,b2,b3,b4,bl⟩:=cells5 (b7.o A W).2;obtain ⟨ce,cf,rfl⟩:=kh Y.row;obtain ⟨E,J⟩:∃E,u.o=E:=⟨_,rfl⟩;rw [J]at dd;have N:Hid (Sh (w.heap.size+1+1) A (w.heap.size+1+1) ar (.slice ce E.length cf) ⟨u.met,E⟩):=by rw [<-J];exact Y
      have Z:=ag W;have a6:Hid (je.word d h.ab (bj h.ab (a:Int)) u n=if jh d.fields (bj h.ab (a:Int)) n then ⟨shT u.met (wd h.ab ((a+3+n:Nat):Int)),E++ [shN u.met (wd h.ab ((a+3+n:Nat):Int))]⟩ else ⟨u.met,E++ [wd h.ab ((a+3+n:Nat):Int)]⟩):=by show _=_;unfold je.word;rw [ea.o,<-J];rfl
      have cu:=ag bu;generalize wd h.ab ((a+3+n:Nat):Int)=v at*;clear gg Y W HJ bu j0;have an:Hid (Below A.heap.size A A.drew):=(br _ _).drew;rw [J];clear J;cases hrf:jh d.fields (bj h.ab (a:Int)) n with
      | true=>
        rw [hrf]at ao a6;clear hrf;go_wp2_with fail;refine wp_region_held_drew (S:=fun W'=>∀p:Addr,p.block<A.heap.size->W'.cell? p=A.cell? p) (by kernel_rfl) (fun p hp=>rfl) fun D=>?_;refine ta 0 (.agg #[.slice aC d.aj.length cC,.slice aS d.ax.length cS,.slice aF d.fields.length cF,.slice aN d.names.length cN,.slice aT d.aq.length cT]) rfl D ?_;refine ta 1 (.pointer (some ⟨w.heap.size,0,none⟩)) rfl D ?_;refine ta 2 (.slice (some ⟨bW,oW,none⟩) h.ab.length cW) rfl D ?_;refine ta 3 (.int .i64 (a:Int)) rfl D ?_;refine ta 4 (.pointer (some ⟨bW,oW+a,none⟩)) rfl D ?_;refine ta 5 (.int .i64 (bj h.ab (a:Int)).tag) rfl D ?_;refine ta 6 (.int .i64 (n:Int)) rfl D ?_;refine wpAnyH_ready (rs:=[7]) (by kernel_rfl) (by simp) ?_;refine AllReadyH.cons rfl (fun K7 av=>?_) AllReadyH.nil;go_simp;refine (ao.o _ an.o).mono ?_;rintro r w2 ⟨rfl,aw⟩;have F:Below A.heap.size A w2:=an.o.trans aw;refine av.o _ _ (fun p hp=>F.cell hp) fun D=>?_;refine wpAnyH_done (by kernel_rfl) ?_ _;clear D av;try simp only [Act.put,p1q,p4q,p3q,p2q,p5q,p6q]
        have ei:=F.size;have ad:=ag (N.o.below F);have a5:Hid (Below (w.heap.size+1+1) W0 w2):=Z.o.trans (F.mono (by omega));clear aw F ao an N Z t0 t1 c0 s3 b0 b1 b2 b3 b4 bl;have au:=ag (z2d w2 (w.heap.size+1+1) (w.heap.size+1+1) ar _ ad.o.bx (by show u.met.length<=_;omega) v);go_wp2_with fail;refine au.o.mono ?_;rintro r w5 ⟨rfl,a4,x5,m5⟩;have a3:=ad.o.turned x5 m5;have ak:Below (w.heap.size+1+1) W0 w5:=a5.o.trans (ad.o.bx.bel m5 (by omega));have af:=ag a3;have b5:=ag ak;have ac:=ag af.o.row;have ej:=ak.size;have L:Hid (E.length+1<=maxLen/\(E.length+1)*8<=140737488355328/\w.heap.size+1+1<=(w5.alloc (.cells #[.int .i64 (shN u.met v)] 3)).heap.size):=⟨by unfold maxLen;omega,by omega,by simp;omega⟩;generalize shN u.met v=nv at*;clear x5 m5 a3 ak au ad a5;go_wp2_with (at_builtin;refine wpList_append_lies _ rfl _ _ 22 rfl (w.heap.size+1+1) 3 iI (.int .i64 0) 1 8 Tryz.underlying22 cl a0 a1 a2 rfl (by decide) (.slice ce E.length cf) E.length (bv E) rfl (ac.o.alloc _) ⟨w5.heap.size,0,none⟩ 1 1 [.int .i64 nv] rfl rfl (World.news_of_block (heap_alloc_new w5 _)) (by intro u hu;simp at hu;subst hu;rfl) (by omega) L.o.1 L.o.2.1 L.o.2.2 _ rfl ?_);intro gA cA w3 I G ah az;have X:Below w5.heap.size w5 (w5.alloc (.cells #[.int .i64 nv] 3)):=(br _ _).alloc (nlq _) _;have sA:=af.o.below X;have s3:=sA.told (l:=[nv]) (vt':=.slice (some ⟨gA,0,none⟩) (E.length+1) cA) G (by
         show w3.ownsRow _ 3 1 (.slice (some ⟨gA,0,none⟩) (E.length+1) cA) (E++ [nv]).length (bv (E++ [nv]));rw [List.length_append,zhs];exact I) (ah.elim (fun q=>Or.inl q.symm) fun q=>Or.inr ⟨gA,rfl,by simp;omega⟩)
        have ai:Below (w.heap.size+1+1) W0 w3:=b5.o.trans ((X.mono (by have:=bz af.o.bx.blk;omega)).trans (sA.bel G));have HF:Hid (Sh (w.heap.size+1+1) w3 (w.heap.size+1+1) a4 (.slice (some ⟨gA,0,none⟩) (E.length+1) cA) ((List.range (n+1)).foldl (je.word d h.ab (bj h.ab (a:Int))) ⟨s.met,s.o++ [(bj h.ab (a:Int)).tag,(bj h.ab (a:Int)).len,(bj h.ab (a:Int)).hash]⟩)/\Below (w.heap.size+1+1) W0 w3):=⟨by rw [cu.o,a6.o,if_pos trivial];exact s3,ai⟩;clear I G ah X sA s3 ai ac L;go_wp2_with fail;go_roundw
        case rel=>exact ⟨n+1,a4,by go_num,by omega,HF.o⟩
        case measure=>simp [intOf];omega
      | false=>
        rw [hrf]at ao a6;clear hrf;go_wp2_with fail;refine wp_region_held_drew (S:=fun W'=>∀p:Addr,p.block<A.heap.size->W'.cell? p=A.cell? p) (by kernel_rfl) (fun p hp=>rfl) fun D=>?_;refine ta 0 (.agg #[.slice aC d.aj.length cC,.slice aS d.ax.length cS,.slice aF d.fields.length cF,.slice aN d.names.length cN,.slice aT d.aq.length cT]) rfl D ?_;refine ta 1 (.pointer (some ⟨w.heap.size,0,none⟩)) rfl D ?_;refine ta 2 (.slice (some ⟨bW,oW,none⟩) h.ab.length cW) rfl D ?_;refine ta 3 (.int .i64 (a:Int)) rfl D ?_;refine ta 4 (.pointer (some ⟨bW,oW+a,none⟩)) rfl D ?_;refine ta 5 (.int .i64 (bj h.ab (a:Int)).tag) rfl D ?_;refine ta 6 (.int .i64 (n:Int)) rfl D ?_;refine wpAnyH_ready (rs:=[7]) (by kernel_rfl) (by simp) ?_;refine AllReadyH.cons rfl (fun K7 av=>?_) AllReadyH.nil;go_simp;refine (ao.o _ an.o).mono ?_;rintro r w2 ⟨rfl,aw⟩;have F:Below A.heap.size A w2:=an.o.trans aw;refine av.o _ _ (fun p hp=>F.cell hp) fun D=>?_;refine wpAnyH_done (by kernel_rfl) ?_ _;clear D av;try simp only [Act.put,p1q,p4q,p3q,p2q,p5q,p6q]
        have ei:=F.size;have ad:=ag (N.o.below F);have a5:Hid (Below (w.heap.size+1+1) W0 w2):=Z.o.trans (F.mono (by omega));clear aw F ao an N Z t0 t1 c0 s3 b0 b1 b2 b3 b4 bl;have ac:=ag ad.o.row;have eu:w.heap.size+1+1<=w2.heap.size:=by omega
        have L:Hid (E.length+1<=maxLen/\(E.length+1)*8<=140737488355328/\w.heap.size+1+1<=(w2.alloc (.cells #[.int .i64 v] 3)).heap.size):=⟨by unfold maxLen;omega,by omega,by simp;omega⟩;go_wp2_with (at_builtin;refine wpList_append_lies _ rfl _ _ 22 rfl (w.heap.size+1+1) 3 iI (.int .i64 0) 1 8 Tryz.underlying22 cl a0 a1 a2 rfl (by decide) (.slice ce E.length cf) E.length (bv E) rfl (ac.o.alloc _) ⟨w2.heap.size,0,none⟩ 1 1 [.int .i64 v] rfl rfl (World.news_of_block (heap_alloc_new w2 _)) (by intro u hu;simp at hu;subst hu;rfl) (by omega) L.o.1 L.o.2.1 L.o.2.2 _ rfl ?_);intro gA cA w3 I G ah az;have X:Below w2.heap.size w2 (w2.alloc (.cells #[.int .i64 v] 3)):=(br _ _).alloc (nlq _) _;have sA:=ad.o.below X;have s3:=sA.told (l:=[v]) (vt':=.slice (some ⟨gA,0,none⟩) (E.length+1) cA) G (by
         show w3.ownsRow _ 3 1 (.slice (some ⟨gA,0,none⟩) (E.length+1) cA) (E++ [v]).length (bv (E++ [v]));rw [List.length_append,zhs];exact I) (ah.elim (fun q=>Or.inl q.symm) fun q=>Or.inr ⟨gA,rfl,by simp;omega⟩)
        have ai:Below (w.heap.size+1+1) W0 w3:=a5.o.trans ((X.mono (by have:=bz ad.o.bx.blk;omega)).trans (sA.bel G));have HF:Hid (Sh (w.heap.size+1+1) w3 (w.heap.size+1+1) ar (.slice (some ⟨gA,0,none⟩) (E.length+1) cA) ((List.range (n+1)).foldl (je.word d h.ab (bj h.ab (a:Int))) ⟨s.met,s.o++ [(bj h.ab (a:Int)).tag,(bj h.ab (a:Int)).len,(bj h.ab (a:Int)).hash]⟩)/\Below (w.heap.size+1+1) W0 w3):=⟨by rw [cu.o,a6.o,if_neg (by simp)];exact s3,ai⟩;clear I G ah X sA s3 ai ac L;go_wp2_with fail;go_roundw
        case rel=>exact ⟨n+1,ar,by go_num,by omega,HF.o⟩
        case measure=>simp [intOf];omega
     have c8:n=tn:=by omega
     have bs:((List.range n).foldl (je.word d h.ab (bj h.ab (a:Int))) ⟨s.met,s.o++ [(bj h.ab (a:Int)).tag,(bj h.ab (a:Int)).len,(bj h.ab (a:Int)).hash]⟩)=s.thing d h.ab (a:Int):=by unfold je.thing;rw [a8.o,c8]
     have HF:Hid (Sh (w.heap.size+1+1) A (w.heap.size+1+1) ar _ (s.thing d h.ab (a:Int))/\ShI d h ts rs (k+1) (s.thing d h.ab (a:Int))/\Below (w.heap.size+1+1) W0 A):=⟨bs ▸ Y,a7.o,W⟩;have q7:decide ((n:Int)<(bj h.ab (a:Int)).len)=false:=decide_eq_false (by have:=cc.o;have:=a8.o;omega);have q8:¬(n:Int)<(bj h.ab (a:Int)).len:=by have:=cc.o;have:=a8.o;omega
     clear bs Y W HJ j0 c8;go_wp2_with fail;go_roundw
     case rel=>exact ⟨k+1,ar,_,by go_num,by omega,HF.o⟩
     case measure=>simp [intOf];omega
   have c3:=hI.done (by omega);have HF:Hid (Below w.heap.size w wq/\wq.ownsRow w.heap.size 3 1 _ (j6 d h rs).length (bv (j6 d h rs))):=⟨dz.o.trans (W.mono (by omega)),by rw [<-c3];exact zhp Y.row (by omega)⟩;clear Y hI W HI c3;go_wp2_with fail;go_ret;exact ⟨HF.o.1,_,rfl,HF.o.2⟩
section
end

theorem z2y {d:be} {h:bd} {ts:List bp} (r:Right d h ts) {rs:List Int} (A:∀v∈rs,cw ts v=true):(j6 d h rs).length<=rs.length+h.ab.length:=by
 have u:∀(f k:Nat) (s:je),ShI d h ts rs k s->(je.all d h.ab f k s).o.length<=rs.length+h.ab.length:=by
  intro f;induction f with
  | zero=>intro k s i;exact (i.small r).2
  | succ f ih=>
    intro k s i;rw [je.all];cases ha:s.met[k]? with
    | none=>exact (i.small r).2
    | some a=>exact ih (k+1) _ (i.next r ha).1
 exact u _ 0 _ (ShI.start A)
theorem z2z {ts:List bp} {rs:List Int} (h1:rs.length<=1000) (u:∀v∈rs,cw ts v=true):iz ts rs=0:=by
 unfold iz;rw [decide_eq_true (by omega:(rs.length:Int)<=1000),if_pos rfl];have:(rs.any fun x=>!cw ts x)=false:=List.any_eq_false.2 fun v A=>by rw [u v A];simp
 rw [this];rfl
theorem z20 (w:World) (B:Nat) (vW vO kC kS kF kN kT xW xO:Value) (h x:bd) (d:be) (g:Hd B w vW vO kC kS kF kN kT h d) (gx:Hd B w xW xO kC kS kF kN kT x d) (ts tx:List bp) (rt:Right d h ts) (rx:Right d x tx) (bi:x.next<=9223372036854775807) (vR:Value) (rs:List Int) (hs:SL 1 RI (· <B) w vR rs) (hr:∀v∈rs,cw ts v=true) (cn:rs.length<=1000) (vM:Value) (E:List Int) (hm:SL 1 RI (· <B) w vM E) (ak:∀v∈E,cw tx v=true) (bh:E.length=rs.length) (bm:j6 d x E=j6 d h rs):
 Calls Tryz.prog 39 #[.agg #[vW,.int .i64 h.ae,.int .i64 h.old,.int .i64 h.bg,.int .i64 h.bk,vO,.int .i64 h.next],.agg #[kC,kS,kF,kN,kT],vR,.agg #[xW,.int .i64 x.ae,.int .i64 x.old,.int .i64 x.bg,.int .i64 x.bk,xO,.int .i64 x.next],vM] w fun r w'=>r=.returned (.bool true)/\Below w.heap.size w w':=by
 have HG:=ag g;have bu:=ag gx;have b7:=ag hs;have b5:=ag hm;obtain ⟨aW,cW,aO,cO,N,Z,X,cS,O,cF,W,cN,Y,cT,rfl,rfl,rfl,rfl,rfl,rfl,rfl⟩:=g.agg;obtain ⟨aX,cX,rfl,-⟩:=gx.sW;obtain ⟨aQ,cQ,rfl,-⟩:=gx.sO;obtain ⟨aR,cR,rfl,-⟩:=hs;obtain ⟨aM,cM,rfl,-⟩:=hm;have cl:=g.le;clear g gx;obtain ⟨A,a9,aa,ce,k0,k1,k2⟩:=boxes3 w #[.slice aW h.ab.length cW,.int .i64 h.ae,.int .i64 h.old,.int .i64 h.bg,.int .i64 h.bk,.slice aO h.ap.length cO,.int .i64 h.next] #[.slice N d.aj.length Z,.slice X d.ax.length cS,.slice O d.fields.length cF,.slice W d.names.length cN,.slice Y d.aq.length cT] #[.slice aX x.ab.length cX,.int .i64 x.ae,.int .i64 x.old,.int .i64 x.bg,.int .i64 x.bk,.slice aQ x.ap.length cQ,.int .i64 x.next] 24 36 24;have co:=bz k0;have lk1:=bz k1;have lk2:=bz k2;have ar:=ag aa;have bs:=ag a9;obtain ⟨a0,a1,a2,a3,a4,a5,a6,az,al⟩:=jk k0;obtain ⟨b0,b1,b2,b3,b4,bl⟩:=cells5 k1;obtain ⟨x0,x1,x2,x3,x4,x5,x6,xz,xl⟩:=jk k2;have D:Hid (∀V,Below A.heap.size A V->Hd B V (.slice aW h.ab.length cW) (.slice aO h.ap.length cO) (.slice N d.aj.length Z) (.slice X d.ax.length cS) (.slice O d.fields.length cF) (.slice W d.names.length cN) (.slice Y d.aq.length cT) h d/\Hd B V (.slice aX x.ab.length cX) (.slice aQ x.ap.length cQ) (.slice N d.aj.length Z) (.slice X d.ax.length cS) (.slice O d.fields.length cF) (.slice W d.names.length cN) (.slice Y d.aq.length cT) x d/\SL 1 RI (· <B) V (.slice aR rs.length cR) rs/\SL 1 RI (· <B) V (.slice aM E.length cM) E):=fun V F=>by have hb:=(aa.trans (F.mono aa.size)).mono HG.o.le;exact ⟨HG.o.below hb,bu.o.below hb,b7.o.keptI (Kp.below hb),b5.o.keptI (Kp.below hb)⟩
 have bx:Hid (∀V,Below A.heap.size A V->Calls Tryz.prog 21 #[.agg #[.slice aX x.ab.length cX,.int .i64 x.ae,.int .i64 x.old,.int .i64 x.bg,.int .i64 x.bk,.slice aQ x.ap.length cQ,.int .i64 x.next],.agg #[.slice N d.aj.length Z,.slice X d.ax.length cS,.slice O d.fields.length cF,.slice W d.names.length cN,.slice Y d.aq.length cT]] V fun r w'=>r=.returned (.int .i64 0)/\Below V.heap.size V w'):=fun V F=>by have:=zrf V B _ _ _ _ _ _ _ x d (D.o V F).2.1 bi;rw [rx.err]at this;exact this
 have bq:Hid (∀V,Below A.heap.size A V->Calls Tryz.prog 85 #[.agg #[.slice aX x.ab.length cX,.int .i64 x.ae,.int .i64 x.old,.int .i64 x.bg,.int .i64 x.bk,.slice aQ x.ap.length cQ,.int .i64 x.next],.agg #[.slice N d.aj.length Z,.slice X d.ax.length cS,.slice O d.fields.length cF,.slice W d.names.length cN,.slice Y d.aq.length cT],.slice aM E.length cM] V fun r w'=>r=.returned (.int .i64 0)/\Below V.heap.size V w'):=fun V F=>by have:=zue V B _ _ _ _ _ _ _ x d (D.o V F).2.1 rx.sized (zki rx.ok) tx rx.both _ E (D.o V F).2.2.2;rw [z2z (by omega) ak]at this;exact this
 have b6:=ag fun V (F:Below A.heap.size A V)=>z2k V B _ _ _ _ _ _ _ h d (D.o V F).1 ts rt _ rs (D.o V F).2.2.1 hr (by omega);have aw:=ag fun V (F:Below A.heap.size A V)=>z2k V B _ _ _ _ _ _ _ x d (D.o V F).2.1 tx rx _ E (D.o V F).2.2.2 ak (by omega);rw [bm]at aw;have av:Hid ((j6 d h rs).length<=1000000):=by have h1:=z2y rt hr;have z1:=rt.sized.ae;have z2:=rt.sized.old;have z3:=rt.sized.len;show _<=_;omega
 generalize j6 d h rs=sl at*;have ad:Hid (Below A.heap.size A A.drew):=(br _ _).drew;have ac:(rs.length:Int)=E.length:=by omega
 have cm:((rs.length:Int)==(E.length:Int))=true:=by rw [ac];simp
 clear k0 k1 k2 aa a9 ce rt rx hr ak bm bi ac;have cf:=ag bh;clear bh;go_enter Tryz.func39,Tryz.ntmps39;go_wp2_with fail;rw [<-bs.o];refine wp_region_held_drew (S:=fun W'=>∀p:Addr,p.block<A.heap.size->W'.cell? p=A.cell? p) (by kernel_rfl) (fun p L=>rfl) fun u=>?_;refine ta 0 (.agg #[.slice aX x.ab.length cX,.int .i64 x.ae,.int .i64 x.old,.int .i64 x.bg,.int .i64 x.bk,.slice aQ x.ap.length cQ,.int .i64 x.next]) rfl u ?_;refine ta 1 (.agg #[.slice N d.aj.length Z,.slice X d.ax.length cS,.slice O d.fields.length cF,.slice W d.names.length cN,.slice Y d.aq.length cT]) rfl u ?_;refine wpAnyH_ready (rs:=[2]) (by kernel_rfl) (by simp) ?_;refine AllReadyH.cons rfl (fun K2 ca=>?_) AllReadyH.nil;go_simp;refine (bx.o _ ad.o).mono ?_;rintro r w1 ⟨rfl,bb⟩;have G:Below A.heap.size A w1:=ad.o.trans (bb.mono ad.o.size);refine ca.o _ _ (fun p L=>G.cell L) fun u=>?_;refine ta 3 (.bool true) rfl u ?_;refine ta 4 (.bool true) rfl u ?_;refine ta 5 (.agg #[.slice aX x.ab.length cX,.int .i64 x.ae,.int .i64 x.old,.int .i64 x.bg,.int .i64 x.bk,.slice aQ x.ap.length cQ,.int .i64 x.next]) rfl u ?_;refine ta 6 (.agg #[.slice N d.aj.length Z,.slice X d.ax.length cS,.slice O d.fields.length cF,.slice W d.names.length cN,.slice Y d.aq.length cT]) rfl u ?_;refine ta 7 (.slice aM E.length cM) rfl u ?_;refine wpAnyH_ready (rs:=[8]) (by kernel_rfl) (by simp) ?_;refine AllReadyH.cons rfl (fun K8 cc=>?_) AllReadyH.nil;go_simp;refine (bq.o _ G).mono ?_;rintro r w2 ⟨rfl,bc⟩;have I:Below A.heap.size A w2:=G.trans (bc.mono G.size);refine cc.o _ _ (fun p L=>I.cell L) fun u=>?_;refine ta 9 (.bool true) rfl u ?_;refine ta 10 (.bool true) rfl u ?_;refine ta 11 (.bool true) rfl u ?_;refine ta 12 (.slice aR rs.length cR) rfl u ?_;refine ta 13 (.int .i64 rs.length) rfl u ?_;refine ta 14 (.slice aM E.length cM) rfl u ?_;refine ta 15 (.int .i64 E.length) rfl u ?_;refine ta 16 (.bool true) rfl u ?_;refine ta 17 (.bool true) rfl u ?_;refine ta 18 (.bool true) rfl u ?_;refine ta 19 (.agg #[.slice aW h.ab.length cW,.int .i64 h.ae,.int .i64 h.old,.int .i64 h.bg,.int .i64 h.bk,.slice aO h.ap.length cO,.int .i64 h.next]) rfl u ?_;refine ta 20 (.agg #[.slice N d.aj.length Z,.slice X d.ax.length cS,.slice O d.fields.length cF,.slice W d.names.length cN,.slice Y d.aq.length cT]) rfl u ?_;refine ta 21 (.slice aR rs.length cR) rfl u ?_;refine ta 23 (.agg #[.slice aX x.ab.length cX,.int .i64 x.ae,.int .i64 x.old,.int .i64 x.bg,.int .i64 x.bk,.slice aQ x.ap.length cQ,.int .i64 x.next]) rfl u ?_;refine ta 24 (.agg #[.slice N d.aj.length Z,.slice X d.ax.length cS,.slice O d.fields.length cF,.slice W d.names.length cN,.slice Y d.aq.length cT]) rfl u ?_;refine ta 25 (.slice aM E.length cM) rfl u ?_;refine wpAnyH_ready (rs:=[22]) (by kernel_rfl) (by simp) ?_;refine AllReadyH.cons rfl (fun ch ay=>?_) AllReadyH.nil;go_simp;refine (b6.o _ I).mono ?_;rintro r w3 ⟨bf,v3,rfl,an⟩;obtain ⟨a3,c3,rfl⟩:=kh an;have J:Below A.heap.size A w3:=I.trans (bf.mono I.size);refine ay.o _ _ (fun p L=>J.cell L) fun u=>?_;refine wpAnyH_ready (rs:=[26]) (by kernel_rfl) (by simp) ?_;refine AllReadyH.cons rfl (fun ci a7=>?_) AllReadyH.nil;go_simp;refine (aw.o _ J).mono ?_;rintro r w4 ⟨af,v4,rfl,ao⟩;obtain ⟨a4,c4,rfl⟩:=kh ao;have ah:Below A.heap.size A w4:=J.trans (af.mono J.size);have au:Hid (Calls Tryz.prog 29 #[.slice a3 sl.length c3,.slice a4 sl.length c4] w4 fun r w'=>r=.returned (.bool true)/\∃n,w'=w4.drewN n):=by have:=zsj w4 _ _ _ _ sl sl (zfb (kg an af) av.o) (zfb ao av.o);rw [zsl]at this;exact this
 refine a7.o _ _ (fun p L=>ah.cell L) fun u=>?_;refine wpAnyH_ready (rs:=[27]) (by kernel_rfl) (by simp) ?_;refine AllReadyH.cons rfl (fun cj a8=>?_) AllReadyH.nil;go_simp;refine au.o.mono ?_;rintro r w5 ⟨rfl,m5,rfl⟩;have ai:=zsk ah m5;refine a8.o _ _ (fun p L=>ai.cell L) fun u=>?_;refine ta 28 (.bool true) rfl u ?_;refine ta 29 (.bool true) rfl u ?_;refine wpAnyH_done (by kernel_rfl) ?_ _;clear u;try simp only [Act.put,p1q,p4q,p3q,p2q,p5q,p6q]
 have bn:Hid (Below w.heap.size w (w4.drewN m5)):=ar.o.trans (ai.mono ar.o.size);clear G I J ah ai bb bc bf af an ao au;go_wp2_with fail;go_ret;exact ⟨rfl,bn.o⟩
end Go.Proofs.YtjdnmblggdobgaaGreat
