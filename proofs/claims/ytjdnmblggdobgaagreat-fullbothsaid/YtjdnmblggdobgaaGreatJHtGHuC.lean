import Derived.Test.YtjdnmblggdobgaaGreatJHtBHtF
import Derived.Laws.CopyOwn
set_option maxHeartbeats 4000000
set_option maxRecDepth 100000
namespace Go.Proofs.YtjdnmblggdobgaaGreat
open Go.Maps Go.RowKit Tryz List Or World
variable {lo hi:Nat} {A:List Value} {ws:List Int} {off:Nat} (x y z:Int) (args:Array Value) (w:World) (M M':Nat->Prop) (u v:Value) (l:List Int) (b g:Nat) (cap:Array Value) (Ok:Value->World->Prop) (No:Int->Int->Prop) (Pf X B P0 P1 P2 P3 P4 G:Nat) (nW nO vW vO kC kS kF kN kT vA Z Y L V N O W F:Value) (h:ar) (d:ax) (ts:List bq)
def vd (ws:List Int) (off:Nat) (x y z:Int):List Int:=ws.take off++([x,y,z]++ws.drop (off+3))
theorem zll (h:off+3<=ws.length):(vd ws off x y z).length=ws.length:=by simp [vd];omega
theorem zlm (hc:A.take ws.length=b8 ws) (h:off+3<=ws.length):
 (A.take off++([Value.int .i64 x,.i y,.i z]++A.drop (off+3))).take ws.length=b8 (vd ws off x y z):=by
 have F:ws.length<=A.length:=by have:=congrArg length hc;rw [length_take,vi]at this;omega
 have D:A.take off=b8 (ws.take off):=by
  have:(A.take ws.length).take off=(b8 ws).take off:=by rw [hc]
  rw [take_take,Nat.min_eq_left (by omega)]at this;rw [this,b8,b8,map_take]
 have E:(A.drop (off+3)).take (ws.length - (off+3))=b8 (ws.drop (off+3)):=by
  have:(A.take ws.length).drop (off+3)=(b8 ws).drop (off+3):=by rw [hc]
  rw [drop_take]at this;rw [this,b8,b8,map_drop]
 rw [take_append,take_append,length_take,Nat.min_eq_left (by omega),take_of_length_le (by rw [length_take];omega)];rw [take_of_length_le (l:=[Value.int .i64 x,.i y,.i z]) (by simp;omega)];rw [show ws.length - off - [Value.int .i64 x,.i y,.i z].length=ws.length - (off+3) by simp;omega,D,E,vd,zig,zig];rfl
theorem zln {ops:Array Oper} {o:Oper} {a:Act} {w:World} {K:Act->World->Prop} {Q:Exit->Act->World->Prop} {E:Prop} (Y:o.guard=none) (dd s:Operand)
 (ho:o.op=.call { callee:=.builtin .copy,args:=#[dd,s],argTypes:=#[22,22] }) (b g off A D cap:Nat) (ws:List Int) (J:w.ownsRow b 3 1 (.slice (some ⟨g,0,none⟩) ws.length cap) ws.length (b8 ws))
 (hd:a.eval dd=.slice (some ⟨g,off,none⟩) A D) (sb:Nat) (hs:a.eval s=.slice (some ⟨sb,0,none⟩) 3 3) (x y z:Int) (N:w.heap[sb]? =some (.cells #[.i x,.i y,.i z] 3 (0,0))) (F:off+3<=ws.length) (X:3<=A)
 (h:∀w',w.grownBy w' (some g)->w'.ownsRow b 3 1 (.slice (some ⟨g,0,none⟩) ws.length cap) ws.length (b8 (vd ws off x y z))->K (a.put o.dst (goInt 3)) w'):
 if Region.wanted o (yielded ops a.tmps)=true then Oper.wp prog o a w K Q else E:=by
 have hw:Region.wanted o (yielded ops a.tmps)=true:=by simp [Region.wanted,Y]
 rw [if_pos hw];obtain ⟨h1,h2⟩:=J;rcases h2 with ⟨e,h0⟩ | ⟨g',aa,G,e,O,hg,Z,V,W,I⟩
 ·cases e
 cases e;rw [Nat.mul_one]at I W;have ac:ws.length<=G.size:=by omega
 have L:=run_copy_row (P:=prog) w 22 22 o.type 3 g off A D ⟨sb,0,none⟩ 3 3 G 3 [.i x,.i y,.i z] underlying22 (by kernel_rfl) hg (by show 3=Nat.min 3 A;exact (Nat.min_eq_left X).symm) (news_of_block N) (by show off+3<=_;omega) (by
  intro v hv;simp at hv;rcases hv with rfl | rfl | rfl<;>rfl)
 unfold Oper.wp;simp [execOp,ho,resolve,invoke,builtin,hd,hs,L,Result.andThen];refine h _ ⟨rfl,rfl,rfl,by simp [setRow],fun k _ hk=>setRow_other w g k _ (fun e=>hk (by rw [e]))⟩ ⟨by rw [vi,zll _ _ _ F];simp,inr ⟨g,cap,_,rfl,O,setRow_heap w g G _ 3 _ hg,Z,V,?_,?_⟩⟩
 ·simp;omega
 rw [Nat.mul_one];exact zlm x y z I F
structure Og (b B:Nat) (w:World) (G:Nat) (nW nO kC kS kF kN kT:Value) (h:ar) (d:ax):Prop where
 blk:w.heap[G]? =some (.cells #[nW,.i h.ae,.i h.old,.i h.bk,.i h.be,nO,.i h.next,kC,kS,kF,kN,kT] 129 (0,0))
 ov:ik b w nW nO h
 lk:nh (· <B) w kC kS kF kN kT d
 le:B<=b
 gb:b<=G
 Fh:nW.ownBlock≠some G
 Dp:nO.ownBlock≠some G
theorem Og.below {b B G:Nat} {w w':World} {N L D I E F J:Value} {h:ar} {d:ax} (o:Og b B w G N L D I E F J h d) (A:Bl w w'):Og b B w' G N L D I E F J h d:=
 have O:=bz o.blk
 ⟨(A.block _ O).trans o.blk,o.ov.below A,o.lk.kept (Kp.below (A.mono (by have:=o.le;have:=o.gb;omega))),o.le,o.gb,o.Fh,o.Dp⟩
theorem Og.gd {b B G:Nat} {w:World} {N L D I E F J:Value} {h:ar} {d:ax} (o:Og b B w G N L D I E F J h d) (h1:h.ab.length<=1000000) (O:h.ap.length<=1000000):Gd w.heap.size w G N L D I E F J h d:=
 have V:=bz o.blk;have W:∀k,k<B->k<w.heap.size:=fun k A=>by have:=o.le;have:=o.gb;omega
 ⟨V,nlq _,bg o.blk 0 rfl,bg o.blk 1 rfl,bg o.blk 2 rfl,bg o.blk 3 rfl,bg o.blk 4 rfl,bg o.blk 5 rfl,bg o.blk 6 rfl,bg o.blk 7 rfl,bg o.blk 8 rfl,bg o.blk 9 rfl,bg o.blk 10 rfl,bg o.blk 11 rfl,(rg o.ov.rW h1).monoI fun k A=>A.lt,(rg o.ov.rO O).monoI fun k A=>A.lt,o.lk.mono W⟩
def gh (h:ar) (tag len:Int) (old:Bool):ar:=⟨vd h.ab (jo h old).toNat tag len h.next,h.ae,h.old,if old then h.bk else h.bk+3+len,if old then h.be+3+len else h.be,h.ap,IntKind.i64.wrap (h.next+1)⟩
theorem zlo (og:Og b B w G nW nO kC kS kF kN kT h d) (A len:Int) (hy:0<=h.ae/\h.ae<=1000000) (h1:h.ab.length<=1000000) (h2:h.ap.length<=1000000) (ht:0<=h.bk) (hn:0<=len) (hr:h.bk+3+len<=h.ab.length):
 Calls prog 124 #[.p G,.i A,.i len,.bool false] w fun r w'=>r=.returned (.i h.bk)/\Og b B w' G nW nO kC kS kF kN kT (gh h A len false) d/\Below b w w':=by
 have av:=aj (zlg w w.heap.size G _ _ _ _ _ _ _ h d (og.gd h1 h2) false hy);rw [show ug false=3 from rfl]at av;have bl:b<=w.heap.size:=by have:=og.gb;have:=bz og.blk;omega
 obtain ⟨J,O,bu,cm⟩:∃J O,nW=.slice (some ⟨J,0,none⟩) h.ab.length O/\h.ab.length<=O:=by
  rcases og.ov.rW.2 with ⟨e,h0⟩ | ⟨g,cap,ci,e,-,-,hc,-⟩
  ·omega
  exact ⟨g,cap,e,hc⟩
 subst bu;have aw:¬G=J:=fun e=>og.Fh (by rw [e];rfl);have cn:J<w.heap.size:=(og.ov.rW.lt J rfl).2;have bn:b<=J:=(og.ov.rW.lt J rfl).1;obtain ⟨aO,cO,bs⟩:=ku og.ov.rO;subst bs;have bf:=aj og;have r7:∀V,(Instr.slice 22 (.slice (some ⟨J,0,none⟩) h.ab.length O) (some (.i h.bk)) none none).run prog V=.ok (.slice (some ⟨J,h.bk.toNat,none⟩) (h.ab.length - h.bk.toNat) (O - h.bk.toNat)) V:=fun V=>by rw [run_slice_l V 22 _ _ _ underlying22 .i64 h.bk (by omega) (by omega)];show Result.ok (sliced (some ⟨J,0,none⟩) h.bk.toNat h.ab.length O 1) V=_;unfold sliced;rw [if_neg (by omega),Option.map_some,zd,Nat.mul_one,Nat.zero_add]
 generalize ux h false=en at*;obtain ⟨aC,cC,aS,cS,aF,cF,aN,cN,aT,cT,rfl,rfl,rfl,rfl,rfl⟩:=og.lk.agg;clear og;go_enter func124,ntmps124
 go_wp21
 refine av.o.mono ?_;rintro r N ⟨rfl,q,hq⟩;have an:Bl w N:=hq ▸ pa (br _ _) q;have cp:=an.size;have I:=bf.o.below an;have bd:=aj I;have a9:Hid (Below b w N):=an.mono bl;have co:=bz I.blk;have m0:=bg I.blk 0 (x:=.slice (some ⟨J,0,none⟩) h.ab.length O) rfl;have m1:=bg I.blk 1 (x:=.i h.ae) rfl;have m2:=bg I.blk 2 (x:=.i h.old) rfl;have m3:=bg I.blk 3 (x:=.i h.bk) rfl;have m4:=bg I.blk 4 (x:=.i h.be) rfl;have m5:=bg I.blk 5 (x:=.slice aO h.ap.length cO) rfl;have m6:=bg I.blk 6 (x:=.i h.next) rfl;have m7:=bg I.blk 7 (x:=.slice aC d.am.length cC) rfl;have m8:=bg I.blk 8 (x:=.slice aS d.bj.length cS) rfl;have m9:=bg I.blk 9 (x:=.slice aF d.fields.length cF) rfl;have b3:=bg I.blk 10 (x:=.slice aN d.names.length cN) rfl;have b4:=bg I.blk 11 (x:=.slice aT d.ba.length cT) rfl;have bm:¬N.heap.size=J:=by omega
 clear an I hq av
 go_wp21
 refine wp_region_held_drew (S:=fun W'=>∀p:Addr,p.block<N.heap.size->W'.cell? p=N.cell? p) (by kernel_rfl) (fun p hp=>rfl) fun F=>?_;refine ta 0 (.pointer (some ⟨G,3,none⟩)) rfl F ?_;refine ta 1 (.pointer (some ⟨G,3,none⟩)) rfl F ?_;refine ta 2 (.i h.bk) rfl F ?_;refine ta 3 (.i A) rfl F ?_;refine ta 4 (.i len) rfl F ?_;refine ta 5 (.p G) rfl F ?_;refine ta 6 (.p G) rfl F ?_;refine ta 7 (.p G) rfl F ?_;refine ta 8 (.pointer (some ⟨G,6,none⟩)) rfl F ?_;refine ta 9 (.i h.next) rfl F ?_;refine ta 10 (.agg #[.i h.bk,.i A,.i len,.i h.next]) rfl F ?_;refine wpAnyH_ready (rs:=[11]) (by kernel_rfl) (by simp) ?_;refine AllReadyH.cons rfl (fun cc a3=>?_) AllReadyH.nil;go_simp;refine a3.o _ _ (fun p hp=>Below.cell (B:=N.heap.size) (w:=N) ((br _ _).drew.alloc (nlq _) _) hp) fun F=>?_;refine wpAnyH_ready (rs:=[12]) (by kernel_rfl) (by simp) ?_;refine AllReadyH.cons rfl (fun ce a4=>?_) AllReadyH.nil;go_simp;refine a4.o _ _ (fun p hp=>Below.cell (B:=N.heap.size) (w:=N) ((br _ _).drew.alloc (nlq _) _) hp) fun F=>?_;refine wpAnyH_done (by kernel_rfl) ?_ _;clear F;try simp only [Act.put,p1q,p4q,p3q,p2q,p5q,p6q]
 obtain ⟨L,ak⟩:∃L,(N.alloc (.cells #[.i h.bk,.i A,.i len,.i h.next] 101)).drew=L:=⟨_,rfl⟩;rw [ak];have ah:Bl N L:=ak ▸ ((br _ _).alloc (nlq _) _).drew;have ac:L.heap[N.heap.size]? =some (.cells #[.i h.bk,.i A,.i len,.i h.next] 101 (0,0)):=by rw [<-ak];exact heap_alloc_new N _
 have E:=bd.o.below ah;have cr:=ah.size;have bb:Hid (Below b w L):=a9.o.trans (ah.mono (by omega));have D:=aj E;have bh:=aj ac;have bo:=bz E.blk;have b2:=bz ac;have n0:=bg E.blk 0 (x:=.slice (some ⟨J,0,none⟩) h.ab.length O) rfl;have n1:=bg E.blk 1 (x:=.i h.ae) rfl;have n2:=bg E.blk 2 (x:=.i h.old) rfl;have n3:=bg E.blk 3 (x:=.i h.bk) rfl;have n4:=bg E.blk 4 (x:=.i h.be) rfl;have n5:=bg E.blk 5 (x:=.slice aO h.ap.length cO) rfl;have n6:=bg E.blk 6 (x:=.i h.next) rfl;have n7:=bg E.blk 7 (x:=.slice aC d.am.length cC) rfl;have n8:=bg E.blk 8 (x:=.slice aS d.bj.length cS) rfl;have n9:=bg E.blk 9 (x:=.slice aF d.fields.length cF) rfl;have b9:=bg E.blk 10 (x:=.slice aN d.names.length cN) rfl;have ca:=bg E.blk 11 (x:=.slice aT d.ba.length cT) rfl;have t0:=bg ac 0 (x:=.i h.bk) rfl;have t1:=bg ac 1 (x:=.i A) rfl;have t2:=bg ac 2 (x:=.i len) rfl;have t3:=bg ac 3 (x:=.i h.next) rfl;have a0:Hid ((L.drew.alloc (.cells #[.i A,.i len,.i h.next] 3)).ownsRow b 3 1 (.slice (some ⟨J,0,none⟩) h.ab.length O) h.ab.length (b8 h.ab)):=km E.ov.rW ((br _ _).drew.alloc (nlq _) _);have a1:Hid ((L.drew.alloc (.cells #[.i A,.i len,.i h.next] 3)).heap[L.heap.size]? =some (.cells #[.i A,.i len,.i h.next] 3 (0,0))):=heap_alloc_new L.drew _;clear m0 m1 m2 m3 m4 m5 m6 m7 m8 m9 b3 b4 ah ac E ak
 go_wp21
 refine wp_region_held_drew (S:=fun W'=>∀p:Addr,p.block<L.heap.size->p.block≠J->W'.cell? p=L.cell? p) (by kernel_rfl) (fun p hp _=>rfl) fun F=>?_;refine ta 0 (.p G) rfl F ?_;refine ta 1 (.p G) rfl F ?_;refine ta 2 (.p G) rfl F ?_;refine ta 3 (.p G) rfl F ?_;refine ta 4 (.slice (some ⟨J,0,none⟩) h.ab.length O) rfl F ?_;refine ta 5 (.p N.heap.size) rfl F ?_;refine ta 6 (.i h.bk) rfl F ?_;refine ta 7 (.slice (some ⟨J,h.bk.toNat,none⟩) (h.ab.length - h.bk.toNat) (O - h.bk.toNat)) rfl F ?_;refine ta 8 (.pointer (some ⟨N.heap.size,1,none⟩)) rfl F ?_;refine ta 9 (.i A) rfl F ?_;refine ta 10 (.pointer (some ⟨N.heap.size,2,none⟩)) rfl F ?_;refine ta 11 (.i len) rfl F ?_;refine ta 12 (.pointer (some ⟨N.heap.size,3,none⟩)) rfl F ?_;refine ta 13 (.i h.next) rfl F ?_;refine wpAnyH_ready (rs:=[14]) (by kernel_rfl) (by simp) ?_;refine AllReadyH.cons rfl (fun cf a5=>?_) AllReadyH.nil;go_simp;refine a5.o _ _ (fun p hp _=>Below.cell (B:=L.heap.size) (w:=L) ((br _ _).drew.alloc (nlq _) _) hp) fun F=>?_;refine wpAnyH_ready (rs:=[15]) (by kernel_rfl) (by simp) ?_;refine AllReadyH.cons rfl (fun ch a6=>?_) AllReadyH.nil;refine zln rfl (.tmp 36) (.tmp 43) rfl b J h.bk.toNat (h.ab.length - h.bk.toNat) (O - h.bk.toNat) O h.ab a0.o rfl L.heap.size rfl A len h.next a1.o (by omega) (by omega) ?_;intro w4 Y a7;refine a6.o _ _ (fun p hp ay=>(cell?_of_block (a:=p) (Y.block p.block (ll3 hp (by show L.heap.size<=(L.alloc _).heap.size;simp)) (fun e=>ay (ojq e)))).trans (Below.cell (B:=L.heap.size) (w:=L) ((br _ _).drew.alloc (nlq _) _) hp)) fun F=>?_;refine wpAnyH_done (by kernel_rfl) ?_ _;clear F;try simp only [Act.put,p1q,p4q,p3q,p2q,p5q,p6q]
 have Y:(L.drew.alloc (.cells #[.i A,.i len,.i h.next] 3)).grownBy w4 (some J):=Y;have aa:Bl L (L.drew.alloc (.cells #[.i A,.i len,.i h.next] 3)):=(br _ _).drew.alloc (nlq _) _;have au:∀k,k<L.heap.size->k≠J->w4.heap[k]? =L.heap[k]? :=fun k hk ay=>(Y.block k (ll3 hk aa.size) (fun e=>ay (ojq e))).trans (aa.block k hk);have b1:L.heap.size<=w4.heap.size:=lt3 aa.size Y.size;have kG:=(au G bo aw).trans D.o.blk;have kT:=(au N.heap.size b2 bm).trans bh.o;have a2:Below b w w4:=(bb.o.trans (aa.mono (by omega))).grown Y (by have:=aa.size;omega) (fun k e=>by cases e;exact bn);have a8:=((km D.o.ov.rO aa).kept Y (inr (D.o.ov.ne J rfl)));have Ef:nh (· <B) w4 (.slice aC d.am.length cC) (.slice aS d.bj.length cS) (.slice aF d.fields.length cF) (.slice aN d.names.length cN) (.slice aT d.ba.length cT) d:=D.o.lk.kept ⟨b1,fun k hk hl=>au k hl (by have:=D.o.le;have:=hk;omega)⟩;have g6:=bg kG 6 (x:=.i h.next) rfl;have z6:=pq kG 6;have lG:=bz kG;have lT:=bz kT;have ck:¬N.heap.size=G:=by omega
 have cj:¬G=N.heap.size:=by omega
 have v0:=bg kT 0 (x:=.i h.bk) rfl;have v1:=bg kT 1 (x:=.i A) rfl;have v2:=bg kT 2 (x:=.i len) rfl;have v3:=bg kT 3 (x:=.i h.next) rfl;obtain ⟨nx,bx⟩:∃nx,IntKind.i64.wrap (h.next+1)=nx:=⟨_,rfl⟩;have bc:=aj bx;have Z:w4.grownBy (w4.setCell ⟨G,6,none⟩ (.i nx)) (some G):=pi (grownBy.refl _ _) _ _ (inl rfl);obtain ⟨W5,al⟩:∃W5,w4.setCell ⟨G,6,none⟩ (.i nx)=W5:=⟨_,rfl⟩;rw [al]at Z;have b5:W5.heap[G]? =some (.cells #[.slice (some ⟨J,0,none⟩) h.ab.length O,.i h.ae,.i h.old,.i h.bk,.i h.be,.slice aO h.ap.length cO,.i nx,.slice aC d.am.length cC,.slice aS d.bj.length cS,.slice aF d.fields.length cF,.slice aN d.names.length cN,.slice aT d.ba.length cT] 129 (0,0)):=al ▸ s9 kG _;have t5:=(Z.block N.heap.size lT (by intro e;injection e;omega)).trans kT;have H5:Hid (Below b w W5/\W5.ownsRow b 3 1 (.slice (some ⟨J,0,none⟩) h.ab.length O) h.ab.length (b8 (vd h.ab h.bk.toNat A len h.next))/\W5.ownsRow b 3 1 (.slice aO h.ap.length cO) h.ap.length (b8 h.ap)/\nh (· <B) W5 (.slice aC d.am.length cC) (.slice aS d.bj.length cS) (.slice aF d.fields.length cF) (.slice aN d.names.length cN) (.slice aT d.ba.length cT) d):=by have ai:=D.o.gb;refine ⟨a2.grown Z (by omega) (fun k e=>by cases e;exact ai),a7.kept Z (inr fun e=>aw (ojq e).symm),a8.kept Z (inr D.o.Dp),Ef.kept ⟨Z.size,fun k hk hl=>Z.block k hl (by have:=D.o.le;have:=hk;intro e;injection e;omega)⟩⟩
 have bi:=aj al;have af:=aj (And.intro b5 t5);have az:Hid (∀W,Calls prog 72 #[.agg #[.i h.bk,.i A,.i len,.i h.next]] W fun r w'=>r=.returned (.i (h.bk+3+len))/\Bl W w'):=fun W=>Er W ⟨h.bk,A,len,h.next⟩ ⟨by show -1000000000<=h.bk;omega,by show h.bk<=1000000000;omega⟩ ⟨by show -1000000000<=len;omega,by show len<=1000000000;omega⟩;clear Y aa au kG kT a2 a8 Ef a7 Z al b5 t5 n0 n1 n2 n3 n4 n5 n6 n7 n8 n9 b9 ca t0 t1 t2 t3 a0 a1
 go_wp21
 refine (az.o _).mono ?_;rw [bi.o];rintro r w6 ⟨rfl,X⟩;have b6:=(X.block G (bz af.o.1)).trans af.o.1;have t6:=(X.block N.heap.size (bz af.o.2)).trans af.o.2;have cs:=X.size;have s5:=H5.o.1.size;have gt:=bg b6 3 (x:=.i h.bk) rfl;have zt:=pq b6 3;have ct:=bz b6;have cu:=bz t6;have x0:=bg t6 0 (x:=.i h.bk) rfl;have ad:w6.grownBy (w6.setCell ⟨G,3,none⟩ (.i (h.bk+3+len))) (some G):=pi (grownBy.refl _ _) _ _ (inl rfl);have b7:(w6.setCell ⟨G,3,none⟩ (.i (h.bk+3+len))).heap[G]? =some (.cells #[.slice (some ⟨J,0,none⟩) h.ab.length O,.i h.ae,.i h.old,.i (h.bk+3+len),.i h.be,.slice aO h.ap.length cO,.i nx,.slice aC d.am.length cC,.slice aS d.bj.length cS,.slice aF d.fields.length cF,.slice aN d.names.length cN,.slice aT d.ba.length cT] 129 (0,0)):=s9 b6 _;have HF:Hid (Og b B (w6.setCell ⟨G,3,none⟩ (.i (h.bk+3+len))) G (.slice (some ⟨J,0,none⟩) h.ab.length O) (.slice aO h.ap.length cO) (.slice aC d.am.length cC) (.slice aS d.bj.length cS) (.slice aF d.fields.length cF) (.slice aN d.names.length cN) (.slice aT d.ba.length cT) (gh h A len false) d/\Below b w (w6.setCell ⟨G,3,none⟩ (.i (h.bk+3+len)))):=by
  obtain ⟨p1,p2,p3,p4⟩:=H5.o;have ai:=D.o.gb;have b0:=zll A len h.next (ws:=h.ab) (off:=h.bk.toNat) (by omega);refine ⟨⟨?_,⟨?_,(km p3 X).kept ad (inr D.o.Dp),D.o.ov.ne⟩,(p4.kept (Kp.below (X.mono (by have:=D.o.le;have:=s5;omega)))).kept ⟨ad.size,fun k hk hl=>ad.block k hl (by have:=D.o.le;have:=hk;intro e;injection e;omega)⟩,D.o.le,ai,D.o.Fh,D.o.Dp⟩,(p1.trans (X.mono (by omega))).grown ad (by omega) (fun k e=>by cases e;exact ai)⟩
  ·rw [b7,<-bc.o];rfl
  show ownsRow _ b 3 1 _ (vd h.ab h.bk.toNat A len h.next).length (b8 (vd h.ab h.bk.toNat A len h.next));rw [b0];exact (km p2 X).kept ad (inr fun e=>aw (ojq e).symm)
 clear b6 t6 X ad b7 H5 af az
 go_wp21
 go_ret;exact ⟨rfl,HF.o.1,HF.o.2⟩
theorem zlp (N E J F I L:Value) (h:ar) (d:ax) (og:Og b B w G O N E J F I L h d) (D len:Int) (A:Bool) (X:A=false) (hy:0<=h.ae/\h.ae<=1000000) (h1:h.ab.length<=1000000) (V:h.ap.length<=1000000) (Z:0<=jo h A) (W:0<=len) (Y:jo h A+3+len<=h.ab.length):
 Calls prog 124 #[.p G,.i D,.i len,.bool A] w fun r w'=>r=.returned (.i (jo h A))/\Og b B w' G O N E J F I L (gh h D len A) d/\Below b w w':=by
 subst X;exact zlo w b B G _ _ _ _ _ _ _ h d og D len hy h1 V Z W Y
def Ac (v:Value):Prop:=∃(p0:Option Addr) (n0 q0:Nat) (a1:Int) (a2:Int) (a3:Int) (a4:Int) (p5:Option Addr) (n5 q5:Nat) (a6:Int) (a7:Int),v=.agg #[.slice p0 n0 q0,.i a1,.i a2,.i a3,.i a4,.slice p5 n5 q5,.i a6,.i a7]
theorem zlq (Q:Nat) (ac:∀args w,(callFunc g args).run prog w=.ok (.enter g args) w) (ad:w.cell? ⟨Pf,0,none⟩=some (.func (.func g) #[] cap)) (hq:∀j,j<8->∃x,w.cell? ⟨Q,j,none⟩=some x) (hz:∀j,w.frozen? ⟨Q,j,none⟩=false) (hc:Calls prog g cap w fun r E=>Bl w E/\((∃v,r=.returned v/\Ac v/\Ok v E)\/∃e p,r=.panicked [wrongV e p]/\No e p)):
 Calls prog 119 #[.p Pf,.p Q] w fun r w'=>
  (r=.returned (.tuple #[])/\∃(v:Value) (E:World),Ac v/\Ok v E/\(∀j,j<8->w'.cell? ⟨Q,j,none⟩=v.cells[j]?)/\w.grownBy w' (some Q)/\E.grownBy w' (some Q)/\Bl w E)\/
  (∃e p,r=.panicked [wrongV e p]/\No e p/\Bl w w'):=by
 have hQ:Q<w.heap.size:=by obtain ⟨x,hx⟩:=hq 0 (by decide);exact block_lt_of_cell? w _ hx
 have HC:=aj hc;clear hc;go_enter func119,ntmps119
 go_wp21
 refine HC.o.mono ?_;rintro r I ⟨D,⟨v,rfl,⟨p0,n0,q0,O,V,W,X,p5,n5,q5,Y,Z,rfl⟩,G⟩ | ⟨e,p,rfl,aa⟩⟩
 rotate_left
 ·exact ⟨rfl,inr ⟨e,p,rfl,aa,D⟩⟩
 have A:∀j,j<8->∃x,I.cell? ⟨Q,j,none⟩=some x:=fun j F=>(hq j F).imp fun x hx=>(D.cell (p:=⟨Q,j,none⟩) hQ).trans hx;obtain ⟨x0,ae⟩:=A 0 (by decide);obtain ⟨x1,af⟩:=A 1 (by decide);obtain ⟨x2,ah⟩:=A 2 (by decide);obtain ⟨x3,ai⟩:=A 3 (by decide);obtain ⟨x4,ak⟩:=A 4 (by decide);obtain ⟨x5,al⟩:=A 5 (by decide);obtain ⟨x6,am⟩:=A 6 (by decide);obtain ⟨x7,an⟩:=A 7 (by decide);have au:∀j,I.frozen? ⟨Q,j,none⟩=false:=fun j=>(D.frozen (p:=⟨Q,j,none⟩) hQ).trans (hz j);have N:=aj (Dx Q [.slice p0 n0 q0,.i O,.i V,.i W,.i X,.slice p5 n5 q5,.i Y,.i Z] I 0 (fun j F=>by rw [Nat.zero_add];exact A j (by simpa using F)));have J:Hid (w.grownBy I (some Q)):=⟨D.os,D.tape,D.output,D.size,fun k hk _=>D.block k hk⟩;have L:=aj G;have HB:=aj D;clear G D hq hz HC A;go_wp2
 go_end0;refine inl ⟨rfl,.agg #[.slice p0 n0 q0,.i O,.i V,.i W,.i X,.slice p5 n5 q5,.i Y,.i Z],I,⟨p0,n0,q0,O,V,W,X,p5,n5,q5,Y,Z,rfl⟩,L.o,fun j F=>?_,J.o.trans N.o.1,N.o.1,HB.o⟩;have:=N.o.2.1 j (by simpa using F);rw [Nat.zero_add]at this;refine Eq.trans this ?_;simp [Value.cells]
theorem Ak:(callFunc 119 args).run prog w=.ok (.enter 119 args) w:=by kernel_rfl
theorem zlr (a0:∀args w,(callFunc g args).run prog w=.ok (.enter g args) w) (hc:∀W,Bl w W->W.heap.size=w.heap.size+5->Calls prog g cap W fun r Z=>Bl W Z/\((∃v,r=.returned v/\Ac v/\Ok v Z)\/∃e p,r=.panicked [wrongV e p]/\No e p)) (hst:∀v W Z,w.heap.size+5<=W.heap.size->tb w.heap.size (w.heap.size+5) W Z->Ok v W->Ok v Z):
 Calls prog 56 #[.func (.func g) #[] cap] w fun r w'=>Bl w w'/\w.heap.size+5<=w'.heap.size/\
  ((∃v,r=.returned (.tuple #[v,.agg #[.i 0,.i 0]])/\Ac v/\Ok v w')\/
   (∃e p,r=.returned (.tuple #[.agg #[.nl,.i 0,.i 0,.i 0,.i 0,.nl,.i 0,.i 0],.agg #[.i e,.i p]])/\No e p)):=by
 have bm:=ri prog;have aa:Bl w ((((w.alloc (.cells #[.func (.func g) #[] cap] 97)).alloc (.cells #[.nl,.i 0,.i 0,.i 0,.i 0,.nl,.i 0,.i 0] 92)).alloc (.cells #[.i 0,.i 0] 84)).alloc (.cells #[.nl,.i 0,.i 0,.i 0,.i 0,.nl,.i 0,.i 0] 92)):=((((br _ _).alloc (nlq _) _).alloc (by simp) _).alloc (by simp<;>omega) _).alloc (by simp<;>omega) _;have av:=aa.alloc aa.size (.cells #[.i 0,.i 0] 84);have HC:=aj hc;have J:=aj hst;have au:=aj a0;clear hc hst a0;go_enter func56,ntmps56
 go_wp21
 refine (Ek 119 _ _ (fun I=>∃v,Ac v/\(∀j,j<8->I.cell? ⟨w.heap.size+3,j,none⟩=v.cells[j]?)/\Ok v I/\vr 8 w I)
  (fun e p I=>No e p/\(∀j,j<8->I.cell? ⟨w.heap.size+3,j,none⟩= [.nl,.i 0,.i 0,.i 0,.i 0,.nl,.i 0,.i 0][j]?)/\vr 8 w I) (Ak _) ?hc).mono ?_
 case hc=>
  have ay:((((w.alloc (.cells #[.func (.func g) #[] cap] 97)).alloc (.cells #[.nl,.i 0,.i 0,.i 0,.i 0,.nl,.i 0,.i 0] 92)).alloc (.cells #[.i 0,.i 0] 84)).alloc (.cells #[.nl,.i 0,.i 0,.i 0,.i 0,.nl,.i 0,.i 0] 92)).heap[w.heap.size+3]? =some (.cells #[.nl,.i 0,.i 0,.i 0,.i 0,.nl,.i 0,.i 0] 92 (0,0)):=by have:=heap_alloc_new (((w.alloc (.cells #[.func (.func g) #[] cap] 97)).alloc (.cells #[.nl,.i 0,.i 0,.i 0,.i 0,.nl,.i 0,.i 0] 92)).alloc (.cells #[.i 0,.i 0] 84)) (.cells #[.nl,.i 0,.i 0,.i 0,.i 0,.nl,.i 0,.i 0] 92);simpa using this
  have O:=(Below.heap_alloc ((((w.alloc (.cells #[.func (.func g) #[] cap] 97)).alloc (.cells #[.nl,.i 0,.i 0,.i 0,.i 0,.nl,.i 0,.i 0] 92)).alloc (.cells #[.i 0,.i 0] 84)).alloc (.cells #[.nl,.i 0,.i 0,.i 0,.i 0,.nl,.i 0,.i 0] 92)) (.cells #[.i 0,.i 0] 84) _ (bz ay)).trans ay;refine (zlq _ g cap Ok No w.heap.size (w.heap.size+3) au.o (by simp [go_sem]) (fun j X=>⟨_,bg O j (x:=[.nl,.i 0,.i 0,.i 0,.i 0,.nl,.i 0,.i 0][j]'(by simpa using X)) (by rw [<-p2q (by simpa using X)];exact Array.getElem?_eq_getElem (by simpa using X))⟩) (fun j=>pq O j) (HC.o _ av (by simp))).mono ?_;rintro r I (⟨rfl,v,Z,hv,V,D,G,ba,a9⟩ | ⟨e,p,rfl,hd,hb⟩)
  ·obtain ⟨L,N⟩:=ui w I _ rfl G;refine ⟨by simpa using L,inl ⟨rfl,v,hv,D,?_,N⟩⟩;exact J.o _ Z I (by have:=a9.size;simp at this;omega) (tb.grown ba (by omega) (by omega)) V
  have bb:grownBy _ I (some (w.heap.size+3)):=⟨hb.os,hb.tape,hb.output,hb.size,fun k hk _=>hb.block k hk⟩;obtain ⟨L,N⟩:=ui w I _ rfl bb;refine ⟨by simpa using L,inr ⟨e,p,rfl,hd,fun j X=>?_,N⟩⟩;refine (bg ((hb.block (w.heap.size+3) (bz O)).trans O) j (x:=[.nl,.i 0,.i 0,.i 0,.i 0,.nl,.i 0,.i 0][j]'(by simpa using X)) (by rw [<-p2q (by simpa using X)];exact Array.getElem?_eq_getElem (by simpa using X))).trans (getElem?_eq_getElem (by simpa using X)).symm
 rintro r F ⟨I,G,hr⟩;have hz:((((w.alloc (.cells #[.func (.func g) #[] cap] 97)).alloc (.cells #[.nl,.i 0,.i 0,.i 0,.i 0,.nl,.i 0,.i 0] 92)).alloc (.cells #[.i 0,.i 0] 84)).alloc (.cells #[.nl,.i 0,.i 0,.i 0,.i 0,.nl,.i 0,.i 0] 92)).heap.size=w.heap.size+4:=by simp
 rw [hz]at G;clear aa av hz HC au;rcases hr with ⟨rfl,v,hv,D,V,hA⟩ | ⟨e,p,rfl,hd,D,hA⟩
 ·have HV:=aj hv;obtain ⟨p0,n0,q0,L,N,a3,a4,p5,n5,q5,a6,a7,rfl⟩:=hv;have m0:F.cell? ⟨w.heap.size+1+1+1,0,none⟩=some (.slice p0 n0 q0):=G.cell ((D 0 (by decide)).trans (by simp [Value.cells])) (by simp);have m1:F.cell? ⟨w.heap.size+1+1+1,1,none⟩=some (.i L):=G.cell ((D 1 (by decide)).trans (by simp [Value.cells])) (by simp);have m2:F.cell? ⟨w.heap.size+1+1+1,2,none⟩=some (.i N):=G.cell ((D 2 (by decide)).trans (by simp [Value.cells])) (by simp);have m3:F.cell? ⟨w.heap.size+1+1+1,3,none⟩=some (.i a3):=G.cell ((D 3 (by decide)).trans (by simp [Value.cells])) (by simp);have m4:F.cell? ⟨w.heap.size+1+1+1,4,none⟩=some (.i a4):=G.cell ((D 4 (by decide)).trans (by simp [Value.cells])) (by simp);have m5:F.cell? ⟨w.heap.size+1+1+1,5,none⟩=some (.slice p5 n5 q5):=G.cell ((D 5 (by decide)).trans (by simp [Value.cells])) (by simp);have m6:F.cell? ⟨w.heap.size+1+1+1,6,none⟩=some (.i a6):=G.cell ((D 6 (by decide)).trans (by simp [Value.cells])) (by simp);have m7:F.cell? ⟨w.heap.size+1+1+1,7,none⟩=some (.i a7):=G.cell ((D 7 (by decide)).trans (by simp [Value.cells])) (by simp);have A:=hA.grown G (by omega);have a8:=aj (J.o _ I F hA.sz (tb.grown G (by omega) (by omega)) V);have Y:=aj A;obtain ⟨x0,bc⟩:=A.a 0 (by decide);obtain ⟨x1,bd⟩:=A.a 1 (by decide);obtain ⟨x2,bf⟩:=A.a 2 (by decide);obtain ⟨x3,bh⟩:=A.a 3 (by decide);obtain ⟨x4,bi⟩:=A.a 4 (by decide);obtain ⟨x5,bj⟩:=A.a 5 (by decide);obtain ⟨x6,bk⟩:=A.a 6 (by decide);obtain ⟨x7,bl⟩:=A.a 7 (by decide);obtain ⟨y0,g0⟩:=A.f 0 (by decide);obtain ⟨y1,g1⟩:=A.f 1 (by decide);have z1:=A.az;have z2:=A.fz;have a5:=A.sz;have l1:w.heap.size+1<F.heap.size:=by omega
  have l2:w.heap.size+1+1<F.heap.size:=by omega
  have l3:w.heap.size+1+1+1<F.heap.size:=by omega
  clear V D G hA A
  go_wp21
  go_region
  all_goals
   go_wp2
   obtain ⟨W9,h9,ac,aw,an,E,r0,r1⟩:=Bq Y.o [.slice p0 n0 q0,.i L,.i N,.i a3,.i a4,.slice p5 n5 q5,.i a6,.i a7] rfl 0 0 (.cells #[.i 0,.i 0] 84);rw [show (jj (jj F (w.heap.size+1) 0 [.slice p0 n0 q0,.i L,.i N,.i a3,.i a4,.slice p5 n5 q5,.i a6,.i a7]) (w.heap.size+1+1) 0 [.i 0,.i 0]).alloc (.cells #[.i 0,.i 0] 84)=(((((((((((F.setCell ⟨w.heap.size+1,0,none⟩ (.slice p0 n0 q0)).setCell ⟨w.heap.size+1,1,none⟩ (.i L)).setCell ⟨w.heap.size+1,2,none⟩ (.i N)).setCell ⟨w.heap.size+1,3,none⟩ (.i a3)).setCell ⟨w.heap.size+1,4,none⟩ (.i a4)).setCell ⟨w.heap.size+1,5,none⟩ (.slice p5 n5 q5)).setCell ⟨w.heap.size+1,6,none⟩ (.i a6)).setCell ⟨w.heap.size+1,7,none⟩ (.i a7)).setCell ⟨w.heap.size+1+1,0,none⟩ (.i 0)).setCell ⟨w.heap.size+1+1,1,none⟩ (.i 0))).alloc (.cells #[.i 0,.i 0] 84) from rfl]at h9;rw [<-h9];have ad:=E 0 (by decide);have ae:=E 1 (by decide);have af:=E 2 (by decide);have ah:=E 3 (by decide);have ai:=E 4 (by decide);have ak:=E 5 (by decide);have al:=E 6 (by decide);have am:=E 7 (by decide);exact bodyPost_ret (v:=.tuple #[.agg #[.slice p0 n0 q0,.i L,.i N,.i a3,.i a4,.slice p5 n5 q5,.i a6,.i a7],.agg #[.i 0,.i 0]]) (by simp [results,results56,go_sem,ad,ae,af,ah,ai,ak,al,am,r0,r1]) rfl ⟨ac.drew,an,inl ⟨_,rfl,HV.o,J.o _ F _ a5 (aw.trans ⟨nlq _,fun _ _ _=>rfl⟩) a8.o⟩⟩
 have m0:F.cell? ⟨w.heap.size+1+1+1,0,none⟩=some (.nl):=G.cell ((D 0 (by decide)).trans rfl) (by simp);have m1:F.cell? ⟨w.heap.size+1+1+1,1,none⟩=some (.i 0):=G.cell ((D 1 (by decide)).trans rfl) (by simp);have m2:F.cell? ⟨w.heap.size+1+1+1,2,none⟩=some (.i 0):=G.cell ((D 2 (by decide)).trans rfl) (by simp);have m3:F.cell? ⟨w.heap.size+1+1+1,3,none⟩=some (.i 0):=G.cell ((D 3 (by decide)).trans rfl) (by simp);have m4:F.cell? ⟨w.heap.size+1+1+1,4,none⟩=some (.i 0):=G.cell ((D 4 (by decide)).trans rfl) (by simp);have m5:F.cell? ⟨w.heap.size+1+1+1,5,none⟩=some (.nl):=G.cell ((D 5 (by decide)).trans rfl) (by simp);have m6:F.cell? ⟨w.heap.size+1+1+1,6,none⟩=some (.i 0):=G.cell ((D 6 (by decide)).trans rfl) (by simp);have m7:F.cell? ⟨w.heap.size+1+1+1,7,none⟩=some (.i 0):=G.cell ((D 7 (by decide)).trans rfl) (by simp);have A:=hA.grown G (by omega);have HD:=aj hd;have Y:=aj A;obtain ⟨x0,bc⟩:=A.a 0 (by decide);obtain ⟨x1,bd⟩:=A.a 1 (by decide);obtain ⟨x2,bf⟩:=A.a 2 (by decide);obtain ⟨x3,bh⟩:=A.a 3 (by decide);obtain ⟨x4,bi⟩:=A.a 4 (by decide);obtain ⟨x5,bj⟩:=A.a 5 (by decide);obtain ⟨x6,bk⟩:=A.a 6 (by decide);obtain ⟨x7,bl⟩:=A.a 7 (by decide);obtain ⟨y0,g0⟩:=A.f 0 (by decide);obtain ⟨y1,g1⟩:=A.f 1 (by decide);have z1:=A.az;have z2:=A.fz;have a5:=A.sz;have l1:w.heap.size+1<F.heap.size:=by omega
 have l2:w.heap.size+1+1<F.heap.size:=by omega
 have l3:w.heap.size+1+1+1<F.heap.size:=by omega
 clear hd D G hA A J
 go_wp21
 go_region
 all_goals
  go_wp2
  obtain ⟨W9,h9,ac,aw,an,E,r0,r1⟩:=Bq Y.o [.nl,.i 0,.i 0,.i 0,.i 0,.nl,.i 0,.i 0] rfl e p (.cells #[.i e,.i p] 84);rw [show (jj (jj F (w.heap.size+1) 0 [.nl,.i 0,.i 0,.i 0,.i 0,.nl,.i 0,.i 0]) (w.heap.size+1+1) 0 [.i e,.i p]).alloc (.cells #[.i e,.i p] 84)=(((((((((((F.setCell ⟨w.heap.size+1,0,none⟩ (.nl)).setCell ⟨w.heap.size+1,1,none⟩ (.i 0)).setCell ⟨w.heap.size+1,2,none⟩ (.i 0)).setCell ⟨w.heap.size+1,3,none⟩ (.i 0)).setCell ⟨w.heap.size+1,4,none⟩ (.i 0)).setCell ⟨w.heap.size+1,5,none⟩ (.nl)).setCell ⟨w.heap.size+1,6,none⟩ (.i 0)).setCell ⟨w.heap.size+1,7,none⟩ (.i 0)).setCell ⟨w.heap.size+1+1,0,none⟩ (.i e)).setCell ⟨w.heap.size+1+1,1,none⟩ (.i p))).alloc (.cells #[.i e,.i p] 84) from rfl]at h9;rw [<-h9];have ad:=E 0 (by decide);have ae:=E 1 (by decide);have af:=E 2 (by decide);have ah:=E 3 (by decide);have ai:=E 4 (by decide);have ak:=E 5 (by decide);have al:=E 6 (by decide);have am:=E 7 (by decide);exact bodyPost_ret (v:=.tuple #[.agg #[.nl,.i 0,.i 0,.i 0,.i 0,.nl,.i 0,.i 0],.agg #[.i e,.i p]]) (by simp [results,results56,go_sem,ad,ae,af,ah,ai,ak,al,am,r0,r1]) rfl ⟨ac.drew,an,inr ⟨_,_,rfl,HD.o⟩⟩
def ow (d:ax) (h:ar) (tag len:Int) (old:Bool):List QD:=[⟨120,7,dx d.am.length tag⟩,⟨121,3,da d.fields tag len⟩,⟨122,8,pw h old len⟩]
def qj (d:ax) (h:ar) (tag len:Int) (old:Bool):Int:=if dx d.am.length tag then (if da d.fields tag len then (if pw h old len then 0 else 8) else 3) else 7
theorem zls (h:ar) (D len:Int) (A:Bool):d9 (ow d h D len A)=qj d h D len A:=by unfold ow qj;simp only [d9]
theorem zlt (h:ar) (D len:Int) (A:Bool):∀q∈ow d h D len A,∀args w,(callFunc q.g args).run prog w=.ok (.enter q.g args) w:=by intro q E args w;simp only [ow,mem_cons,not_mem_nil,or_false]at E;rcases E with rfl | rfl | rfl<;>kernel_rfl
theorem zlu (h:ar) (D len:Int) (A:Bool):∀q∈ow d h D len A,q.e≠0:=by intro q E;simp only [ow,mem_cons,not_mem_nil,or_false]at E;rcases E with rfl | rfl | rfl<;>simp
theorem zlv {d:ax} {A len:Int} (D:B9 d) (h:da d.fields A len=true):0<=len/\len<=500:=by rw [<-zkr (fun f E=>lt3 (D.fs f E) (by omega))]at h;unfold tm rh at h;simp only [Bool.and_eq_true,decide_eq_true_eq]at h;exact h.1
theorem zlw {d:ax} {h:ar} (D:na d h) (A:Bool):0<=jo h A/\jo h A<=1000000:=by
 have E:=D.ae;have F:=D.old;have G:=D.bk;have I:=D.be;cases A
 ·exact ⟨by show 0<=h.bk;omega,by show h.bk<=1000000;omega⟩
 exact ⟨by show 0<=h.be;omega,by show h.be<=1000000;omega⟩
theorem zlx (hc:qc X B w Z Y L V N O W F h d ts) (I:na d h) (G:B9 d) (A len:Int) (D:Bool) (k:Nat) (J:k<(ow d h A len D).length) (E:∀(j:Nat) (hj:j<(ow d h A len D).length),j<k->(ow d h A len D)[j].ans=true):
 Calls prog (ow d h A len D)[k].g #[.agg #[.p (X+1),.i A,.i len,.bool D]] w fun r w'=>r=.returned (.bool (ow d h A len D)[k].ans)/\Bl w w':=by
 match k,J with
 | 0,_=>exact zli w X B _ _ _ _ _ _ _ F h d ts hc A len D (by have:=G.cn;omega)
 | 1,_=>
   have h0:dx d.am.length A=true:=E 0 (by simp [ow]) (by omega);unfold dx at h0;simp only [Bool.and_eq_true,decide_eq_true_eq]at h0;exact zlj w X B _ _ _ _ _ _ _ F h d ts hc A len D (by rw [G.fl];exact h0.2)
 | 2,_=>
   have h1:da d.fields A len=true:=E 1 (by simp [ow]) (by omega);have hl:=zlv G h1;exact zlk w X B _ _ _ _ _ _ _ F h d ts hc A len D (by have:=I.ae;omega) (zlw I D) (by omega)
theorem zly {d:ax} {h:ar} (E:na d h) {A:Bool} {len:Int} (D:pw h A len=true):jo h A+3+len<=h.ab.length:=by
 unfold pw at D;have D:=of_decide_eq_true D;have F:=E.ae;have G:=E.old;have I:=E.len;cases A
 ·have:ux h false=h.ae+1:=rfl;omega
 have:ux h true=h.ab.length:=rfl;omega
def Db (w:World) (h:ar) (d:ax) (tag len:Int) (old:Bool) (r:Ending) (w':World):Prop:=
 (qj d h tag len old=0/\∃nW dW nO dO,r=.returned (.agg #[.slice nW (gh h tag len old).ab.length dW,.i (gh h tag len old).ae,.i (gh h tag len old).old,.i (gh h tag len old).bk,.i (gh h tag len old).be,.slice nO (gh h tag len old).ap.length dO,.i (gh h tag len old).next,.i (jo h old)])/\ik w.heap.size w' (.slice nW (gh h tag len old).ab.length dW) (.slice nO (gh h tag len old).ap.length dO) (gh h tag len old))\/
  (qj d h tag len old≠0/\r=.panicked [wrongV (qj d h tag len old) 0])
theorem zlz (hc:qc X B w vW vO kC kS kF kN kT vA h d ts) (hz:na d h) (hd:B9 d) (bf:h.ap.length<=1000000) (D len:Int) (A:Bool) (ho:A=false):
 Calls prog 58 #[.agg #[.p (X+1),.i D,.i len,.bool A]] w fun r w'=>Bl w w'/\Db w h d D len A r w':=by
 have a4:=aj ho;clear ho;have b7:=ri prog;obtain ⟨J,N⟩:∃J,J=(w.alloc (.cells #[.p (X+1),.i D,.i len,.bool A] 96)).alloc (.cells #[.nl,.i 0,.i 0,.i 0,.i 0,.nl,.i 0,.i 0] 92):=⟨_,rfl⟩;have an:Bl w J:=N ▸ ((br _ _).alloc (nlq _) _).alloc (by simp) _;have ay:J.heap.size=w.heap.size+1+1:=by rw [N];simp
 have bb:J.heap[w.heap.size]? =some (.cells #[.p (X+1),.i D,.i len,.bool A] 96 (0,0)):=by rw [N];exact (Below.heap_alloc _ _ _ (by simp)).trans (heap_alloc_new w _)
 have O:J.heap[w.heap.size+1]? =some (.cells #[.nl,.i 0,.i 0,.i 0,.i 0,.nl,.i 0,.i 0] 92 (0,0)):=by have:=heap_alloc_new (w.alloc (.cells #[.p (X+1),.i D,.i len,.bool A] 96)) (.cells #[.nl,.i 0,.i 0,.i 0,.i 0,.nl,.i 0,.i 0] 92);rw [<-N]at this;simpa using this
 have bc:=hc.below an;have al:=aj bc;have HQ:Hid (SL 2 (RQ #[.agg #[.p (X+1),.i D,.i len,.bool A]]) (· <w.heap.size+1+1+1) (J.alloc (.cells #[.func (.func 120) #[.agg #[.p (X+1),.i D,.i len,.bool A]] #[],.i 7,.func (.func 121) #[.agg #[.p (X+1),.i D,.i len,.bool A]] #[],.i 3,.func (.func 122) #[.agg #[.p (X+1),.i D,.i len,.bool A]] #[],.i 8] 170)) (.slice (some ⟨w.heap.size+1+1,0,none⟩) 3 3) (ow d h D len A)):=by rw [<-ay];exact Dt J 170 #[.agg #[.p (X+1),.i D,.i len,.bool A]] (ow d h D len A) (by simp [ow])
 have HA:=aj (fun o=>(br J.heap.size J).alloc (nlq _) o);have ac:=aj an;have a5:=aj ay;have G:=aj (And.intro bb O);have a0:=aj N;have HZ:=aj hz;have HD:=aj hd;have a3:=aj bf;obtain ⟨aC,cC,aS,cS,aF,cF,aN,cN,aT,cT,rfl,rfl,rfl,rfl,rfl⟩:=hc.lk.agg;have b0:Hid (B<=X/\X+1<w.heap.size):=⟨hc.le,bz hc.blk⟩;clear hc bc an ay bb O N hz hd bf;go_enter func58,ntmps58
 go_wp21
 rw [<-a0.o];refine (zi6 _ (w.heap.size+1+1+1) _ _ (ow d h D len A) HQ.o (by rw [a0.o];simp) (zlt d h D len A) (zlu d h D len A) ?_).mono ?_
 ·intro k hk a9 V hV;exact zlx V X B _ _ _ _ _ _ _ vA h d ts (al.o.below ((HA.o _).trans (hV.mono (HA.o _).size))) HZ.o HD.o D len A k hk a9
 rintro r w1 ⟨⟨hc,rfl⟩ | ⟨hc,rfl⟩,O⟩
 ·rw [zls]at hc;exact ⟨rfl,ac.o.trans (((HA.o _).trans (O.mono (HA.o _).size)).mono ac.o.size),inr ⟨hc,by rw [zls]⟩⟩
 rw [zls]at hc;have I:Bl J w1:=(HA.o _).trans (O.mono (HA.o _).size);have az:=aj I;have b1:=aj hc;have aw:da d.fields D len=true/\pw h A len=true:=by unfold qj at hc;cases e1:dx d.am.length D<;>cases e2:da d.fields D len<;>cases e3:pw h A len<;>simp_all
 have bh:=zlv HD.o aw.1;have bm:=zly HZ.o aw.2;have bo:=zlw HZ.o A;have bn:=I.size;have bd:=al.o.below I;have k0:=(I.block _ (bz G.o.1)).trans G.o.1;have ch:=bz k0;have c0:=bg k0 0 (x:=.p (X+1)) rfl;have a7:Hid (h.ab.length<=1000000):=by have:=HZ.o.len;have:=HZ.o.ae;have:=HZ.o.old;show _<=_;omega
 have ak:=aj (zlf w1 X B _ _ _ _ _ _ _ vA h d ts bd a7.o a3.o);clear O I hc aw bd k0 HQ
 go_wp21
 refine ak.o.mono ?_;rintro r w2 ⟨au,nW,dW,nO,dO,rfl,ai⟩;have b3:=au.size;have Y:Bl J w2:=az.o.trans (au.mono bn);obtain ⟨W3,af⟩:∃W3,W3=w2.alloc (.cells #[.slice nW h.ab.length dW,.i h.ae,.i h.old,.i h.bk,.i h.be,.slice nO h.ap.length dO,.i h.next,.slice aC d.am.length cC,.slice aS d.bj.length cS,.slice aF d.fields.length cF,.slice aN d.names.length cN,.slice aT d.ba.length cT] 129):=⟨_,rfl⟩;have ad:Bl w2 W3:=af ▸ (br _ _).alloc (nlq _) _;have b9:=ad.size;have L:Bl J W3:=Y.trans (ad.mono (by omega));have bl:Og w1.heap.size B W3 w2.heap.size (.slice nW h.ab.length dW) (.slice nO h.ap.length dO) (.slice aC d.am.length cC) (.slice aS d.bj.length cS) (.slice aF d.fields.length cF) (.slice aN d.names.length cN) (.slice aT d.ba.length cT) h d:=by have h0:=b0.o;have h1:=a5.o;refine ⟨af ▸ heap_alloc_new w2 _,ai.below ad,(al.o.below L).lk,by omega,b3,fun e=>by have:=(ai.rW.lt _ e).2;omega,fun e=>by have:=(ai.rO.lt _ e).2;omega⟩
 have a1:=aj (zlp W3 w1.heap.size B w2.heap.size _ _ _ _ _ _ _ h d bl D len A a4.o (by have:=HZ.o.ae;omega) a7.o a3.o bo.1 bh.1 bm);have k3:=(L.block _ (bz G.o.1)).trans G.o.1;have zv:=bz k3;have d0:=bg k3 0 (x:=.p (X+1)) rfl;have d1:=bg k3 1 (x:=.i D) rfl;have d2:=bg k3 2 (x:=.i len) rfl;have d3:=bg k3 3 (x:=.bool A) rfl;have W:=aj L;have a6:=aj af;have b5:=G.o.1;have e0:=(Y.block _ (bz G.o.1)).trans G.o.1;have ce:=bz e0;have f1:=bg e0 1 (x:=.i D) rfl;have f2:=bg e0 2 (x:=.i len) rfl;have f3:=bg e0 3 (x:=.bool A) rfl;clear au ai Y ad L bl k3 b5 af e0 ak
 go_wp21
 rw [<-a6.o];refine a1.o.mono ?_;rintro r w4 ⟨rfl,F,av⟩;obtain ⟨E,aa⟩:∃E,gh h D len A=E:=⟨_,rfl⟩;have a2:=aj aa;rw [aa]at F;have bs:E.ab.length=h.ab.length:=by rw [<-aa];exact zll _ _ _ (by omega)
 have bi:E.ap.length=h.ap.length:=by rw [<-aa];rfl
 rw [<-bs,<-bi]at F;have ca:=av.size;have b6:=W.o.size;have Z:Bl J w4:=W.o.trans (av.mono bn);have g4:=F.blk;have cf:=bz g4;have j0:=bg g4 0 (x:=.slice nW E.ab.length dW) rfl;have j1:=bg g4 1 (x:=.i E.ae) rfl;have j2:=bg g4 2 (x:=.i E.old) rfl;have j3:=bg g4 3 (x:=.i E.bk) rfl;have j4:=bg g4 4 (x:=.i E.be) rfl;have j5:=bg g4 5 (x:=.slice nO E.ap.length dO) rfl;have j6:=bg g4 6 (x:=.i E.next) rfl;have k4:=(Z.block _ (bz G.o.2)).trans G.o.2;have a8:Bl w w4:=ac.o.trans (Z.mono ac.o.size);have b4:=a5.o;obtain ⟨W9,h9,ah,hq,hr,rz,rl⟩:=si k4 [.slice nW E.ab.length dW,.i E.ae,.i E.old,.i E.bk,.i E.be,.slice nO E.ap.length dO,.i E.next,.i (jo h A)] rfl;have rk:=Dg hr;have qk:=Dg hq;have cc:=ah.size;have bu:=aj (pf (a8) ah (by omega));have bx:=aj ah;simp only [jj,Nat.reduceAdd]at h9;have H9:=aj h9;clear ah hq hr h9;have b2:Hid (ik w.heap.size W9 (.slice nW E.ab.length dW) (.slice nO E.ap.length dO) E):=(F.ov.mono (by omega)).grown bx.o (fun e=>by have:=(F.ov.rW.lt _ e).1;omega) (fun e=>by have:=(F.ov.rO.lt _ e).1;omega);clear F av Z g4 k4 a8 b4 aa bs bi a1 W a6 d0 d1 d2 d3 f1 f2 f3
 go_wp21
 rw [H9.o];refine bodyPost_ret (v:=.agg #[.slice nW E.ab.length dW,.i E.ae,.i E.old,.i E.bk,.i E.be,.slice nO E.ap.length dO,.i E.next,.i (jo h A)]) (by simp [results,results58,go_sem,qk]) rfl ⟨bu.o,inl ⟨b1.o,nW,dW,nO,dO,?_,?_⟩⟩
 ·rw [a2.o]
 rw [a2.o];exact b2.o
theorem zl0 {b e n len:Nat} {w w':World} {v:Value} {xs:List Value} (h:w.ownsRow b e n v len xs) (I:tb lo hi w w') (J:hi<=b):w'.ownsRow b e n v len xs:=by refine ⟨h.1,h.2.imp id ?_⟩;rintro ⟨g,cap,A,E,F,D,G⟩;exact ⟨g,cap,A,E,F,(I.block g (bz D) (inr (by omega))).trans D,G⟩
theorem ik.far {b:Nat} {w w':World} {F E:Value} {h:ar} (o:ik b w F E h) (D:tb lo hi w w') (A:hi<=b):ik b w' F E h:=⟨zl0 o.rW D A,zl0 o.rO D A,o.ne⟩
theorem zl1 {d:ax} {h:ar} {ts:List bq} (h0:cg d h=0) (A:jh d h=some ts) (G:∀x∈h.ab,(Lit.int .i64 x).wf=true):na d h/\B9 d/\h.ap.length<=1000000:=by
 unfold cg at h0;cases hok:qw d
 ·rw [hok]at h0;simp at h0
 rw [hok]at h0;simp only [if_true]at h0;have D:=Fu hok;unfold oa at h0;cases h1:kj h
 ·rw [h1]at h0;simp at h0
 cases h2:ju h
 ·rw [h1,h2]at h0;simp at h0
 cases h3:lq h
 ·rw [h1,h2,h3]at h0;simp at h0
 have E:=zkb D h1 h2 h3;rw [h1,h2,h3,A]at h0;simp only [if_true]at h0;refine ⟨E,D,?_⟩;have F:=zkh D E G A;unfold mc at h0;cases e1:pv h.ap
 ·rw [e1]at h0;revert h0;cases ts.any (jx h)<;>cases decide ((ts.map bq.hash).Nodup)<;>cases (ts.any fun x=>fx d.fields h.ab x fun n=>!cq ts n)<;>cases (lj h).any (· != 0)<;>simp
 cases e2:h.ap.any (ib d h ts)
 ·exact zkj F e1 e2
 rw [e1,e2]at h0;revert h0;cases ts.any (jx h)<;>cases decide ((ts.map bq.hash).Nodup)<;>cases (ts.any fun x=>fx d.fields h.ab x fun n=>!cq ts n)<;>cases (lj h).any (· != 0)<;>simp
def j7 (d:ax) (h:ar) (tag len:Int) (old:Bool):Int:=if cg d h=0 then qj d h tag len old else cg d h
theorem zl2 {d:ax} {h:ar} {D len:Int} {A:Bool} (h0:cg d h≠0):cg d h=j7 d h D len A:=by unfold j7;rw [if_neg h0]
theorem zl3 {d:ax} {h:ar} {D len:Int} {A:Bool} (h0:cg d h=0):qj d h D len A=j7 d h D len A:=by unfold j7;rw [if_pos h0]
def Ax (b:Nat) (d:ax) (h:ar) (tag len:Int) (old:Bool) (v:Value) (w:World):Prop:=
 j7 d h tag len old=0/\∃nW dW nO dO,v=.agg #[.slice nW (gh h tag len old).ab.length dW,.i (gh h tag len old).ae,.i (gh h tag len old).old,.i (gh h tag len old).bk,.i (gh h tag len old).be,.slice nO (gh h tag len old).ap.length dO,.i (gh h tag len old).next,.i (jo h old)]/\ik b w (.slice nW (gh h tag len old).ab.length dW) (.slice nO (gh h tag len old).ap.length dO) (gh h tag len old)
theorem zl4 (g:Hd B w vW vO kC kS kF kN kT h d) (F len:Int) (A:Bool) (ho:A=false) (k0:w.heap[P0]? =some (.cells #[vW,.i h.ae,.i h.old,.i h.bk,.i h.be,vO,.i h.next] 24 (0,0))) (k1:w.heap[P1]? =some (.cells #[kC,kS,kF,kN,kT] 36 (0,0))) (k2:w.heap[P2]? =some (.cells #[.i F] 3 (0,0))) (k3:w.heap[P3]? =some (.cells #[.i len] 3 (0,0))) (k4:w.heap[P4]? =some (.cells #[.bool A] 4 (0,0))):
 Calls prog 57 #[.p P0,.p P1,.p P2,.p P3,.p P4] w fun r w'=>Bl w w'/\((∃v,r=.returned v/\Ac v/\Ax w.heap.size d h F len A v w')\/∃e p,r=.panicked [wrongV e p]/\e=j7 d h F len A/\p=0/\j7 d h F len A≠0):=by
 have am:=aj ho;clear ho;obtain ⟨G,J⟩:∃G,G=w.alloc (.cells #[.nl,.i 0,.i 0,.i 0,.i 0,.nl,.i 0,.i 0] 92):=⟨_,rfl⟩;have D:Bl w G:=J ▸ (br _ _).alloc (nlq _) _;have av:G.heap[w.heap.size]? =some (.cells #[.nl,.i 0,.i 0,.i 0,.i 0,.nl,.i 0,.i 0] 92 (0,0)):=J ▸ heap_alloc_new w _;have an:Hid (G.heap.size=w.heap.size+1):=by show _=_;rw [J];simp
 have l0:=bz k0;have az:=(D.block _ l0).trans k0;have l1:=bz k1;have a0:=(D.block _ l1).trans k1;have l2:=bz k2;have a1:=(D.block _ l2).trans k2;have l3:=bz k3;have a2:=(D.block _ l3).trans k3;have l4:=bz k4;have a3:=(D.block _ l4).trans k4;have ck:=il az;have ek:=cells5 a0;have b2:=bg a1 0 (x:=.i F) rfl;have b3:=bg a2 0 (x:=.i len) rfl;have b4:=bg a3 0 (x:=.bool A) rfl;have a5:Hid (∀V,Bl G V->Calls prog 53 #[.agg #[vW,.i h.ae,.i h.old,.i h.bk,.i h.be,vO,.i h.next],.agg #[kC,kS,kF,kN,kT]] V fun r w'=>Bl V w'/\ye V B vW vO kC kS kF kN kT h d r w'):=fun V hV=>zk4 (g.below ((D.trans (hV.mono D.size)).mono g.le));have I:=aj D;have HG:=aj g;have a8:=aj J;have ak:=aj av;obtain ⟨aW,cW,aO,cO,aC,cC,aS,cS,aF,cF,aN,cN,aT,cT,rfl,rfl,rfl,rfl,rfl,rfl,rfl⟩:=g.agg;clear g D J av k0 az k1 a0 k2 a1 k3 a2 k4 a3;go_enter func57,ntmps57
 go_wp21
 rw [<-a8.o];refine wp_region_held_drew (S:=fun W'=>∀p:Addr,p.block<w.heap.size->W'.cell? p=G.cell? p) (by kernel_rfl) (fun p hp=>rfl) fun W=>?_;refine ta 0 (.agg (H7 aW cW aO cO h)) rfl W ?_;refine ta 1 (.agg (K5 aC cC aS cS aF cF aN cN aT cT d)) rfl W ?_;refine ta 3 (.i F) rfl W ?_;refine ta 4 (.i len) rfl W ?_;refine ta 5 (.bool A) rfl W ?_;refine wpAnyH_ready (rs:=[2]) (by kernel_rfl) (by simp) ?_;refine AllReadyH.cons rfl (fun K2 bb=>?_) AllReadyH.nil;go_simp;refine (a5.o _ (br _ _).drew).mono ?_;rintro r w5 ⟨ad,⟨h0,X,vA,ts,rfl,ay,hX,aa⟩ | ⟨h0,rfl⟩⟩
 rotate_left
 ·exact ⟨rfl,I.o.trans (((br G.heap.size G).drew.trans ad).mono I.o.size),inr ⟨_,_,rfl,zl2 h0,rfl,by rw [<-zl2 h0];exact h0⟩⟩
 have L:Bl G w5:=(br G.heap.size G).drew.trans ad;have ac:=aj (zl1 h0 ay HG.o.ww);have a7:=aj (zlz w5 X B _ _ _ _ _ _ _ vA h d ts aa ac.o.1 ac.o.2.1 ac.o.2.2 F len A am.o);have aw:=L.size;refine bb.o _ _ (fun p hp=>L.cell (by have:=an.o;omega)) fun W=>?_;refine ta 6 (.agg #[.p (X+1),.i F,.i len,.bool A]) rfl W ?_;refine wpAnyH_ready (rs:=[7]) (by kernel_rfl) (by simp) ?_;refine AllReadyH.cons rfl (fun K7 bc=>?_) AllReadyH.nil;go_simp;refine a7.o.mono ?_;rintro r w7 ⟨Y,⟨ah,nW,dW,nO,dO,rfl,O⟩ | ⟨ah,rfl⟩⟩
 rotate_left
 ·exact ⟨rfl,I.o.trans ((L.trans (Y.mono aw)).mono I.o.size),inr ⟨_,_,rfl,zl3 h0,rfl,by rw [<-zl3 h0];exact ah⟩⟩
 obtain ⟨E,af⟩:∃E,gh h F len A=E:=⟨_,rfl⟩;rw [af]at O ⊢;have N:Bl G w7:=L.trans (Y.mono aw);have bh:=Y.size;have k7:=(N.block _ (bz ak.o)).trans ak.o;have au:Bl w w7:=I.o.trans (N.mono I.o.size);have bf:=an.o;obtain ⟨W9,h9,Z,hq,hr,rz,rl⟩:=si k7 [.slice nW E.ab.length dW,.i E.ae,.i E.old,.i E.bk,.i E.be,.slice nO E.ap.length dO,.i E.next,.i (jo h A)] rfl;have rk:=Dg hr;have qk:=Dg hq;have bi:=Z.size;have a4:=aj (pf (au) Z (by omega));have ai:=aj Z;simp only [jj,Nat.reduceAdd]at h9;have H9:=aj h9;clear Z hq hr h9;have ba:Hid (ik w.heap.size W9 (.slice nW E.ab.length dW) (.slice nO E.ap.length dO) E):=(O.mono (by omega)).grown ai.o (fun e=>by have:=(O.rW.lt _ e).1;omega) (fun e=>by have:=(O.rO.lt _ e).1;omega);have a6:Hid (∀p:Addr,p.block<w.heap.size->W9.cell? p=G.cell? p):=fun p hp=>(cell?_of_block (a:=p) (ai.o.block p.block (by omega) (by intro e;injection e;omega))).trans (N.cell (by omega));have a9:=aj af;have al:=aj (And.intro h0 ah);refine bc.o _ _ (fun p hp=>N.cell (by omega)) fun W=>?_;clear Y O k7 au N L ad aa ay hX af bf;refine wpAnyH_ready (rs:=[8]) (by kernel_rfl) (by simp) ?_;refine AllReadyH.cons rfl (fun K8 bd=>?_) AllReadyH.nil;go_simp;rw [H9.o];refine bd.o _ _ a6.o fun W=>?_;refine wpAnyH_done (by kernel_rfl) ?_ _;clear W;try simp only [Act.put,p1q,p4q,p3q,p2q,p5q,p6q]
 go_wp21
 refine bodyPost_ret (v:=.agg #[.slice nW E.ab.length dW,.i E.ae,.i E.old,.i E.bk,.i E.be,.slice nO E.ap.length dO,.i E.next,.i (jo h A)]) (by simp [results,results57,go_sem,qk]) rfl ⟨a4.o,inl ⟨_,rfl,⟨_,_,_,_,_,_,_,_,_,_,_,_,rfl⟩,?_⟩⟩;unfold Ax;rw [a9.o,<-zl3 al.o.1];exact ⟨al.o.2,nW,dW,nO,dO,rfl,ba.o⟩
theorem Bk:(callFunc 57 args).run prog w=.ok (.enter 57 args) w:=by kernel_rfl
def Dd (w:World) (d:ax) (h:ar) (tag len:Int) (old:Bool) (r:Ending) (w':World):Prop:=
 (j7 d h tag len old=0/\∃nW dW nO dO,r=.returned (.tuple #[.agg (H7 nW dW nO dO (gh h tag len old)),.i (jo h old),.i 0])/\ik w.heap.size w' (.slice nW (gh h tag len old).ab.length dW) (.slice nO (gh h tag len old).ap.length dO) (gh h tag len old))\/
  (j7 d h tag len old≠0/\r=.returned (.tuple #[.agg #[.nl,.i 0,.i 0,.i 0,.i 0,.nl,.i 0],.i 0,.i (j7 d h tag len old)]))
theorem zl5 (g:Hd B w vW vO kC kS kF kN kT h d) (F len:Int) (D:Bool) (ho:D=false):
 Calls prog 22 #[.agg #[vW,.i h.ae,.i h.old,.i h.bk,.i h.be,vO,.i h.next],.agg #[kC,kS,kF,kN,kT],.i F,.i len,.bool D] w fun r w'=>Bl w w'/\Dd w d h F len D r w':=by
 have a2:=aj ho;clear ho;have bi:=ri prog;have HG:=aj g;obtain ⟨aW,cW,aO,cO,aC,cC,aS,cS,aF,cF,aN,cN,aT,cT,rfl,rfl,rfl,rfl,rfl,rfl,rfl⟩:=g.agg;clear g;obtain ⟨W0,a4,ak,X,k0,k1,k2,k3,k4,k5⟩:=Ce w (H7 aW cW aO cO h) (K5 aC cC aS cS aF cF aN cN aT cT d) #[.i F] #[.i len] #[.bool D] #[.nl,.i 0,.i 0,.i 0,.i 0,.nl,.i 0] 24 36 3 3 4 24;have ai:Hid (Calls prog 56 #[.func (.func 57) #[] #[.p w.heap.size,.p (w.heap.size+1),.p (w.heap.size+1+1),.p (w.heap.size+1+1+1),.p (w.heap.size+1+1+1+1)]] W0 fun r w'=>Bl W0 w'/\W0.heap.size+5<=w'.heap.size/\
  ((∃v,r=.returned (.tuple #[v,.agg #[.i 0,.i 0]])/\Ac v/\Ax (W0.heap.size+5) d h F len D v w')\/
   (∃e p,r=.returned (.tuple #[.agg #[.nl,.i 0,.i 0,.i 0,.i 0,.nl,.i 0,.i 0],.agg #[.i e,.i p]])/\(e=j7 d h F len D/\p=0/\j7 d h F len D≠0)))):=by
  refine zlr W0 57 _ (Ax (W0.heap.size+5) d h F len D) (fun e p=>e=j7 d h F len D/\p=0/\j7 d h F len D≠0) Bk ?_ ?_
  ·intro W hW hs;have hk:∀(b:Nat) (ob:Obj),W0.heap[b]? =some ob->W.heap[b]? =some ob:=fun b ob e=>(hW.block b (by
    rcases Nat.lt_or_ge b W0.heap.size with a7 | a6
    ·exact a7
    rw [Array.getElem?_eq_none a6]at e;cases e)).trans e
   have:=zl4 W B _ _ _ _ _ _ _ _ _ _ _ _ h d (HG.o.below ((ak.trans (hW.mono ak.size)).mono HG.o.le)) F len D a2.o (hk _ _ k0) (hk _ _ k1) (hk _ _ k2) (hk _ _ k3) (hk _ _ k4);rw [<-hs];exact this
  rintro v W W' hs hf ⟨h0,nW,Z,nO,Y,e,ho⟩;exact ⟨h0,nW,Z,nO,Y,e,ho.far hf (nlq _)⟩
 have ah:=aj k5;have ad:=aj ak;have az:=aj a4;have a3:=aj X;rw [az.o]at ai;clear k0 k1 k2 k3 k4 k5 ak a4 X;go_enter func22,ntmps22
 go_wp21
 refine ai.o.mono ?_;rw [<-az.o];rintro r E ⟨V,bj,⟨v,rfl,-,h0,nW,Z,nO,Y,rfl,ac⟩ | ⟨e,p,rfl,rfl,rfl,h0⟩⟩
 ·obtain ⟨A,aw⟩:∃A,gh h F len D=A:=⟨_,rfl⟩;rw [aw]at ac ⊢;have X:=a3.o;have a0:=aj aw;have an:=aj h0;clear aw ai;obtain ⟨G,I⟩:∃G,G=((E.alloc (.cells #[.slice nW A.ab.length Z,.i A.ae,.i A.old,.i A.bk,.i A.be,.slice nO A.ap.length Y,.i A.next,.i (jo h D)] 92)).alloc (.cells #[.i 0,.i 0] 84)):=⟨_,rfl⟩;have J:Bl E G:=I ▸ ((br _ _).alloc (nlq _) _).alloc (by simp) _;have a8:=J.size;have N:G.heap[E.heap.size]? =some (.cells #[.slice nW A.ab.length Z,.i A.ae,.i A.old,.i A.bk,.i A.be,.slice nO A.ap.length Y,.i A.next,.i (jo h D)] 92 (0,0)):=by rw [I];exact (Below.heap_alloc _ _ _ (by simp)).trans (heap_alloc_new E _)
  have m1:G.heap[E.heap.size+1]? =some (.cells #[.i 0,.i 0] 84 (0,0)):=by have:=heap_alloc_new (E.alloc (.cells #[.slice nW A.ab.length Z,.i A.ae,.i A.old,.i A.bk,.i A.be,.slice nO A.ap.length Y,.i A.next,.i (jo h D)] 92)) (.cells #[.i 0,.i 0] 84);rw [<-I]at this;simpa using this
  have k2:G.heap[w.heap.size+1+1+1+1+1]? =some (.cells #[.nl,.i 0,.i 0,.i 0,.i 0,.nl,.i 0] 24 (0,0)):=(J.block _ (by omega)).trans ((V.block _ (bz ah.o)).trans ah.o);have aa:Bl w G:=(ad.o.trans (V.mono ad.o.size)).trans (J.mono (by omega));obtain ⟨W9,h9,O,hq,hr,rz,rl⟩:=si k2 [.slice nW A.ab.length Z,.i A.ae,.i A.old,.i A.bk,.i A.be,.slice nO A.ap.length Y,.i A.next] rfl;have rk:=so hr;have qk:=so hq;have a9:=O.size;have al:=aj (pf (aa) O (by omega));have af:=aj O;simp only [jj,Nat.reduceAdd]at h9;have H9:=aj h9;clear O hq hr h9;have v0:=bg N 0 (x:=.slice nW A.ab.length Z) rfl;have v1:=bg N 1 (x:=.i A.ae) rfl;have v2:=bg N 2 (x:=.i A.old) rfl;have v3:=bg N 3 (x:=.i A.bk) rfl;have v4:=bg N 4 (x:=.i A.be) rfl;have v5:=bg N 5 (x:=.slice nO A.ap.length Y) rfl;have v6:=bg N 6 (x:=.i A.next) rfl;have v7:=bg N 7 (x:=.i (jo h D)) rfl;have u0:=bg m1 0 (x:=.i 0) rfl;have ba:=bz N;have bb:=bz m1;have bc:¬E.heap.size=w.heap.size+1+1+1+1+1:=by omega
  have bd:¬E.heap.size+1=w.heap.size+1+1+1+1+1:=by omega
  have bf:¬E.heap.size=w.heap.size+1+1+1+1:=by omega
  have bh:¬E.heap.size=w.heap.size+4:=by omega
  have am:Hid (∀p:Addr,p.block<G.heap.size->p.block≠w.heap.size+1+1+1+1+1->W9.cell? p=G.cell? p):=fun p hp ay=>cell?_of_block (a:=p) (af.o.block p.block hp (fun e=>ay (ojq e)));have a5:Hid (ik w.heap.size W9 (.slice nW A.ab.length Z) (.slice nO A.ap.length Y) A):=((ac.below J).mono (by omega)).grown af.o (fun e=>by have:=(ac.rW.lt _ e).1;omega) (fun e=>by have:=(ac.rO.lt _ e).1;omega);clear ac h0 X;have au:=aj I;clear J N m1 k2 aa V I
  go_wp21
  rw [<-au.o];refine wp_region_held_drew (S:=fun W'=>∀p:Addr,p.block<G.heap.size->p.block≠w.heap.size+1+1+1+1+1->W'.cell? p=G.cell? p) (by kernel_rfl) (fun p hp _=>rfl) fun L=>?_;refine ta 0 (.p E.heap.size) rfl L ?_;refine ta 1 (.agg (H7 nW Z nO Y A)) rfl L ?_;refine ta 2 (.pointer (some ⟨E.heap.size,7,none⟩)) rfl L ?_;refine ta 3 (.i (jo h D)) rfl L ?_;refine ta 4 (.p (E.heap.size+1)) rfl L ?_;refine ta 5 (.i 0) rfl L ?_;refine wpAnyH_ready (rs:=[6]) (by kernel_rfl) (by simp) ?_;refine AllReadyH.cons rfl (fun K6 av=>?_) AllReadyH.nil;go_simp;rw [H9.o];refine av.o _ _ am.o fun L=>?_;refine ta 7 (.i (jo h D)) rfl L ?_;refine ta 8 (.i 0) rfl L ?_;refine wpAnyH_done (by kernel_rfl) ?_ _;clear L;try simp only [Act.put,p1q,p4q,p3q,p2q,p5q,p6q]
  go_wp21
  refine bodyPost_ret (v:=.tuple #[.agg (H7 nW Z nO Y A),.i (jo h D),.i 0]) (by simp [results,results22,go_sem,qk]) rfl ⟨al.o.drew,inl ⟨an.o,nW,Z,nO,Y,?_,?_⟩⟩
  ·rw [a0.o]
  rw [a0.o];exact a5.o.below (br _ _).drew
 have X:=a3.o;have an:=aj h0;generalize hmr:j7 d h F len D=mr at*;have a1:=aj hmr;clear hmr ai;obtain ⟨G,I⟩:∃G,G=((E.alloc (.cells #[.nl,.i 0,.i 0,.i 0,.i 0,.nl,.i 0,.i 0] 92)).alloc (.cells #[.i mr,.i 0] 84)):=⟨_,rfl⟩;have J:Bl E G:=I ▸ ((br _ _).alloc (nlq _) _).alloc (by simp) _;have a8:=J.size;have N:G.heap[E.heap.size]? =some (.cells #[.nl,.i 0,.i 0,.i 0,.i 0,.nl,.i 0,.i 0] 92 (0,0)):=by rw [I];exact (Below.heap_alloc _ _ _ (by simp)).trans (heap_alloc_new E _)
 have m1:G.heap[E.heap.size+1]? =some (.cells #[.i mr,.i 0] 84 (0,0)):=by have:=heap_alloc_new (E.alloc (.cells #[.nl,.i 0,.i 0,.i 0,.i 0,.nl,.i 0,.i 0] 92)) (.cells #[.i mr,.i 0] 84);rw [<-I]at this;simpa using this
 have k2:G.heap[w.heap.size+1+1+1+1+1]? =some (.cells #[.nl,.i 0,.i 0,.i 0,.i 0,.nl,.i 0] 24 (0,0)):=(J.block _ (by omega)).trans ((V.block _ (bz ah.o)).trans ah.o);have aa:Bl w G:=(ad.o.trans (V.mono ad.o.size)).trans (J.mono (by omega));obtain ⟨W9,h9,O,hq,hr,rz,rl⟩:=si k2 [.nl,.i 0,.i 0,.i 0,.i 0,.nl,.i 0] rfl;have rk:=so hr;have qk:=so hq;have a9:=O.size;have al:=aj (pf (aa) O (by omega));have af:=aj O;simp only [jj,Nat.reduceAdd]at h9;have H9:=aj h9;clear O hq hr h9;have v0:=bg N 0 (x:=.nl) rfl;have v1:=bg N 1 (x:=.i 0) rfl;have v2:=bg N 2 (x:=.i 0) rfl;have v3:=bg N 3 (x:=.i 0) rfl;have v4:=bg N 4 (x:=.i 0) rfl;have v5:=bg N 5 (x:=.nl) rfl;have v6:=bg N 6 (x:=.i 0) rfl;have v7:=bg N 7 (x:=.i 0) rfl;have u0:=bg m1 0 (x:=.i mr) rfl;have ba:=bz N;have bb:=bz m1;have bc:¬E.heap.size=w.heap.size+1+1+1+1+1:=by omega
 have bd:¬E.heap.size+1=w.heap.size+1+1+1+1+1:=by omega
 have bf:¬E.heap.size=w.heap.size+1+1+1+1:=by omega
 have bh:¬E.heap.size=w.heap.size+4:=by omega
 have am:Hid (∀p:Addr,p.block<G.heap.size->p.block≠w.heap.size+1+1+1+1+1->W9.cell? p=G.cell? p):=fun p hp ay=>cell?_of_block (a:=p) (af.o.block p.block hp (fun e=>ay (ojq e)));clear h0 X;have au:=aj I;clear J N m1 k2 aa V I
 go_wp21
 rw [<-au.o];refine wp_region_held_drew (S:=fun W'=>∀p:Addr,p.block<G.heap.size->p.block≠w.heap.size+1+1+1+1+1->W'.cell? p=G.cell? p) (by kernel_rfl) (fun p hp _=>rfl) fun L=>?_;refine ta 0 (.p E.heap.size) rfl L ?_;refine ta 1 (.agg #[.nl,.i 0,.i 0,.i 0,.i 0,.nl,.i 0]) rfl L ?_;refine ta 2 (.pointer (some ⟨E.heap.size,7,none⟩)) rfl L ?_;refine ta 3 (.i 0) rfl L ?_;refine ta 4 (.p (E.heap.size+1)) rfl L ?_;refine ta 5 (.i mr) rfl L ?_;refine wpAnyH_ready (rs:=[6]) (by kernel_rfl) (by simp) ?_;refine AllReadyH.cons rfl (fun K6 av=>?_) AllReadyH.nil;go_simp;rw [H9.o];refine av.o _ _ am.o fun L=>?_;refine ta 7 (.i 0) rfl L ?_;refine ta 8 (.i mr) rfl L ?_;refine wpAnyH_done (by kernel_rfl) ?_ _;clear L;try simp only [Act.put,p1q,p4q,p3q,p2q,p5q,p6q]
 go_wp21
 refine bodyPost_ret (v:=.tuple #[.agg #[.nl,.i 0,.i 0,.i 0,.i 0,.nl,.i 0],.i 0,.i mr]) (by simp [results,results22,go_sem,qk]) rfl ⟨al.o.drew,inr ⟨by rw [a1.o];exact an.o,by rw [a1.o]⟩⟩
def sw (d:ax) (h:ar):List bq:=(jh d h).getD []
theorem Dy {l:List Int} {k:Nat} (h:k<l.length):(b8 l)[k]? =some (.i l[k]):=by simp [b8,h]
def setW (h:ar) (m:Nat) (v:Int):ar:=⟨h.ab.set m v,h.ae,h.old,h.bk,h.be,h.ap,h.next⟩
def noteB (d:ax) (h:ar) (t:bq) (n:Nat) (v:Int):Bool:=jw d.fields t n&&(decide (h.ae<t.loc)&&dw h v)
def insN (l:List Int) (x:Int):List Int:=if l.contains x then l else l.takeWhile (fun y=>decide (y<x))++x::l.dropWhile (fun y=>decide (y<x))
def setD (d:ax) (h:ar) (t:bq) (n:Nat) (v:Int):ar:=⟨h.ab.set (t.loc+3+n).toNat v,h.ae,h.old,h.bk,h.be,if noteB d h t n v then insN h.ap t.loc else h.ap,h.next⟩
theorem zmi {b e n len:Nat} {w:World} {v:Value} {xs:List Value} (h:w.ownsRow b e n v len xs):∃a c,v=.slice a len c:=by
 rcases h.2 with ⟨A,E⟩ | ⟨g,cap,D,A,-⟩
 ·exact ⟨none,0,by rw [A,E]⟩
 exact ⟨_,_,A⟩
def setH (d:ax) (h:ar) (loc n v:Int):ar:=setD d h (qp (sw d h) loc) n.toNat v
def pu:ar:=yw 20 20
def sc:ar:=gh pu 1 2 false
def D8:ar:=setH (kg baseD) sc 1 1 7
theorem zmx:j7 (kg baseD) pu 1 2 false=0:=by kernel_rfl
def wfL (l:List Int):Bool:=l.all fun x=>(Lit.int .i64 x).wf
theorem Fw {l:List Int} (h:wfL l=true):∀x∈l,(Lit.int .i64 x).wf=true:=by unfold wfL at h;rw [all_eq_true]at h;exact h
theorem zm5:wfL pu.ab=true:=by kernel_rfl
theorem zm6:wfL sc.ab=true:=by kernel_rfl
theorem Ew:pu.ap= []/\sc.ap= []/\D8.ap= []:=⟨by kernel_rfl,by kernel_rfl,by kernel_rfl⟩
theorem zm9:pu.ab.length=41/\sc.ab.length=41/\D8.ab.length=41:=⟨by kernel_rfl,by kernel_rfl,by kernel_rfl⟩
theorem zna (Q:Nat):∀(cs:List Value) (w:World) (o:Nat),(∀j,w.frozen? ⟨Q,j,none⟩=false)->∀j,(jj w Q o cs).frozen? ⟨Q,j,none⟩=false
 | [],_,_,h=>h
 | c::cs,w,o,h=>zna Q cs (w.setCell ⟨Q,o,none⟩ c) (o+1) (fun j=>by rw [frozen?_setCell];exact h j)
theorem Hd.of_own {b B:Nat} {w:World} {L J D G E F I:Value} {h:ar} {d:ax} (o:ik b w L J h) (X:nh (· <B) w D G E F I d) (O:B<=w.heap.size) (h1:h.ab.length<=1000000) (N:h.ap.length<=1000000) (W:∀x∈h.ab,(Lit.int .i64 x).wf=true) (V:∀x∈h.ap,(Lit.int .i64 x).wf=true):Hd w.heap.size w L J D G E F I h d:=
 ⟨(rg o.rW h1).monoI fun _ A=>A.lt,(rg o.rO N).monoI fun _ A=>A.lt,X.mono fun _ A=>ll3 A O,nlq _,W,V⟩
theorem znb:Calls prog 17 #[.i 20,.i 20] w fun r w'=>Bl w w'/\∃n4 c4,r=.returned (.tuple #[.agg #[.slice n4 41 c4,.i 20,.i 20,.i 1,.i 21,.nl,.i 1],.i 0])/\ik w.heap.size w' (.slice n4 41 c4) (.nl) pu:=by
 refine (zla w 20 20).mono ?_;rintro r w' ⟨D,⟨-,-,v,rfl,A⟩ | ⟨hc,rfl⟩⟩
 ·obtain ⟨n,c,rfl⟩:=zmi A;exact ⟨D,n,c,by kernel_rfl,⟨A,ownsRow_nil _ _ _ _,fun k _ e=>by cases e⟩⟩
 exact absurd hc (by decide)
theorem znc (V I N J L O:Value) (d:ax) (Y:d=kg baseD) (g:Hd B w W V I N J L O pu d):
 Calls prog 22 #[.agg #[W,.i 20,.i 20,.i 1,.i 21,V,.i 1],.agg #[I,N,J,L,O],.i 1,.i 2,.bool false] w fun r w'=>Bl w w'/\∃F D E A,r=.returned (.tuple #[.agg #[.slice F 41 D,.i 20,.i 20,.i 6,.i 21,.slice E 0 A,.i 2],.i 1,.i 0])/\ik w.heap.size w' (.slice F 41 D) (.slice E 0 A) sc:=by
 subst Y;refine (zl5 w B _ _ _ _ _ _ _ pu (kg baseD) g 1 2 false rfl).mono ?_;rintro r w' ⟨X,⟨-,F,D,E,A,rfl,G⟩ | ⟨hc,rfl⟩⟩
 ·exact ⟨X,F,D,E,A,by kernel_rfl,G⟩
 exact absurd zmx hc
theorem zr9 (m:List Int) (V:SL 1 RI M w u l) (W:SL 1 RI M' w v m):
 Calls prog 29 #[u,v] w fun r w'=>r=.returned (.bool (di gc l m))/\∃n,w'=w.drewN n:=by
 have Z:=aj V;have N:=aj W;obtain ⟨au,cu,rfl,_,hl,-⟩:=V;obtain ⟨av,cv,rfl,_,O,-⟩:=W;unfold maxLen at hl O;by_cases A:l.length=m.length
 rotate_left
 ·have h0:¬(l.length:Int)=m.length:=by omega
  have Y:=aj (y9 gc l m A);clear A;go_enter func29,ntmps29;go_wp2
  go_ret;exact ⟨by rw [Y.o];rfl,0,rfl⟩
 rw [<-A]at N ⊢;have E:=aj A;clear O A;go_enter func29,ntmps29;go_wp2
 go_loopw [5] (fun i wr=>∃k:Nat,k<=l.length/\i=.i k/\Hid (di gc l m=di gc (l.drop k) (m.drop k))/\∃n,wr=w.drewN n) (fun i _=>l.length - (intOf i).toNat)
 case atStart=>exact ⟨0,n0q _,rfl,rfl,0,rfl⟩
 case round=>
  obtain ⟨k,hk,rfl,J,n,rfl⟩:=hrel;by_cases F:k<l.length
  ·have I:k<m.length:=by have:=E.o;omega
   obtain ⟨b,off,rfl,_,c0⟩:=Z.o.atI k F;obtain ⟨b2,X,rfl,_,d0⟩:=N.o.atI k I;have G:=aj (zz gc l m k F I);generalize l[k]=x at*;generalize m[k]=y at*;cases hs:gc x y
   ·have L:¬x=y:=by simpa [gc]using hs
    have D:Hid (di gc l m=false):=J.o.trans (by rw [G.o,hs,Bool.false_and]);go_wp2
    go_quiet (fail);go_wp2
    go_ret;exact ⟨by rw [D.o];rfl,_,drewN_drewN _ _ _⟩
   have L:x=y:=by simpa [gc]using hs
   have D:Hid (di gc l m=di gc (l.drop (k+1)) (m.drop (k+1))):=J.o.trans (by rw [G.o,hs,Bool.true_and]);go_wp2
   go_quiet (fail);go_wp2
   go_roundw
   case rel=>exact ⟨k+1,by omega,by go_num,D.o,_,rfl⟩
   case measure=>simp [intOf];omega
  have D:Hid (di gc l m=true):=J.o.trans (Aa gc l m k F E.o);go_wp2
  go_ret;exact ⟨by rw [D.o];rfl,n,rfl⟩
theorem zsa {B:Nat} {w w':World} (h:Below B w w') (n:Nat):Below B w (w'.drewN n):=⟨h.os,h.tape,h.output,h.size,h.block⟩
theorem nilI (w:World):SL 1 RI M w (.nl) []:=⟨none,0,rfl,nlq _,by unfold maxLen;simp,fun k A=>by cases A⟩
theorem zsb:di gc l l=true:=by
 induction l with
 | nil=>rfl
 | cons x l ih=>simp [di,gc,ih]
end Go.Proofs.YtjdnmblggdobgaaGreat
