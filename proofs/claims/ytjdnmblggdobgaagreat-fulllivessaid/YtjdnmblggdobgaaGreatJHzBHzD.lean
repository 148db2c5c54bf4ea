import Derived.Test.YtjdnmblggdobgaaGreatJHyDHyF
import Derived.Test.YtjdnmblggdobgaaGreatHzA
import Derived.Test.YtjdnmblggdobgaaGreatJHyGHyH
import Derived.Test.YtjdnmblggdobgaaGreatJTk2Dies
set_option maxHeartbeats 8000000
set_option maxRecDepth 100000
namespace Go.Proofs.YtjdnmblggdobgaaGreat
open Go.RowKit Go.Maps
def rchP (P:Int->Bool) (o:List Int) (v:Int):List Int:=if P v&& !o.contains v then o++ [v] else o
def RchP (P:Int->Bool) (next:Int->List Int) (from0:List Int) (v:Int):Prop:=∀Q:Int->Prop,(∀u,u∈from0->P u=true->Q u)->(∀u x,Q u->x∈next u->P x=true->Q x)->Q v
theorem RchP.root {P:Int->Bool} {next:Int->List Int} {from0:List Int} {v:Int} (h:v∈from0) (g:P v=true):RchP P next from0 v:=fun _ a _=>a v h g
theorem RchP.step {P:Int->Bool} {next:Int->List Int} {from0:List Int} {u v:Int} (h:RchP P next from0 u) (k:v∈next u) (g:P v=true):RchP P next from0 v:=fun Q a b=>b u v (h Q a b) k g
theorem RchP.ind {P:Int->Bool} {next:Int->List Int} {from0:List Int} {Q:Int->Prop} {v:Int} (h:RchP P next from0 v) (a:∀v,v∈from0->P v=true->Q v) (b:∀u v,RchP P next from0 u->v∈next u->P v=true->Q u->Q v):Q v:=(h (fun x=>RchP P next from0 x/\Q x) (fun u p q=>⟨RchP.root p q,a u p q⟩) (fun u x p q r=>⟨RchP.step p.1 q r,b u x p.1 q r p.2⟩)).2
def bfsP (P:Int->Bool) (next:Int->List Int):Nat->Nat->List Int->List Int
 | 0,_,o=>o
 | f+1,i,o=>match o[i]? with
   | none=>o
   | some a=>bfsP P next f (i+1) ((next a).foldl (rchP P) o)
theorem zw0 {P:Int->Bool} {o:List Int} {v:Int} (h:o.Nodup):(rchP P o v).Nodup:=by
 unfold rchP
 split
 ·
  rename_i hc
  rw [Bool.and_eq_true,Bool.not_eq_true']at hc
  refine List.nodup_append.2 ⟨h,by simp,?_⟩
  intro a ha b hb e
  rw [List.mem_singleton]at hb
  subst hb
  subst e
  rw [List.contains_iff_mem.2 ha]at hc
  cases hc.2
 exact h
theorem zw1 {P:Int->Bool} {o:List Int} {v x:Int} :x∈rchP P o v↔x∈o\/(x=v/\P v=true):=by
 unfold rchP
 cases hp:P v with
 | false=>simp
 | true=>
   cases hc:o.contains v with
   | true=>
     have hm:=List.contains_iff_mem.1 hc
     simp only [Bool.not_true,Bool.and_false,Bool.false_eq_true,if_false,and_true]
     exact ⟨Or.inl,fun h=>h.elim id fun e=>e ▸ hm⟩
   | false=>simp
theorem zw2 {P:Int->Bool} :∀(l o:List Int),o.Nodup->(l.foldl (rchP P) o).Nodup
 | [],_,h=>h
 | v::l,o,h=>zw2 l (rchP P o v) (zw0 h)
theorem zw3 {P:Int->Bool} {x:Int} :∀(l o:List Int),x∈l.foldl (rchP P) o↔x∈o\/(x∈l/\P x=true)
 | [],o=>by simp
 | v::l,o=>by
   rw [List.foldl_cons,zw3 l,zw1,List.mem_cons]
   constructor
   ·
    rintro ((h | ⟨rfl,h⟩) | ⟨h1,h2⟩)
    ·
     exact Or.inl h
    ·
     exact Or.inr ⟨Or.inl rfl,h⟩
    exact Or.inr ⟨Or.inr h1,h2⟩
   rintro (h | ⟨rfl | h1,h2⟩)
   ·
    exact Or.inl (Or.inl h)
   ·
    exact Or.inl (Or.inr ⟨rfl,h2⟩)
   exact Or.inr ⟨h1,h2⟩
theorem zw4 {P:Int->Bool} :∀(l o:List Int),∃e,l.foldl (rchP P) o=o++e
 | [],o=>⟨[],(List.append_nil _).symm⟩
 | v::l,o=>by
   obtain ⟨e,he⟩:=zw4 (P:=P) l (rchP P o v)
   rw [List.foldl_cons,he]
   unfold rchP
   split
   ·
    exact ⟨[v]++e,List.append_assoc ..⟩
   exact ⟨e,rfl⟩
theorem zw5:∀(l m:List Int),l.Nodup->(∀x∈l,x∈m)->l.length<=m.length
 | [],_,_,_=>Nat.zero_le _
 | x::l,m,hn,hs=>by
   rw [List.nodup_cons]at hn
   have hx:=hs x (List.mem_cons_self ..)
   have ih:=zw5 l (m.erase x) hn.2 fun y hy=>(List.mem_erase_of_ne (fun e=>hn.1 (by rw [<-e];exact hy))).2 (hs y (List.mem_cons_of_mem _ hy))
   rw [List.length_erase_of_mem hx]at ih
   have:0<m.length:=List.length_pos_of_mem hx
   rw [List.length_cons]
   omega
structure BfsI (P:Int->Bool) (next:Int->List Int) (from0 U:List Int) (i:Nat) (o:List Int):Prop where
 nd:o.Nodup
 le:i<=o.length
 sound:∀v∈o,RchP P next from0 v
 roots:∀v∈from0,P v=true->v∈o
 done:∀j a,j<i->o[j]? =some a->∀v∈next a,P v=true->v∈o
theorem zw6 {P:Int->Bool} {next:Int->List Int} {from0 U:List Int} :BfsI P next from0 U 0 (from0.foldl (rchP P) []):=
 ⟨zw2 _ _ List.nodup_nil,Nat.zero_le _,fun v hv=>by
  rcases (zw3 _ _).1 hv with h | h
  ·
   cases h
  exact RchP.root h.1 h.2,fun v hv hp=>(zw3 _ _).2 (Or.inr ⟨hv,hp⟩),fun j a hj=>by omega⟩
theorem BfsI.next {P:Int->Bool} {next:Int->List Int} {from0 U:List Int} {i:Nat} {o:List Int} (b:BfsI P next from0 U i o) {a:Int} (ha:o[i]? =some a):BfsI P next from0 U (i+1) ((next a).foldl (rchP P) o):=by
 have hi:i<o.length:=(List.getElem?_eq_some_iff.1 ha).1
 obtain ⟨e,he⟩:=zw4 (P:=P) (next a) o
 have hsame:∀j,j<=i->((next a).foldl (rchP P) o)[j]? =o[j]? :=fun j hj=>by rw [he,List.getElem?_append_left (by omega)]
 refine ⟨zw2 _ _ b.nd,by rw [he,List.length_append];omega,fun v hv=>?_,fun v hv hp=>(zw3 _ _).2 (Or.inl (b.roots v hv hp)),fun j c hj hc v hv hp=>?_⟩
 ·
  rcases (zw3 _ _).1 hv with h | h
  ·
   exact b.sound v h
  exact RchP.step (b.sound a (List.mem_of_getElem? ha)) h.1 h.2
 rw [hsame j (by omega)]at hc
 by_cases hji:j<i
 ·
  exact (zw3 _ _).2 (Or.inl (b.done j c hji hc v hv hp))
 have:j=i:=by omega
 subst this
 rw [ha]at hc
 have:=Option.some.inj hc
 subst this
 exact (zw3 _ _).2 (Or.inr ⟨hv,hp⟩)
theorem BfsI.all {P:Int->Bool} {next:Int->List Int} {from0 U:List Int} {o:List Int} (b:BfsI P next from0 U o.length o) (v:Int):v∈o↔RchP P next from0 v:=by
 refine ⟨b.sound v,fun h=>?_⟩
 apply RchP.ind h
 ·intro _ h1 h2
  exact b.roots _ h1 h2
 intro _ _ _ h1 h2 ih
 obtain ⟨j,hj,e⟩:=List.getElem_of_mem ih
 exact b.done j _ hj (by rw [List.getElem?_eq_getElem hj,e]) _ h1 h2
theorem zw7 {P:Int->Bool} {next:Int->List Int} {from0 U:List Int} (hU:∀v,RchP P next from0 v->v∈U):∀(f i:Nat) (o:List Int),U.length<i+f->BfsI P next from0 U i o->BfsI P next from0 U (bfsP P next f i o).length (bfsP P next f i o)
 | 0,i,o,hf,b=>by
   have:=zw5 o U b.nd fun x hx=>hU x (b.sound x hx)
   have:=b.le
   omega
 | f+1,i,o,hf,b=>by
   rw [bfsP]
   cases ha:o[i]? with
   | none=>
     have:o.length<=i:=List.getElem?_eq_none_iff.1 ha
     have e:i=o.length:=by have:=b.le;omega
     rw [e]at b
     exact b
   | some a=>exact zw7 hU f (i+1) _ (by omega) (b.next ha)
theorem zw8 {f:Int->Int} {l m:List Int} (hl:l.Nodup) (hm:m.Nodup) (h:∀x,x∈l↔x∈m) (h0:∀x∈l,0<=f x):(l.map f).sum=(m.map f).sum:=
 Int.le_antisymm (zuo l m hl (fun x hx=>(h x).1 hx) fun x hx=>h0 x ((h x).2 hx)) (zuo m l hm (fun x hx=>(h x).2 hx) h0)
def nextD (fs:List (List FieldD)) (ws:List Int) (a:Int):List Int:=(refsOf fs (thAt ws a)).map (wd ws)
def nz (v:Int):Bool:=v != 0
def liveL (d:LinkD) (h:HeapD) (rs:List Int):List Int:=bfsP nz (nextD d.fields h.words) (h.words.length+1) 0 (rs.foldl (rchP nz) [])
def liveN (d:LinkD) (h:HeapD) (rs:List Int):Int:=((liveL d h rs).map fun a=>3+wd h.words (a+1)).sum
theorem th_at {d:LinkD} {h:HeapD} {ts:List ThD} (r:Right d h ts) {t:ThD} (ht:t∈ts):t=thAt h.words t.loc:=by
 by_cases hy:t.loc<=h.young
 ·
  exact (zuj r ht hy).eq
 exact (zuv r ht (by omega)).2.2.1
theorem zw9 {d:LinkD} {h:HeapD} {ts:List ThD} (r:Right d h ts) {rs:List Int} (hr:∀v∈rs,leadB ts v=true) {v:Int} (hv:RchP nz (nextD d.fields h.words) rs v):∃t∈ts,t.loc=v:=by
 have hnz:∀ {v:Int},nz v=true->v≠0:=fun {v} h e=>by subst e;cases h
 apply RchP.ind hv
 ·intro _ h1 h2
  exact zul (hr _ h1) (hnz h2)
 intro _ _ _ h1 h2 ih
 obtain ⟨t,ht,rfl⟩:=ih
 unfold nextD at h1
 obtain ⟨a,ha,rfl⟩:=List.mem_map.1 h1
 rw [<-th_at r ht]at ha
 exact zul (zuu r ht ha) (hnz h2)
theorem zxa {d:LinkD} {h:HeapD} {ts:List ThD} (r:Right d h ts):(ts.map ThD.loc).length<h.words.length:=by
 rw [List.length_map]
 obtain ⟨ys,os,e1,e2,rfl⟩:=zkn r.both
 have z:=r.sized
 have z1:=z.young
 have z2:=z.old
 have z3:=z.len
 have z4:=z.ytop
 have z5:=z.otop
 have aux:∀(l:List ThD),(∀t∈l,0<=t.len)->(l.length:Int)<=(l.map fun t=>3+t.len).sum:=by
  intro l
  induction l with
  | nil=>intro _;exact Int.le_refl _
  | cons q l ih=>
    intro h
    have h1:=ih fun p hp=>h p (List.mem_cons_of_mem _ hp)
    have h2:=h q (List.mem_cons_self ..)
    rw [List.map_cons,List.sum_cons,List.length_cons]
    omega
 have s1:=zup _ 1 ys (Nat.le_refl _) (by omega) e1
 have s2:=zup _ (h.young+1) os (Nat.le_refl _) (by omega) e2
 have a1:=aux ys fun t ht=>zeo (zkm e1 t ht).2.2.2.2
 have a2:=aux os fun t ht=>zeo (zkm e2 t ht).2.2.2.2
 rw [List.length_append]
 omega
theorem zxb {d:LinkD} {h:HeapD} {ts:List ThD} (r:Right d h ts) {rs:List Int} (hr:∀v∈rs,leadB ts v=true):(liveL d h rs).Nodup/\∀v,v∈liveL d h rs↔RchP nz (nextD d.fields h.words) rs v:=by
 have hU:∀v,RchP nz (nextD d.fields h.words) rs v->v∈ts.map ThD.loc:=fun v hv=>by
  obtain ⟨t,ht,e⟩:=zw9 r hr hv
  exact List.mem_map.2 ⟨t,ht,e⟩
 have b:=zw7 hU (h.words.length+1) 0 _ (by have:=zxa r;omega) zw6
 exact ⟨b.nd,b.all⟩
theorem zxc {d:LinkD} {h:HeapD} {ts:List ThD} (r:Right d h ts) {rs:List Int} (hr:∀v∈rs,leadB ts v=true) {l:List Int} (hn:l.Nodup) (hl:∀v,v∈l↔RchP nz (nextD d.fields h.words) rs v):(l.map fun a=>3+wd h.words (a+1)).sum=liveN d h rs:=by
 obtain ⟨l1,l2⟩:=zxb r hr
 refine zw8 hn l1 (fun x=>(hl x).trans (l2 x).symm) fun x hx=>?_
 obtain ⟨t,ht,rfl⟩:=zw9 r hr ((hl x).1 hx)
 have e:t.len=wd h.words (t.loc+1):=congrArg ThD.len (th_at r ht)
 have:0<=t.len:=by
  by_cases hy:t.loc<=h.young
  ·
   exact (zuj r ht hy).fit.lo
  exact (zuv r ht (by omega)).2.2.2.1.lo
 omega
structure Bx1 (b:Nat) (w:World) (P:Nat) (vo:Value) (o:List Int):Prop where
 blk:w.heap[P]? =some (.cells #[vo] 22 (0,0))
 row:w.ownsRow b 3 1 vo o.length (intV o)
 bP:b<=P
 ne:vo.ownBlock≠some P
theorem Bx1.below {b P:Nat} {w w':World} {vo:Value} {o:List Int} (x:Bx1 b w P vo o) (hb:Below w.heap.size w w'):Bx1 b w' P vo o:=⟨(hb.block _ (lt0 x.blk)).trans x.blk,zhj x.row hb,x.bP,x.ne⟩
theorem Bx1.bel {b P L:Nat} {w w':World} {vo vo':Value} {o:List Int} (x:Bx1 b w P vo o) (m:Mvd L P P P (.slice none 0 0) vo w vo' w') (hl:b<=L):Below b w w':=
 ⟨m.os,m.tape,m.output,m.size,fun j hj=>m.block j (by omega) (by have:=lt0 x.blk;have:=x.bP;omega) (by have:=x.bP;omega) (by have:=x.bP;omega) (by have:=x.bP;omega) (fun e=>by cases e) (fun e=>by have:=(x.row.lt j e).1;omega)⟩
theorem Bx1.more {b P:Nat} {w w1 w':World} {vo:Value} {o:List Int} {v:Int} {gA cA:Nat} (x:Bx1 b w P vo o) (hg:w.grownBy w1 vo.ownBlock) (hr:w1.ownsRow b 3 1 (.slice (some ⟨gA,0,none⟩) (o.length+1) cA) (o.length+1) (intV o++ [.int .i64 v])) (hA:vo.ownBlock=some gA\/w.heap.size<=gA) (hw:w'=w1.setCell ⟨P,0,none⟩ (.slice (some ⟨gA,0,none⟩) (o.length+1) cA)):
 Bx1 b w' P (.slice (some ⟨gA,0,none⟩) (o.length+1) cA) (o++ [v])/\∀L,L<=w.heap.size->Mvd L P P P (.slice none 0 0) vo w (.slice (some ⟨gA,0,none⟩) (o.length+1) cA) w':=by
 have lP:=lt0 x.blk
 have k1:w1.heap[P]? =some (.cells #[vo] 22 (0,0)):=(hg.block P lP (fun e=>x.ne e.symm)).trans x.blk
 have hg2:w1.grownBy w' (some P):=hw ▸ za8 (World.grownBy.refl _ _) _ _ (Or.inl rfl)
 have hs1:=hg.size
 have hne:gA≠P:=fun e=>by
  rcases hA with q | q
  ·
   exact x.ne (by rw [q,e])
  omega
 refine ⟨⟨hw ▸ zg6 k1 _,?_,x.bP,fun e=>hne (Option.some.inj e)⟩,fun L hL=>⟨hg2.os.trans hg.os,hg2.tape.trans hg.tape,hg2.output.trans hg.output,Nat.le_trans hg.size hg2.size,fun j _ hl a _ _ _ f=>(hg2.block j (by omega) (fun e=>a (Option.some.inj e))).trans (hg.block j hl (fun e=>f e.symm)),fun j e=>by
  have e:gA=j:=Option.some.inj e
  rcases hA with q | q
  ·
   exact Or.inl (by rw [q,e])
  exact Or.inr (by omega)⟩⟩
 rw [List.length_append,zhs]
 exact World.ownsRow.kept hr hg2 (Or.inr fun e=>hne (Option.some.inj e))
theorem zxd (w:World) (b P:Nat) (vo:Value) (o:List Int) (x:Bx1 b w P vo o) (hol:o.length<=1000000) (v:Int):
 Calls Tryz.prog 148 #[.int .i64 v,.pointer (some ⟨P,0,none⟩)] w fun r w'=>r=.returned (.tuple #[])/\∃vo',Bx1 b w' P vo' (rchP nz o v)/\Mvd w.heap.size P P P (.slice none 0 0) vo w vo' w':=by
 obtain ⟨iI,hiI,hzI0,hzI1,hzI2⟩:=info_parts Tryz.infoInt
 obtain ⟨aO,cO,rfl⟩:=zfz x.row
 have HX:=mk0 x
 have c0:=cl0 x.blk 0 (x:=.slice aO o.length cO) rfl
 have lP:=lt0 x.blk
 have HH:=mk0 (zkw w _ _ _ (zfb x.row hol) v)
 have hPb:=x.bP
 clear x
 by_cases hv:v=0
 ·
  have HE:Hid (rchP nz o v=o):=by show _=_;unfold rchP nz;rw [hv];rfl
  have hv1:(v==0)=true:=by simpa using hv
  clear HH
  go_enter Tryz.func148,Tryz.ntmps148
  go_wp2_with fail
  go_end0
  exact ⟨rfl,_,by rw [HE.out];exact HX.out,Mvd.ofBelow (Below.refl _ _)⟩
 have hv1:(v==0)=false:=by simpa using hv
 cases hc:o.contains v with
 | true=>
   have HE:Hid (rchP nz o v=o):=by show _=_;unfold rchP;rw [hc];simp
   rw [hc]at HH
   clear hc
   go_enter Tryz.func148,Tryz.ntmps148
   go_wp2_with fail
   refine HH.out.mono ?_
   rintro r _ ⟨rfl,rfl⟩
   go_wp2_with fail
   go_end0
   exact ⟨rfl,_,by rw [HE.out];exact HX.out,Mvd.ofBelow (Below.refl _ _)⟩
 | false=>
   have HE:Hid (rchP nz o v=o++ [v]):=by show _=_;unfold rchP nz;rw [hc,bne,hv1];rfl
   rw [hc]at HH
   have HOW:=mk0 HX.out.row
   have HBB:Hid (o.length+1<=maxLen/\(o.length+1)*8<=140737488355328/\b<=(w.alloc (.cells #[.int .i64 v] 3)).heap.size):=⟨by unfold maxLen;omega,by omega,by simp;omega⟩
   clear hc
   go_enter Tryz.func148,Tryz.ntmps148
   go_wp2_with fail
   refine HH.out.mono ?_
   rintro r w ⟨rfl,rfl⟩
   go_wp2_with (at_builtin;refine wpList_append_lies _ rfl _ _ 22 rfl b 3 iI (.int .i64 0) 1 8 Tryz.underlying22 hiI hzI0 hzI1 hzI2 rfl (by decide) (.slice aO o.length cO) o.length (intV o) rfl (HOW.out.alloc _) ⟨w.heap.size,0,none⟩ 1 1 [.int .i64 v] rfl rfl (World.news_of_block (heap_alloc_new w _)) (by intro u hu;simp at hu;subst hu;rfl) (by omega) HBB.out.1 HBB.out.2.1 HBB.out.2.2 _ rfl ?_)
   intro gA cA w3 hown3 hgr3 hA3 hlt3
   have hbA:Below w.heap.size w (w.alloc (.cells #[.int .i64 v] 3)):=(Below.refl _ _).alloc (Nat.le_refl _) _
   have xA:=HX.out.below hbA
   have k3:w3.heap[P]? =some (.cells #[.slice aO o.length cO] 22 (0,0)):=(hgr3.block P (lt0 xA.blk) (fun e=>xA.ne e.symm)).trans xA.blk
   have d0:=cl0 k3 0 (x:=.slice aO o.length cO) rfl
   have dz:=zcf k3 0
   have dl:=lt0 k3
   obtain ⟨W4,hW4⟩:∃W4,W4=w3.setCell ⟨P,0,none⟩ (.slice (some ⟨gA,0,none⟩) (o.length+1) cA):=⟨_,rfl⟩
   obtain ⟨x4,m4⟩:=xA.more (v:=v) hgr3 hown3 (hA3.imp id fun e=>by simp;omega) hW4
   have HF:Hid (Bx1 b W4 P (.slice (some ⟨gA,0,none⟩) (o.length+1) cA) (o++ [v])/\Mvd w.heap.size P P P (.slice none 0 0) (.slice aO o.length cO) w (.slice (some ⟨gA,0,none⟩) (o.length+1) cA) W4):=⟨x4,(Mvd.ofBelow hbA).trans (m4 _ hbA.size)⟩
   have HW4:=mk0 hW4
   clear hown3 hgr3 hA3 hbA xA k3 x4 m4 hW4
   go_wp2_with fail
   rw [<-HW4.out]
   go_end0
   exact ⟨rfl,_,by rw [HE.out];exact HF.out.1,HF.out.2⟩
theorem callReach1 (args:Array Value) (w:World):(callFunc 148 args).run Tryz.prog w=.ok (.enter 148 args) w:=by kernel_rfl
theorem zxe {α β:Type} (f:β->α->β) (l:List α) (b:β) (k:Nat) (hk:k<l.length):(l.take (k+1)).foldl f b=f ((l.take k).foldl f b) l[k]:=by
 rw [List.take_succ_eq_append_getElem hk,List.foldl_append]
 rfl
theorem zxf (Q:Int->Bool) (next:Int->List Int) (f i:Nat) (o:List Int) {a:Int} (h:o[i]? =some a):bfsP Q next (f+1) i o=bfsP Q next f (i+1) ((next a).foldl (rchP Q) o):=by rw [bfsP,h]
theorem zxg (Q:Int->Bool) (next:Int->List Int) (f i:Nat) (o:List Int) (h:o.length<=i):bfsP Q next f i o=o:=by
 cases f with
 | zero=>rfl
 | succ f=>rw [bfsP,List.getElem?_eq_none h]
theorem atIm {M:Nat->Prop} {w:World} {ao:Option Addr} {len cap:Nat} {l:List Int} (h:SL 1 RI M w (.slice ao len cap) l) (k:Nat) (hk:k<l.length):
 ∃b off,ao=some ⟨b,off,none⟩/\M b/\b<w.heap.size/\w.cell? ⟨b,off+k,none⟩=some (.int .i64 l[k]):=by
 obtain ⟨b,off,cs,e,hm,hb,_,hc,rfl⟩:=h.at k hk
 exact ⟨b,off,e,hm,hb,by have:=hc 0 (by decide);simpa using this⟩
theorem zxh (w:World) (B:Nat) (vW vO kC kS kF kN kT:Value) (h:HeapD) (d:LinkD) (g:Hd B w vW vO kC kS kF kN kT h d) (ts:List ThD) (rt:Right d h ts) (vR:Value) (rs:List Int) (hs:SL 1 RI (· <B) w vR rs) (hr:∀v∈rs,leadB ts v=true) (hrl:rs.length<=1000000):
 Calls Tryz.prog 93 #[.agg #[vW,.int .i64 h.young,.int .i64 h.old,.int .i64 h.ytop,.int .i64 h.otop,vO,.int .i64 h.next],.agg #[kC,kS,kF,kN,kT],vR] w fun r w'=>Below w.heap.size w w'/\∃v,r=.returned v/\w'.ownsRow w.heap.size 3 1 v (liveL d h rs).length (intV (liveL d h rs)):=by
 have hmf:=mkf Tryz.prog
 have hcf:=callReach1
 have HG:=mk0 g
 have HSR:=mk0 hs
 obtain ⟨aW,cW,aO,cO,aC,cC,aS,cS,aF,cF,aN,cN,aT,cT,rfl,rfl,rfl,rfl,rfl,rfl,rfl⟩:=g.agg
 obtain ⟨aR,cR,rfl,-,hml,-⟩:=hs
 unfold maxLen at hml
 have hgl:=g.le
 clear g
 obtain ⟨W0,hW0,hB0,hs0,k0,k1,k2⟩:=boxes3 w #[.slice aW h.words.length cW,.int .i64 h.young,.int .i64 h.old,.int .i64 h.ytop,.int .i64 h.otop,.slice aO h.noted.length cO,.int .i64 h.next] #[.slice aC d.classes.length cC,.slice aS d.supers.length cS,.slice aF d.fields.length cF,.slice aN d.names.length cN,.slice aT d.targets.length cT] #[.slice none 0 0] 24 36 22
 have x0:Bx1 (w.heap.size+1+1) W0 (w.heap.size+1+1) (.slice none 0 0) []:=⟨k2,World.ownsRow_nil _ _ _ _,Nat.le_refl _,fun e=>by cases e⟩
 have z:=rt.sized
 have z1:=z.young
 have z2:=z.old
 have z3:=z.len
 have hU:∀v,RchP nz (nextD d.fields h.words) rs v->v∈(ts.map ThD.loc):=fun v hv=>by
  obtain ⟨t,ht,e⟩:=zw9 rt hr hv
  exact List.mem_map.2 ⟨t,ht,e⟩
 have HU:=mk0 hU
 have HRT:=mk0 rt
 have HFW:=mk0 (zxa rt)
 have HX0:=mk0 x0
 have HB0:=mk0 hB0
 have HE0:=mk0 hW0
 have HS0:=mk0 hs0
 have HK0:=mk0 (And.intro k0 k1)
 have HGV:Hid (∀V,Below (w.heap.size+1+1) W0 V->Hd B V (.slice aW h.words.length cW) (.slice aO h.noted.length cO) (.slice aC d.classes.length cC) (.slice aS d.supers.length cS) (.slice aF d.fields.length cF) (.slice aN d.names.length cN) (.slice aT d.targets.length cT) h d):=fun V hV=>HG.out.below ((hB0.trans (hV.mono (by omega))).mono (by omega))
 have HSV:Hid (∀V,Below (w.heap.size+1+1) W0 V->SL 1 RI (· <B) V (.slice aR rs.length cR) rs):=fun V hV=>HSR.out.keptI (Kp.below ((hB0.trans (hV.mono (by omega))).mono (by omega)))
 have hwl:h.words.length<=100000:=by omega
 have HLL:Hid (liveL d h rs=bfsP nz (nextD d.fields h.words) (h.words.length+1) 0 (rs.foldl (rchP nz) [])):=rfl
 clear k0 k1 k2 x0 hB0 hW0 hs0 rt hr hU z z1 z2 z3
 go_enter Tryz.func93,Tryz.ntmps93
 go_wp2_with fail
 rw [<-HE0.out]
 go_loopw [9] (fun i wr=>∃(k:Nat) (vo:Value),i=.int .i64 k/\k<=rs.length/\Hid (Bx1 (w.heap.size+1+1) wr (w.heap.size+1+1) vo ((rs.take k).foldl (rchP nz) [])/\Below (w.heap.size+1+1) W0 wr)) (fun i _=>rs.length - (intOf i).toNat)
 case atStart=>exact ⟨0,_,rfl,Nat.zero_le _,HX0.out,Below.refl _ _⟩
 case round=>
  obtain ⟨k,vo,rfl,hk,HI⟩:=hrel
  by_cases hlt:k<rs.length
  ·
   have hsz:=HI.out.2.size
   have hs0:=HS0.out
   obtain ⟨bR,off,rfl,hbR,e0⟩:=(HSV.out wr HI.out.2).atI k hlt
   have hnl:((rs.take k).foldl (rchP nz) []).length<=1000000:=by
    have h1:((rs.take k).foldl (rchP nz) []).length<=(rs.take k).length:=zw5 _ _ (zw2 _ _ List.nodup_nil) fun x hx=>by
     rcases (zw3 _ _).1 hx with h | h
     ·
      cases h
     exact h.1
    rw [List.length_take]at h1
    omega
   have HCL:=mk0 (zxd wr (w.heap.size+1+1) (w.heap.size+1+1) vo _ HI.out.1 hnl rs[k])
   have HNX:=mk0 (zxe (rchP nz) rs [] k hlt)
   generalize rs[k]=v at*
   clear hnl
   go_wp2_with fail
   refine HCL.out.mono ?_
   rintro r w5 ⟨rfl,vo5,x5,m5⟩
   have HF:Hid (Bx1 (w.heap.size+1+1) w5 (w.heap.size+1+1) vo5 ((rs.take (k+1)).foldl (rchP nz) [])/\Below (w.heap.size+1+1) W0 w5):=⟨by rw [HNX.out];exact x5,HI.out.2.trans (HI.out.1.bel m5 (by omega))⟩
   clear x5 m5 HCL HI e0
   go_wp2_with fail
   go_roundw
   case rel=>exact ⟨k+1,vo5,by go_num,by omega,HF.out⟩
   case measure=>simp [intOf];omega
  obtain rfl:k=rs.length:=by omega
  have hII:=HI.out
  rw [List.take_length]at hII
  have HI1:=mk0 hII
  clear HI hII
  go_wp2_with fail
  go_loopw [10] (fun i wr=>∃(k:Nat) (vo:Value) (o:List Int),i=.int .i64 k/\k<=h.words.length/\Hid (Bx1 (w.heap.size+1+1) wr (w.heap.size+1+1) vo o/\BfsI nz (nextD d.fields h.words) rs (ts.map ThD.loc) k o/\bfsP nz (nextD d.fields h.words) (h.words.length+1 - k) k o=liveL d h rs/\Below (w.heap.size+1+1) W0 wr)) (fun i _=>h.words.length+1 - (intOf i).toNat)
  case atStart=>exact ⟨0,vo,_,rfl,Nat.zero_le _,HI1.out.1,zw6,HLL.out.symm,HI1.out.2⟩
  case round=>
   obtain ⟨k,vo2,o,rfl,hkl,HI⟩:=hrel
   obtain ⟨wq,hwq⟩:∃wq,wq=wr:=⟨_,rfl⟩
   subst hwq
   obtain ⟨hX,hF,hgo,hBI⟩:=HI.out
   have hsz:=hBI.size
   have hs0:=HS0.out
   have hol:o.length<h.words.length:=Nat.lt_of_le_of_lt (zw5 o _ hF.nd fun x hx=>HU.out x (hF.sound x hx)) HFW.out
   obtain ⟨aP,cO2,rfl⟩:=zfz hX.row
   have p0:=cl0 hX.blk 0 (x:=.slice aP o.length cO2) rfl
   have lP:=lt0 hX.blk
   by_cases hlt2:k<o.length
   ·
    obtain ⟨gO,hgO⟩:∃gO,aP=some ⟨gO,0,none⟩:=by
     rcases hX.row.2 with ⟨e,h0⟩ | ⟨g,cap,cur,e,-⟩
     ·
      omega
     injection e with e1;exact ⟨g,e1⟩
    subst hgO
    have hok:o[k]? =some o[k]:=List.getElem?_eq_getElem hlt2
    obtain ⟨t,ht,hte⟩:∃t∈ts,t.loc=o[k]:=by
     obtain ⟨t,ht,e⟩:=List.mem_map.1 (HU.out _ (hF.sound _ (List.getElem_mem hlt2)))
     exact ⟨t,ht,e⟩
    have hap:=zlq HRT.out.sized HRT.out.both t ht
    obtain ⟨a,ha⟩:∃a:Nat,o[k]=(a:Int):=⟨o[k].toNat,by omega⟩
    have e0:=(hX.row.cellAt k (by rw [Nat.mul_one];exact hlt2)).trans (zni hlt2)
    rw [ha]at e0 hte hok
    have htt:thAt h.words (a:Int)=t:=by rw [<-hte];exact (th_at HRT.out ht).symm
    have hft:FitT d (thAt h.words (a:Int)):=by
     rw [htt]
     by_cases hy:t.loc<=h.young
     ·
      exact (zuj HRT.out ht hy).fit
     exact (zuv HRT.out ht (by omega)).2.2.2.1
    have hin:∀c∈refsOf d.fields (thAt h.words (a:Int)),0<=c/\c<h.words.length:=fun c hc=>by
     rw [htt]at hc
     obtain ⟨n,e,hn,-⟩:=zs7 hc
     have:t.fin=t.loc+3+t.len:=rfl
     omega
    have HIN:=mk0 hin
    have HRW:=mk0 (fun V (hV:Below wq.heap.size wq V)=>by
     have g2:=HGV.out V (hBI.trans (hV.mono (by omega)))
     exact zkz V B _ _ _ _ _ _ _ h d g2.sW g2.sO g2.lk g2.le a (by omega) hwl hft)
    have HFT:=mk0 hft
    have HD1:Hid (Below wq.heap.size wq wq.drew):=(Below.refl _ _).drew
    have HNB:=mk0 (hF.next hok)
    have hnx:=zxf nz (nextD d.fields h.words) (h.words.length - k) k o hok
    rw [show h.words.length - k+1=h.words.length+1 - k by omega,hgo]at hnx
    have HNX:=mk0 hnx
    have j0:=(hBI.block _ (by omega:w.heap.size<w.heap.size+1+1)).trans HK0.out.1
    have j1:=(hBI.block _ (by omega:w.heap.size+1<w.heap.size+1+1)).trans HK0.out.2
    obtain ⟨a0,a1,a2,a3,a4,a5,a6,az,al⟩:=cells7 j0
    obtain ⟨b0,b1,b2,b3,b4,bl⟩:=cells5 j1
    have HXI:=mk0 hX
    have HBI:=mk0 hBI
    have lO:=(hX.row.lt gO rfl).2
    clear hX hF hgo hBI hap hte htt hft hin hnx hok j0 j1 ht ha
    go_wp2_with fail
    refine wp_region_held_drew (S:=fun W'=>∀p:Addr,p.block<wq.heap.size->W'.cell? p=wq.cell? p) (by kernel_rfl) (fun p hp=>rfl) fun hH=>?_
    refine ta 0 (.agg #[.slice aW h.words.length cW,.int .i64 h.young,.int .i64 h.old,.int .i64 h.ytop,.int .i64 h.otop,.slice aO h.noted.length cO,.int .i64 h.next]) rfl hH ?_
    refine ta 1 (.agg #[.slice aC d.classes.length cC,.slice aS d.supers.length cS,.slice aF d.fields.length cF,.slice aN d.names.length cN,.slice aT d.targets.length cT]) rfl hH ?_
    refine ta 2 (.slice (some ⟨gO,0,none⟩) o.length cO2) rfl hH ?_
    refine ta 3 (.int .i64 (k:Int)) rfl hH ?_
    refine ta 4 (.pointer (some ⟨gO,k,none⟩)) rfl hH ?_
    refine ta 5 (.int .i64 (a:Int)) rfl hH ?_
    refine wpAnyH_ready (rs:=[6]) (by kernel_rfl) (by simp) ?_
    refine AllReadyH.cons rfl (fun K6 hK6=>?_) AllReadyH.nil
    go_simp
    refine (HRW.out _ HD1.out).mono ?_
    rintro r w2 ⟨hb2,vl,rfl,hol⟩
    obtain ⟨aL,cL,rfl⟩:=zfz hol
    have hb2':Below wq.heap.size wq w2:=(Below.refl wq.heap.size wq).drew.trans hb2
    refine hK6.out _ _ (fun p hp=>hb2'.cell hp) fun hH=>?_
    refine ta 7 (.slice aL (refsOf d.fields (thAt h.words a)).length cL) rfl hH ?_
    refine wpAnyH_done (by kernel_rfl) ?_ _
    clear hH
    try simp only [Act.put,List.setIfInBounds_toArray,List.set_cons_zero,List.set_cons_succ,List.getElem_toArray,List.getElem_cons_zero,List.getElem_cons_succ]
    have HOL:=mk0 hol
    have HB2:=mk0 hb2'
    have hs2:=hb2'.size
    have hrl2:(refsOf d.fields (thAt h.words (a:Int))).length<=1000000:=by
     have h1:=zhr d.fields (thAt h.words (a:Int)) (thAt h.words (a:Int)).len.toNat
     have h2:=HFT.out.hi
     have h3:(refsOf d.fields (thAt h.words (a:Int))).length<=(thAt h.words (a:Int)).len.toNat:=h1
     omega
    have HND:Hid (nextD d.fields h.words a=(refsOf d.fields (thAt h.words (a:Int))).map (wd h.words)):=rfl
    have hXo:=HXI.out.below hb2'
    have HXo:=mk0 hXo
    generalize refsOf d.fields (thAt h.words (a:Int))=l at*
    clear hol hb2 hb2' HRW HD1 hXo e0
    clear a0 a1 a2 a3 a4 a5 a6 al az
    clear b0 b1 b2 b3 b4 bl
    go_wp2_with fail
    go_loopw [12] (fun i wr=>∃(j:Nat) (vo3:Value),i=.int .i64 j/\j<=l.length/\Hid (Bx1 (w.heap.size+1+1) wr (w.heap.size+1+1) vo3 (((nextD d.fields h.words a).take j).foldl (rchP nz) o)/\Mvd w2.heap.size (w.heap.size+1+1) (w.heap.size+1+1) (w.heap.size+1+1) (.slice none 0 0) (.slice (some ⟨gO,0,none⟩) o.length cO2) w2 vo3 wr)) (fun i _=>l.length - (intOf i).toNat)
    case atStart=>exact ⟨0,_,rfl,Nat.zero_le _,HXo.out,Mvd.ofBelow (Below.refl _ _)⟩
    case round=>
     obtain ⟨j,vo3,rfl,hj,HJ⟩:=hrel
     obtain ⟨x3,m3⟩:=HJ.out
     have hb3:Below (w.heap.size+1+1) W0 wr:=(HBI.out.trans (HB2.out.mono (by omega))).trans (HXo.out.bel m3 (by omega))
     have hsz3:=m3.size
     by_cases hlt3:j<l.length
     ·
      have hrow:=zvf HOL.out m3 (fun q e1 e2=>by
       have h0:wq.heap.size<=q:=(HOL.out.lt q e1).1
       exact ⟨e2,by omega,by omega,by omega,(fun e=>by cases e),fun e=>by have e:gO=q:=Option.some.inj e;omega⟩)
      have hblq:∀q,(Value.slice aL l.length cL).ownBlock=some q->wq.heap.size<=q/\q<w2.heap.size:=fun q e=>HOL.out.lt q e
      obtain ⟨bl,ol,rfl,hbl2,s1⟩:=(zfb hrow hrl2).atI j hlt3
      have hblq:=hblq bl rfl
      obtain ⟨hc0,hc1⟩:=HIN.out l[j] (List.getElem_mem hlt3)
      have hnj:(nextD d.fields h.words a)[j]'(by rw [HND.out,List.length_map];exact hlt3)=wd h.words l[j]:=by
       have e:(nextD d.fields h.words a)[j]? =some (wd h.words l[j]):=by rw [HND.out,List.getElem?_map,List.getElem?_eq_getElem hlt3];rfl
       exact Option.some.inj ((List.getElem?_eq_getElem _).symm.trans e)
      have hft:=zxe (rchP nz) (nextD d.fields h.words a) o j (by rw [HND.out,List.length_map];exact hlt3)
      rw [hnj]at hft
      obtain ⟨c,hc⟩:∃c:Nat,l[j]=(c:Int):=⟨l[j].toNat,by omega⟩
      rw [hc]at s1 hc1 hft
      have hcl:c<h.words.length:=by omega
      obtain ⟨bW,oW,rfl,hbWB,hbW2,s2⟩:=atIm (HGV.out wr hb3).sW c hcl
      have hbWB:bW<B:=hbWB
      rw [zen hcl]at hft
      have hol3:(((nextD d.fields h.words a).take j).foldl (rchP nz) o).length<=1000000:=by
       have h1:=zw5 _ _ HNB.out.nd fun x hx=>HU.out x (HNB.out.sound x hx)
       have h2:(nextD d.fields h.words a).foldl (rchP nz) o=((nextD d.fields h.words a).drop j).foldl (rchP nz) (((nextD d.fields h.words a).take j).foldl (rchP nz) o):=by rw [<-List.foldl_append,List.take_append_drop]
       obtain ⟨e,he⟩:=zw4 (P:=nz) ((nextD d.fields h.words a).drop j) (((nextD d.fields h.words a).take j).foldl (rchP nz) o)
       rw [h2,he,List.length_append]at h1
       have:=HFW.out
       omega
      generalize h.words[c]=v at*
      have HFT2:=mk0 hft
      generalize ((nextD d.fields h.words a).take j).foldl (rchP nz) o=o3 at*
      have HCL:=mk0 (zxd wr.drew (w.heap.size+1+1) (w.heap.size+1+1) vo3 o3 (x3.below (Below.refl _ _).drew) hol3 v)
      have q0:=(hb3.block _ (by omega:w.heap.size<w.heap.size+1+1)).trans HK0.out.1
      have s0:=cl0 q0 0 (x:=.slice (some ⟨bW,oW,none⟩) h.words.length cW) rfl
      have hlH:=lt0 q0
      have hvb:∀q,vo3.ownBlock=some q->w.heap.size+1+1<=q:=fun q e=>(x3.row.lt q e).1
      have hvH:vo3.ownBlock≠some (w.heap.size):=fun e=>by have:=hvb _ e;omega
      have hvW:vo3.ownBlock≠some bW:=fun e=>by have:=hvb _ e;omega
      have hvL:vo3.ownBlock≠some bl:=fun e=>by
       rcases m3.gv bl e with q | q
       ·
        have q:gO=bl:=Option.some.inj q
        omega
       omega
      have hblP:bl≠w.heap.size+1+1:=by omega
      have HKS:Hid (∀(w5:World) (vo5:Value),Mvd wr.drew.heap.size (w.heap.size+1+1) (w.heap.size+1+1) (w.heap.size+1+1) (.slice none 0 0) vo3 wr.drew vo5 w5->w5.cell? ⟨w.heap.size,0,none⟩=some (.slice (some ⟨bW,oW,none⟩) h.words.length cW)/\w5.cell? ⟨bl,ol+j,none⟩=some (.int .i64 (c:Int))/\w5.cell? ⟨bW,oW+c,none⟩=some (.int .i64 v)):=fun w5 vo5 m5=>by
       have hkb:∀q,q<wr.heap.size->q≠w.heap.size+1+1->vo3.ownBlock≠some q->w5.heap[q]? =wr.heap[q]? :=fun q hq h1 h2=>m5.block q hq hq h1 h1 h1 (fun e=>by cases e) h2
       exact ⟨(World.cell?_of_block (a:=⟨w.heap.size,0,none⟩) (hkb (w.heap.size) hlH (by omega) hvH)).trans s0,(World.cell?_of_block (a:=⟨bl,ol+j,none⟩) (hkb bl hbl2 hblP hvL)).trans s1,(World.cell?_of_block (a:=⟨bW,oW+c,none⟩) (hkb bW hbW2 (by omega) hvW)).trans s2⟩
      have HJ2:=mk0 hblq
      clear hrow hnj hft hc x3 m3 q0 hvb hvH hvW hvL hlH hb3 hblq
      go_wp2_with fail
      refine wp_region_held_drew (S:=fun W'=>W'.cell? ⟨w.heap.size,0,none⟩=some (.slice (some ⟨bW,oW,none⟩) h.words.length cW)/\W'.cell? ⟨bl,ol+j,none⟩=some (.int .i64 (c:Int))/\W'.cell? ⟨bW,oW+c,none⟩=some (.int .i64 v)) (by kernel_rfl) ⟨s0,s1,s2⟩ fun hH=>?_
      refine tq 0 (.func (.func 148) #[] #[.pointer (some ⟨w.heap.size+1+1,0,none⟩)]) rfl (by kernel_rfl) (by kernel_rfl) (fun _ _ _ h=>h) ?_ hH ?_
      ·
       intro w hSw
       obtain ⟨s0,s1,s2⟩:=hSw
       go_simp
      refine tq 1 (.pointer (some ⟨w.heap.size,0,none⟩)) rfl (by kernel_rfl) (by kernel_rfl) (fun _ _ _ h=>h) ?_ hH ?_
      ·
       intro w hSw
       obtain ⟨s0,s1,s2⟩:=hSw
       go_simp
      refine tq 2 (.slice (some ⟨bW,oW,none⟩) h.words.length cW) rfl (by kernel_rfl) (by kernel_rfl) (fun _ _ _ h=>h) ?_ hH ?_
      ·
       intro w hSw
       obtain ⟨s0,s1,s2⟩:=hSw
       go_simp
      refine tq 3 (.slice (some ⟨bl,ol,none⟩) l.length cL) rfl (by kernel_rfl) (by kernel_rfl) (fun _ _ _ h=>h) ?_ hH ?_
      ·
       intro w hSw
       obtain ⟨s0,s1,s2⟩:=hSw
       go_simp
      refine tq 4 (.int .i64 (j:Int)) rfl (by kernel_rfl) (by kernel_rfl) (fun _ _ _ h=>h) ?_ hH ?_
      ·
       intro w hSw
       obtain ⟨s0,s1,s2⟩:=hSw
       go_simp
      refine tq 5 (.pointer (some ⟨bl,ol+j,none⟩)) rfl (by kernel_rfl) (by kernel_rfl) (fun _ _ _ h=>h) ?_ hH ?_
      ·
       intro w hSw
       obtain ⟨s0,s1,s2⟩:=hSw
       go_simp
      refine tq 6 (.int .i64 (c:Int)) rfl (by kernel_rfl) (by kernel_rfl) (fun _ _ _ h=>h) ?_ hH ?_
      ·
       intro w hSw
       obtain ⟨s0,s1,s2⟩:=hSw
       go_simp
      refine tq 7 (.pointer (some ⟨bW,oW+c,none⟩)) rfl (by kernel_rfl) (by kernel_rfl) (fun _ _ _ h=>h) ?_ hH ?_
      ·
       intro w hSw
       obtain ⟨s0,s1,s2⟩:=hSw
       go_simp
      refine tq 8 (.int .i64 v) rfl (by kernel_rfl) (by kernel_rfl) (fun _ _ _ h=>h) ?_ hH ?_
      ·
       intro w hSw
       obtain ⟨s0,s1,s2⟩:=hSw
       go_simp
      refine wpAnyH_ready (rs:=[9]) (by kernel_rfl) (by simp) ?_
      refine AllReadyH.cons rfl (fun K9 hK9=>?_) AllReadyH.nil
      go_simp
      refine HCL.out.mono ?_
      rintro r w5 ⟨rfl,vo5,x5,m5⟩
      refine hK9.out _ _ (HKS.out w5 vo5 m5) fun hH=>?_
      refine wpAnyH_done (by kernel_rfl) ?_ _
      clear hH
      try simp only [Act.put,List.setIfInBounds_toArray,List.set_cons_zero,List.set_cons_succ,List.getElem_toArray,List.getElem_cons_zero,List.getElem_cons_succ]
      have HF:Hid (Bx1 (w.heap.size+1+1) w5 (w.heap.size+1+1) vo5 (((nextD d.fields h.words a).take (j+1)).foldl (rchP nz) o)/\Mvd w2.heap.size (w.heap.size+1+1) (w.heap.size+1+1) (w.heap.size+1+1) (.slice none 0 0) (.slice (some ⟨gO,0,none⟩) o.length cO2) w2 vo5 w5):=⟨by rw [HFT2.out];exact x5,HJ.out.2.trans ((Mvd.ofBelow (Below.refl _ wr).drew).trans (m5.mono HJ.out.2.size))⟩
      clear x5 m5 HCL HKS s0 s1 s2 HJ
      go_wp2_with fail
      go_roundw
      case rel=>exact ⟨j+1,vo5,by go_num,by omega,HF.out⟩
      case measure=>simp [intOf];omega
     have hjl:(nextD d.fields h.words a).take j=nextD d.fields h.words a:=List.take_of_length_le (by rw [HND.out,List.length_map];omega)
     rw [hjl]at x3
     have HF:Hid (Bx1 (w.heap.size+1+1) wr (w.heap.size+1+1) vo3 ((nextD d.fields h.words a).foldl (rchP nz) o)/\BfsI nz (nextD d.fields h.words) rs (ts.map ThD.loc) (k+1) ((nextD d.fields h.words a).foldl (rchP nz) o)/\bfsP nz (nextD d.fields h.words) (h.words.length+1 - (k+1)) (k+1) ((nextD d.fields h.words a).foldl (rchP nz) o)=liveL d h rs/\Below (w.heap.size+1+1) W0 wr):=⟨x3,HNB.out,by rw [show h.words.length+1 - (k+1)=h.words.length - k by omega];exact HNX.out.symm,hb3⟩
     clear x3 m3 hb3 HJ hjl
     go_wp2_with fail
     go_roundw
     case rel=>exact ⟨k+1,vo3,_,by go_num,by omega,HF.out⟩
     case measure=>simp [intOf];omega
   have hfs:o=liveL d h rs:=by rw [<-hgo];exact (zxg _ _ _ _ _ (by omega)).symm
   have HF:Hid (Below w.heap.size w wq/\wq.ownsRow w.heap.size 3 1 (.slice aP o.length cO2) (liveL d h rs).length (intV (liveL d h rs))):=⟨HB0.out.trans (hBI.mono (by omega)),by rw [<-hfs];exact zhp hX.row (by omega)⟩
   clear hX hF hgo hBI HI hfs
   go_wp2_with fail
   go_ret
   exact ⟨HF.out.1,_,rfl,HF.out.2⟩
end Go.Proofs.YtjdnmblggdobgaaGreat
