import Derived.Test.YtjdnmblggdobgaaGreatJTilHvE
import Derived.Test.YtjdnmblggdobgaaGreatJTk2Dies
import Derived.Lib.SliceRun
set_option maxHeartbeats 2000000
set_option maxRecDepth 100000
namespace Go.Proofs.YtjdnmblggdobgaaGreat
open Go.RowKit Go.Maps
theorem zr1 (w:World) (c:Value) (F:Option Addr) (n G:Nat):
 Calls Tryz.prog 135 #[.agg #[c,.slice F n G]] w fun r w'=>r=.returned (.bool (decide ((n:Int)<=1000)))/\Below w.heap.size w w':=by
 obtain ⟨L,A,u,I,J⟩:=kj w #[c,.slice F n G] 188;have D:=ag u;have E:=ag A;have N:=ba J 1 (x:=.slice F n G) rfl;have O:=bz J;clear A J u I;go_enter Tryz.func135,Tryz.ntmps135;go_wp2_with fail;rw [<-E.o];go_wp2_with fail;go_ret;exact ⟨rfl,D.o⟩
theorem zr3 (w:World) (X B:Nat) (V O F J G I L N:Value) (h:bd) (d:be) (ts:List bp) (hc:oo X B w V O F J G I L N h d ts) (P:Nat) (W:w.cell? ⟨P,0,none⟩=some (.pointer (some ⟨X+1,0,none⟩))) (x:Int) (D:(Lit.int .i64 x).wf=true):
 Calls Tryz.prog 189 #[.int .i64 x,.pointer (some ⟨P,0,none⟩)] w fun r w'=>r=.returned (.bool (!cw ts x))/\Below w.heap.size w w':=by
 have A:=ag (zhv w X B _ _ _ _ _ _ _ _ h d ts hc x D);clear hc D;go_enter Tryz.func189,Tryz.ntmps189;go_wp2_with fail;refine A.o.mono ?_;rintro r Y ⟨rfl,u⟩;have E:=ag u;clear u A;go_wp2_with fail;go_ret;exact ⟨rfl,E.o⟩
theorem zr4 (w:World) (X B C:Nat) (vW vO kC kS kF kN kT vA:Value) (h:bd) (d:be) (ts:List bp) (hc:oo X B w vW vO kC kS kF kN kT vA h d ts) (A:Value) (rs:List Int) (hs:SL 1 RI (· <C) w A rs) (W:C<=w.heap.size) (I:∀x∈rs,(Lit.int .i64 x).wf=true):
 Calls Tryz.prog 136 #[.agg #[.pointer (some ⟨X+1,0,none⟩),A]] w fun r w'=>r=.returned (.bool (!rs.any fun x=>!cw ts x))/\Below w.heap.size w w':=by
 have aa:=np Tryz.prog;obtain ⟨N,Z,u,O,J⟩:=kj w #[.pointer (some ⟨X+1,0,none⟩),A] 188;have G:=hc.below u;have hp:=ba J 0 (x:=.pointer (some ⟨X+1,0,none⟩)) rfl;have E:Hid (Calls Tryz.prog 174 #[A,.func (.func 189) #[] #[.pointer (some ⟨w.heap.size,0,none⟩)]] N fun r w'=>r=.returned (.bool (rs.any fun x=>!cw ts x))/\Below N.heap.size N w'):=by refine zhy _ C A _ (hs.keptI (Kp.below (u.mono W))) (lt3 W u.size) 189 #[] _ (fun x=>!cw ts x) (fun args w=>by kernel_rfl) ?_;intro x hx V Y;exact zr3 V X B _ _ _ _ _ _ _ vA h d ts (G.below Y) w.heap.size ((Y.cell (p:=⟨w.heap.size,0,none⟩) (by show w.heap.size<_;omega)).trans hp) x (I x hx)
 have c1:=ba J 1 (x:=A) rfl;have gl:=bz J;have D:=ag u;have HW:=ag Z;obtain ⟨a,q,rfl,-⟩:=hs;clear hc G u hp I Z J O;generalize (rs.any fun x=>!cw ts x)=b at*;go_enter Tryz.func136,Tryz.ntmps136;go_wp2_with fail;rw [<-HW.o];refine E.o.mono ?_;rintro r w1 ⟨rfl,F⟩;have L:Hid (Below w.heap.size w w1):=D.o.trans (F.mono D.o.size);clear F E;go_wp2_with fail;go_ret;exact ⟨rfl,L.o⟩
def nr (ws:List Int) (loc n:Nat):List Int:=(ws.drop loc).take n
def lj (ws:List Int) (off:Nat) (l:List Int):List Int:=ws.take off++(l++ws.drop (off+l.length))
theorem zug {ws:List Int} {off:Nat} {l:List Int} (h:off+l.length<=ws.length):(lj ws off l).length=ws.length:=by simp [lj];omega
theorem zuh {ws:List Int} {u n:Nat} (h:u+n<=ws.length):(nr ws u n).length=n:=by simp [nr];omega
theorem zui {ws:List Int} {u n:Nat} {i:Int} (h0:0<=i) (h1:i<n):wd (nr ws u n) i=wd ws (u+i):=by unfold wd nr;rw [List.getElem?_take_of_lt (by omega),List.getElem?_drop,show u+i.toNat=((u:Int)+i).toNat by omega]
theorem zuj {ws:List Int} {off:Nat} {l:List Int} {a:Int} (h:off<=ws.length) (h1:(off:Int)<=a) (u:a<off+l.length):wd (lj ws off l) a=wd l (a - off):=by
 unfold wd lj;have e:(ws.take off).length=off:=by simp;omega
 rw [List.getElem?_append_right (by omega),e,List.getElem?_append_left (by omega),show a.toNat - off=(a - off).toNat by omega]
theorem zuk {ws:List Int} {off:Nat} {l:List Int} {a:Int} (h:off+l.length<=ws.length) (h0:0<=a) (h1:a<off\/off+l.length<=a):wd (lj ws off l) a=wd ws a:=by
 unfold wd lj;have e:(ws.take off).length=off:=by simp;omega
 rcases h1 with h1 | h1
 ·rw [List.getElem?_append_left (by omega),List.getElem?_take_of_lt (by omega)]
 rw [List.getElem?_append_right (by omega),e,List.getElem?_append_right (by omega),List.getElem?_drop,show off+l.length+(a.toNat - off - l.length)=a.toNat by omega]
def kr (mv:List (Int×bp)) (n:Int):Option Int:=mv.foldl (fun acc p=>if p.1=n then some p.2.loc else acc) none
theorem zul (mv:List (Int×bp)) (p:Int×bp) (n:Int):kr (mv++ [p]) n=if p.1=n then some p.2.loc else kr mv n:=by unfold kr;rw [List.foldl_append];rfl
def leaveY (h:bd):bd:=⟨lj h.ab 1 (List.replicate h.ae.toNat 0),h.ae,h.old,1,h.bk,[],h.next⟩
def Laid:Int->List (Int×bp)->Int->Prop
 | lo,[],hi=>lo=hi
 | lo,p::r,hi=>p.2.loc=lo/\Laid p.2.fin r hi
def turnM (mv:List (Int×bp)) (v:Int):Int:=(kr mv v).getD v
theorem zun:∀ {l:List (Int×bp)} {lo hi:Int},Laid lo l hi->(∀p∈l,0<=p.2.len)->lo<=hi/\∀p∈l,lo<=p.2.loc/\p.2.fin<=hi
 | [],lo,hi,h,_=>⟨Int.le_of_eq h,fun p u=>by cases u⟩
 | q::r,lo,hi,h,hl=>by
   have A:=zun h.2 fun p u=>hl p (List.mem_cons_of_mem _ u);have h0:=hl q (List.mem_cons_self ..);have h1:q.2.fin=q.2.loc+3+q.2.len:=rfl;have D:=h.1;refine ⟨by omega,fun p u=>?_⟩;rcases List.mem_cons.1 u with rfl | u
   ·exact ⟨by omega,by omega⟩
   have:=A.2 p u;exact ⟨by omega,this.2⟩
theorem zur:∀ {l:List (Int×bp)} {v:Int},v∉l.map (·.1)->kr l v=none:=by
 intro l v h;unfold kr;induction l with
 | nil=>rfl
 | cons p r ih=>
   rw [List.map_cons,List.mem_cons,not_or]at h;rw [List.foldl_cons,if_neg (fun e=>h.1 e.symm)];exact ih h.2
theorem zus:∀ {l:List (Int×bp)} {p:Int×bp},p∈l->(l.map (·.1)).Nodup->kr l p.1=some p.2.loc:=by
 intro l p A D;have F:∀(r:List (Int×bp)) (u:Option Int),p.1∉r.map (·.1)->r.foldl (fun u q=>if q.1=p.1 then some q.2.loc else u) u=u:=by
  intro r;induction r with
  | nil=>intro u _;rfl
  | cons q r ih=>
    intro u h;rw [List.map_cons,List.mem_cons,not_or]at h;rw [List.foldl_cons,if_neg (fun e=>h.1 e.symm)];exact ih u h.2
 unfold kr;have E:∀(r:List (Int×bp)) (u:Option Int),p∈r->(r.map (·.1)).Nodup->r.foldl (fun u q=>if q.1=p.1 then some q.2.loc else u) u=some p.2.loc:=by
  intro r;induction r with
  | nil=>intro u A;cases A
  | cons q r ih=>
    intro u A D;rw [List.map_cons,List.nodup_cons]at D;rw [List.foldl_cons];rcases List.mem_cons.1 A with rfl | A
    ·rw [if_pos rfl];exact F r _ D.1
    exact ih _ A D.2
 exact E l none A D
theorem zut {l:List (Int×bp)} {v D:Int} (h:kr l v=some D):∃p∈l,p.1=v/\p.2.loc=D:=by
 have A:∀(r:List (Int×bp)) (u:Option Int),r.foldl (fun u q=>if q.1=v then some q.2.loc else u) u=some D->u=some D\/∃p∈r,p.1=v/\p.2.loc=D:=by
  intro r;induction r with
  | nil=>intro u h;exact Or.inl h
  | cons q r ih=>
    intro u h;rw [List.foldl_cons]at h;rcases ih _ h with h | ⟨p,E,h⟩
    ·by_cases e:q.1=v
     ·rw [if_pos e]at h;exact Or.inr ⟨q,List.mem_cons_self ..,e,ojq h⟩
     rw [if_neg e]at h;exact Or.inl h
    exact Or.inr ⟨p,List.mem_cons_of_mem _ E,h⟩
 rcases A l none h with h | h
 ·cases h
 exact h
theorem zuu {l:List (Int×bp)} {v:Int} :(kr l v).isSome=true↔v∈l.map (·.1):=by
 constructor
 ·intro h;obtain ⟨E,e⟩:=Option.isSome_iff_exists.1 h;obtain ⟨p,D,e,-⟩:=zut e;exact List.mem_map.2 ⟨p,D,e⟩
 intro h;cases e:kr l v with
 | some E=>rfl
 | none=>
   exfalso;obtain ⟨p,D,rfl⟩:=List.mem_map.1 h;have A:∀(r:List (Int×bp)) (u:Option Int),(p∈r\/u.isSome=true)->(r.foldl (fun u q=>if q.1=p.1 then some q.2.loc else u) u).isSome=true:=by
    intro r;induction r with
    | nil=>intro u h;rcases h with h | h
           ·cases h
           exact h
    | cons q r ih=>
      intro u h;rw [List.foldl_cons];refine ih _ ?_;by_cases e:q.1=p.1
      ·rw [if_pos e];exact Or.inr rfl
      rw [if_neg e];rcases h with h | h
      ·rcases List.mem_cons.1 h with rfl | h
       ·exact absurd rfl e
       exact Or.inl h
      exact Or.inr h
   have:=A l none (Or.inl D);unfold kr at e;rw [e]at this;cases this
structure YgT (d:be) (h:bd) (t:bp):Prop where
 lo:1<=t.loc
 fin:t.fin<=h.bg
 eq:t=bj h.ab t.loc
 fit:FitT d t
theorem zuv {d:be} {h:bd} {ts:List bp} (r:Right d h ts) {t:bp} (u:t∈ts) (I:t.loc<=h.ae):YgT d h t:=by
 have A:=r.sized;obtain ⟨L,J,D,E,rfl⟩:=zko r.both;have F:=A.bg;have G:=A.bk;have h1:=A.ae;rcases List.mem_append.1 u with u | u
 ·have q:=zkn D t u;exact ⟨q.1,q.2.1,q.2.2.1,zkp (zki r.ok) q (by omega) (by omega)⟩
 have q:=zkn E t u;have:=q.1;omega
theorem zuw {h:bd} {v:Int} :kq h v=true↔0<v/\v<=h.ae:=by unfold kq;simp only [Bool.and_eq_true,decide_eq_true_eq]
theorem zux {ts:List bp} {v:Int} (h:cw ts v=true) (h0:v≠0):∃t∈ts,t.loc=v:=by
 unfold cw at h;rw [Bool.or_eq_true]at h;rcases h with h | h
 ·obtain ⟨t,e⟩:=Option.isSome_iff_exists.1 h;exact ⟨t,zie ts e⟩
 exact absurd (beq_iff_eq.1 h) h0
theorem zuy {f:Int->Int} :∀(m:List Int),(∀x∈m,0<=f x)->0<=(m.map f).sum
 | [],_=>Int.le_refl _
 | x::m,h0=>by have h1:=zuy m fun x u=>h0 x (List.mem_cons_of_mem _ u);have A:=h0 x (List.mem_cons_self ..);rw [List.map_cons,List.sum_cons];omega
theorem zuz {l m:List Int} (h:l.Perm m):l.sum=m.sum:=by
 induction h with
 | nil=>rfl
 | cons x _ ih=>rw [List.sum_cons,List.sum_cons,ih]
 | swap x y l=>simp only [List.sum_cons];omega
 | trans _ _ h1 h2=>exact h1.trans h2
theorem zu0 {f:Int->Int} :∀(l m:List Int),l.Nodup->(∀x∈l,x∈m)->(∀x∈m,0<=f x)->(l.map f).sum<=(m.map f).sum
 | [],m,_,_,h0=>zuy m h0
 | x::l,m,hn,hs,h0=>by
   rw [List.nodup_cons]at hn;have D:=hs x (List.mem_cons_self ..);have E:=zu0 l (m.erase x) hn.2 (fun y u=>(List.mem_erase_of_ne (fun e=>hn.1 (by rw [<-e];exact u))).2 (hs y (List.mem_cons_of_mem _ u))) (fun y u=>h0 y (List.mem_of_mem_erase u));have e:(m.map f).sum=f x+((m.erase x).map f).sum:=by have A:=(List.perm_cons_erase D).map f;have:=zuz A;rwa [List.map_cons,List.sum_cons]at this
   rw [e,List.map_cons,List.sum_cons];omega
theorem zu1 {n:Nat} {fs:List (List bo)} {ws:List Int} {u:Int} :∀(f:Nat) (lo:Int) (ts:List bp),(u - lo).toNat<=f->lo<=u->b9 n fs ws lo u=some ts->(ts.map fun t=>3+t.len).sum=u - lo
 | f,lo,ts,hf,hl,e=>by
   by_cases A:lo<u
   ·by_cases D:ip n fs ws lo u=true
    ·rw [zet A D]at e;cases hx:b9 n fs ws (bj ws lo).fin u with
     | none=>rw [hx]at e;cases e
     | some ts'=>
       rw [hx]at e;have e:=ojq e;subst e;have h1:=zep D;match f,hf with
       | 0,hf=>omega
       | f+1,hf=>
         have E:=zu1 f (bj ws lo).fin ts' (by omega) h1.2.1 hx;rw [List.map_cons,List.sum_cons,E];have:(bj ws lo).fin=lo+3+(bj ws lo).len:=rfl;omega
    rw [zeu A D]at e;cases e
   rw [zes A]at e;have e:=ojq e;subst e;simp;omega
section
variable {d:be} {h0:bd} {ts:List bp}
end
section
variable {d:be} {h0:bd} {ts:List bp}
theorem zu5 (fs:List (List bo)) (x:bp):(refsOf fs x).Nodup:=by unfold refsOf;refine List.Pairwise.map _ (fun a b h e=>h ?_) (List.Pairwise.filter _ List.nodup_range);have e:x.loc+3+(a:Int)=x.loc+3+(b:Int):=e;omega
theorem zu6 (r:Right d h0 ts) {x:bp} (D:x∈ts) {a:Int} (A:a∈refsOf d.fields x):cw ts (wd h0.ab a)=true:=by
 have h:=r.lead;rw [List.any_eq_false]at h;have h1:=h x D;unfold fq at h1;rw [Bool.not_eq_true,List.any_eq_false]at h1;have u:¬(!cw ts (wd h0.ab a))=true:=h1 a A;cases hc:cw ts (wd h0.ab a)with
 | true=>rfl
 | false=>rw [hc]at u;exact absurd rfl u
theorem zu7 (r:Right d h0 ts) {x:bp} (u:x∈ts) (G:h0.ae<x.loc):h0.ae<x.loc/\x.fin<=h0.bk/\x=bj h0.ab x.loc/\FitT d x/\∀a∈refsOf d.fields x,x.loc+3<=a/\a<x.fin:=by
 have z:=r.sized;obtain ⟨W,V,D,E,A⟩:=zko r.both;have h1:=z.bg;have I:=z.bk;have J:=z.ae;have L:=z.old;have q:ReadAt d h0 (h0.ae+1) h0.bk x:=by
  rw [A]at u;rcases List.mem_append.1 u with u | u
  ·have:=zkn D x u;have:=this.2.1;have N:=zeo (zkn D x u).2.2.2.2;have:x.fin=x.loc+3+x.len:=rfl;omega
  exact zkn E x u
 refine ⟨G,q.2.1,q.2.2.1,zkp (zki r.ok) q (by omega) (by omega),fun a F=>?_⟩;obtain ⟨n,e,O,-⟩:=zto F;have:x.fin=x.loc+3+x.len:=rfl;omega
theorem zva {fs:List (List bo)} {x y:bp} (h:x.tag=y.tag) (n:Nat):jh fs x n=jh fs y n:=by unfold jh;rw [h]
end
structure NwD (mv:List (Int×bp)) (D:DataW Unit):Prop where
 has:∀n,Maps.has D (jc n)=(kr mv n).isSome
 at_:∀n t z,kr mv n=some t->D.atKey (jc n) z=.lit (.int .i64 t)
 no:∀n z,kr mv n=none->D.atKey (jc n) z=z
theorem zvp:NwD [] (.map []):=⟨fun _=>rfl,(fun n t z h=>by cases h),fun n z _=>rfl⟩
theorem zvq {mv:List (Int×bp)} {D:DataW Unit} (h:NwD mv D) (E:Tidy D) (p:Int×bp):NwD (mv++ [p]) (D.put (jc p.1) (.lit (.int .i64 p.2.loc))):=by
 have A:=E.isMap;refine ⟨fun n=>?_,fun n s z u=>?_,fun n z u=>?_⟩
 ·rw [zul];by_cases e:p.1=n
  ·subst e;rw [has_put_same A (isIKey _),if_pos rfl];rfl
  rw [has_put_other (zfg (Ne.symm e)),if_neg e,h.has]
 ·rw [zul]at u;by_cases e:p.1=n
  ·subst e;rw [if_pos rfl]at u;rw [atKey_put_same A (isIKey _),ojq u]
  rw [if_neg e]at u;rw [atKey_put_other (zfg (Ne.symm e)),h.at_ n s z u]
 rw [zul]at u;by_cases e:p.1=n
 ·rw [if_pos e]at u;cases u
 rw [if_neg e]at u;rw [atKey_put_other (zfg (Ne.symm e)),h.no n z u]
def j8 (w:World) (b:Nat) (mv:List (Int×bp)):Prop:=∃D:DataW Unit,w.ownsMap Tryz.prog 3 (plainElem Tryz.prog 3) b mv.length D/\NwD mv D
theorem j8.kept {w w':World} {b:Nat} {mv:List (Int×bp)} (h:j8 w b mv) {row:Option Nat} (E:w.grownBy w' row) (u:some b≠row):j8 w' b mv:=by obtain ⟨D,h,A⟩:=h;exact ⟨D,h.kept E u,A⟩
theorem j8.below {B:Nat} {w w':World} {b:Nat} {mv:List (Int×bp)} (h:j8 w b mv) (F:Below B w w') (E:b<B):j8 w' b mv:=by obtain ⟨D,⟨A,u,e,h⟩,G⟩:=h;exact ⟨D,⟨A,u,(F.block b E).trans e,h⟩,G⟩
def sepB (l:List (Option Nat)):Prop:=l.Pairwise fun a b=>∀k,a=some k->b≠some k
theorem zvr {l:List (Option Nat)} (h:sepB l) {i j k:Nat} (u:i<j) (hi:l[i]? =some (some k)):l[j]? ≠some (some k):=by intro F;obtain ⟨h1,A⟩:=List.getElem?_eq_some_iff.1 hi;obtain ⟨E,D⟩:=List.getElem?_eq_some_iff.1 F;exact List.pairwise_iff_getElem.1 h i j h1 E u k A D
theorem zvs {l:List (Option Nat)} (h:sepB l) {i j k:Nat} (u:i<j) (A:l[j]? =some (some k)):l[i]? ≠some (some k):=fun hi=>zvr h u hi A
structure Mvd (L T M X:Nat) (nW gv:Value) (w:World) (gv':Value) (w':World):Prop where
 os:w'.os=w.os
 tape:w'.tape=w.tape
 output:w'.output=w.output
 size:w.heap.size<=w'.heap.size
 block:∀k,k<L->k<w.heap.size->k≠T->k≠M->k≠X->nW.ownBlock≠some k->gv.ownBlock≠some k->w'.heap[k]? =w.heap[k]?
 gv:∀j,gv'.ownBlock=some j->gv.ownBlock=some j\/L<=j
theorem Mvd.trans {L T M X:Nat} {u A D E:Value} {I J N:World} (h:Mvd L T M X u A I D J) (k:Mvd L T M X u D J E N):Mvd L T M X u A I E N:=
 ⟨k.os.trans h.os,k.tape.trans h.tape,k.output.trans h.output,lt3 h.size k.size,fun j F G a b c e f=>(k.block j F (ll3 G h.size) a b c e (fun q=>by
  rcases h.gv j q with q | q
  ·exact f q
  ·omega)).trans (h.block j F G a b c e f),fun j e=>by
  rcases k.gv j e with e | e
  ·exact h.gv j e
  exact Or.inr e⟩
theorem Mvd.ofBelow {L T M X:Nat} {D u:Value} {w w':World} (h:Below L w w'):Mvd L T M X D u w u w':=⟨h.os,h.tape,h.output,h.size,fun j A _ _ _ _ _ _=>h.block j A,fun _ e=>Or.inl e⟩
theorem Mvd.ofGrown {L T M X k:Nat} {A u:Value} {w w':World} (h:w.grownBy w' (some k)) (D:k=T\/k=M\/k=X\/A.ownBlock=some k\/L<=k):Mvd L T M X A u w u w':=
 ⟨h.os,h.tape,h.output,h.size,fun j F E a b c e _=>h.block j E (fun q=>by
  have q:=ojq q;subst q;rcases D with q | q | q | q | q
  ·exact a q
  ·exact b q
  ·exact c q
  ·exact e q
  omega),fun _ e=>Or.inl e⟩
theorem zvt {u:List Value} {ws l:List Int} {off:Nat} (hc:u.take ws.length=bv ws) (h:off+l.length<=ws.length):
 (u.take off++(bv l++u.drop (off+l.length))).take ws.length=bv (lj ws off l):=by
 have E:ws.length<=u.length:=by have:=congrArg List.length hc;rw [List.length_take,zir]at this;omega
 have A:u.take off=bv (ws.take off):=by
  have:(u.take ws.length).take off=(bv ws).take off:=by rw [hc]
  rw [List.take_take,Nat.min_eq_left (by omega)]at this;rw [this,bv,bv,List.map_take]
 have D:(u.drop (off+l.length)).take (ws.length - (off+l.length))=bv (ws.drop (off+l.length)):=by
  have:(u.take ws.length).drop (off+l.length)=(bv ws).drop (off+l.length):=by rw [hc]
  rw [List.drop_take]at this;rw [this,bv,bv,List.map_drop]
 rw [List.take_append,List.take_append,List.length_take,Nat.min_eq_left (by omega),List.take_of_length_le (by rw [List.length_take];omega)];rw [List.take_of_length_le (l:=bv l) (by rw [zir];omega)];rw [show ws.length - off - (bv l).length=ws.length - (off+l.length) by rw [zir];omega,A,D,lj,ziq,ziq]
end Go.Proofs.YtjdnmblggdobgaaGreat
