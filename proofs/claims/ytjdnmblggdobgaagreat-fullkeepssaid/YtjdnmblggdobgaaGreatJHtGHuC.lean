import Derived.Test.YtjdnmblggdobgaaGreatJTk2Dies
import Derived.Test.YtjdnmblggdobgaaGreatJHtBHtF
import Derived.Laws.CopyOwn
import Derived.Test.YtjdnmblggdobgaaGreatJHmCBx
import Derived.Laws.OwnMore
import Derived.Test.YtjdnmblggdobgaaGreatJLLkLBas
set_option maxHeartbeats 2000000
set_option maxRecDepth 100000
namespace Go.Proofs.YtjdnmblggdobgaaGreat
open Go.RowKit Go.Maps
def put3 (ws:List Int) (off:Nat) (x y z:Int):List Int:=ws.take off++([x,y,z]++ws.drop (off+3))
theorem zlu {ws:List Int} {off:Nat} (x y z:Int) (h:off+3<=ws.length):(put3 ws off x y z).length=ws.length:=by simp [put3];omega
theorem zlv {u:List Value} {ws:List Int} {off:Nat} (x y z:Int) (hc:u.take ws.length=bv ws) (h:off+3<=ws.length):
 (u.take off++([Value.int .i64 x,.int .i64 y,.int .i64 z]++u.drop (off+3))).take ws.length=bv (put3 ws off x y z):=by
 have E:ws.length<=u.length:=by have:=congrArg List.length hc;rw [List.length_take,zir]at this;omega
 have A:u.take off=bv (ws.take off):=by
  have:(u.take ws.length).take off=(bv ws).take off:=by rw [hc]
  rw [List.take_take,Nat.min_eq_left (by omega)]at this;rw [this,bv,bv,List.map_take]
 have D:(u.drop (off+3)).take (ws.length - (off+3))=bv (ws.drop (off+3)):=by
  have:(u.take ws.length).drop (off+3)=(bv ws).drop (off+3):=by rw [hc]
  rw [List.drop_take]at this;rw [this,bv,bv,List.map_drop]
 rw [List.take_append,List.take_append,List.length_take,Nat.min_eq_left (by omega),List.take_of_length_le (by rw [List.length_take];omega)];rw [List.take_of_length_le (l:=[Value.int .i64 x,.int .i64 y,.int .i64 z]) (by simp;omega)];rw [show ws.length - off - [Value.int .i64 x,.int .i64 y,.int .i64 z].length=ws.length - (off+3) by simp;omega,A,D,put3,ziq,ziq];rfl
theorem zlw {ops:Array Oper} {o:Oper} {a:Act} {w:World} {K:Act->World->Prop} {Q:Exit->Act->World->Prop} {E:Prop} (X:o.guard=none) (dd s:Operand)
 (ho:o.op=.call { callee:=.builtin .copy,args:=#[dd,s],argTypes:=#[22,22] }) (b g off u A cap:Nat) (ws:List Int) (I:w.ownsRow b 3 1 (.slice (some ⟨g,0,none⟩) ws.length cap) ws.length (bv ws))
 (hd:a.eval dd=.slice (some ⟨g,off,none⟩) u A) (Z:Nat) (hs:a.eval s=.slice (some ⟨Z,0,none⟩) 3 3) (x y z:Int) (L:w.heap[Z]? =some (.cells #[.int .i64 x,.int .i64 y,.int .i64 z] 3 (0,0))) (D:off+3<=ws.length) (W:3<=u)
 (h:∀w',w.grownBy w' (some g)->w'.ownsRow b 3 1 (.slice (some ⟨g,0,none⟩) ws.length cap) ws.length (bv (put3 ws off x y z))->K (a.put o.dst (goInt 3)) w'):
 if Region.wanted o (yielded ops a.tmps)=true then Oper.wp Tryz.prog o a w K Q else E:=by
 have hw:Region.wanted o (yielded ops a.tmps)=true:=by simp [Region.wanted,X]
 rw [if_pos hw];obtain ⟨h1,h2⟩:=I;rcases h2 with ⟨e,h0⟩ | ⟨g',aa,F,e,N,hg,Y,O,V,G⟩
 ·cases e
 cases e;rw [Nat.mul_one]at G V;have ac:ws.length<=F.size:=by omega
 have J:=run_copy_row (P:=Tryz.prog) w 22 22 o.type 3 g off u A ⟨Z,0,none⟩ 3 3 F 3 [.int .i64 x,.int .i64 y,.int .i64 z] Tryz.underlying22 (by kernel_rfl) hg (by show 3=Nat.min 3 u;exact (Nat.min_eq_left W).symm) (World.news_of_block L) (by show off+3<=_;omega) (by
  intro v hv;simp at hv;rcases hv with rfl | rfl | rfl<;>rfl)
 unfold Oper.wp;simp [execOp,ho,resolve,invoke,builtin,hd,hs,J,Result.andThen];refine h _ ⟨rfl,rfl,rfl,by simp [World.setRow],fun k _ hk=>setRow_other w g k _ (fun e=>hk (by rw [e]))⟩ ⟨by rw [zir,zlu _ _ _ D];simp,Or.inr ⟨g,cap,_,rfl,N,setRow_heap w g F _ 3 _ hg,Y,O,?_,?_⟩⟩
 ·simp;omega
 rw [Nat.mul_one];exact zlv x y z G D
def ke (h:bd) (tag len:Int) (old:Bool):bd:=⟨put3 h.ab (topOf h old).toNat tag len h.next,h.ae,h.old,if old then h.bg else h.bg+3+len,if old then h.bk+3+len else h.bk,h.ap,IntKind.i64.wrap (h.next+1)⟩


theorem zma {lo hi b e n len:Nat} {w w':World} {v:Value} {xs:List Value} (h:w.ownsRow b e n v len xs) (G:Far lo hi w w') (I:hi<=b):w'.ownsRow b e n v len xs:=by refine ⟨h.1,h.2.imp id ?_⟩;rintro ⟨g,cap,u,D,E,A,F⟩;exact ⟨g,cap,u,D,E,(G.block g (bz A) (Or.inr (by omega))).trans A,F⟩
theorem jo.far {lo hi b:Nat} {w w':World} {E D:Value} {h:bd} (o:jo b w E D h) (A:Far lo hi w w') (u:hi<=b):jo b w' E D h:=⟨zma o.rW A u,zma o.rO A u,o.ne⟩
theorem zmb {d:be} {h:bd} {ts:List bp} (h0:dm d h=0) (u:im d h=some ts) (F:∀x∈h.ab,(Lit.int .i64 x).wf=true):mf d h/\Few d/\h.ap.length<=1000000:=by
 unfold dm at h0;cases hok:o7 d with
 | false=>rw [hok]at h0;simp at h0
 | true=>
   rw [hok]at h0;simp only [if_true]at h0;have A:=zki hok;unfold lq at h0;cases h1:jg h with
   | false=>rw [h1]at h0;simp at h0
   | true=>
     cases h2:iv h with
     | false=>rw [h1,h2]at h0;simp at h0
     | true=>
       cases h3:ju h with
       | false=>rw [h1,h2,h3]at h0;simp at h0
       | true=>
         have D:=zkk A h1 h2 h3;rw [h1,h2,h3,u]at h0;simp only [if_true]at h0;refine ⟨D,A,?_⟩;have E:=zkq A D F u;unfold jw at h0;cases e1:nb h.ap with
         | false=>rw [e1]at h0;revert h0;cases ts.any (iy h)<;>cases decide ((ts.map bp.hash).Nodup)<;>cases (ts.any fun x=>fq d.fields h.ab x fun n=>!cw ts n)<;>cases (kf h).any (· != 0)<;>simp
         | true=>
           cases e2:h.ap.any (gi d h ts)with
           | true=>rw [e1,e2]at h0;revert h0;cases ts.any (iy h)<;>cases decide ((ts.map bp.hash).Nodup)<;>cases (ts.any fun x=>fq d.fields h.ab x fun n=>!cw ts n)<;>cases (kf h).any (· != 0)<;>simp
           | false=>exact zks E e1 e2

def tsOf (d:be) (h:bd):List bp:=(im d h).getD []
theorem zmp {l:List Int} {k:Nat} (h:k<l.length):(bv l)[k]? =some (.int .i64 l[k]):=by simp [bv,h]
def noteB (d:be) (h:bd) (t:bp) (n:Nat) (v:Int):Bool:=jh d.fields t n&&(decide (h.ae<t.loc)&&kq h v)
def insN (l:List Int) (x:Int):List Int:=if l.contains x then l else l.takeWhile (fun y=>decide (y<x))++x::l.dropWhile (fun y=>decide (y<x))
def setD (d:be) (h:bd) (t:bp) (n:Nat) (v:Int):bd:=⟨h.ab.set (t.loc+3+n).toNat v,h.ae,h.old,h.bg,h.bk,if noteB d h t n v then insN h.ap t.loc else h.ap,h.next⟩
theorem zms {b e n len:Nat} {w:World} {v:Value} {xs:List Value} (h:w.ownsRow b e n v len xs):∃a c,v=.slice a len c:=by
 rcases h.2 with ⟨u,D⟩ | ⟨g,cap,A,u,-⟩
 ·exact ⟨none,0,by rw [u,D]⟩
 exact ⟨_,_,u⟩

def setH (d:be) (h:bd) (loc n v:Int):bd:=setD d h (nj (tsOf d h) loc) n.toNat v
def begD0:bd:=newD 20 20
def begD1:bd:=ke begD0 1 2 false
def begD2:bd:=setH (na baseD) begD1 1 1 7
def wfL (l:List Int):Bool:=l.all fun x=>(Lit.int .i64 x).wf
theorem zne {l:List Int} (h:wfL l=true):∀x∈l,(Lit.int .i64 x).wf=true:=by unfold wfL at h;rw [List.all_eq_true]at h;exact h
theorem znf:wfL begD0.ab=true:=by kernel_rfl
theorem zni:begD0.ap= []/\begD1.ap= []/\begD2.ap= []:=⟨by kernel_rfl,by kernel_rfl,by kernel_rfl⟩
theorem znj:begD0.ab.length=41/\begD1.ab.length=41/\begD2.ab.length=41:=⟨by kernel_rfl,by kernel_rfl,by kernel_rfl⟩
theorem znk (Q:Nat):∀(cs:List Value) (w:World) (o:Nat),(∀j,w.frozen? ⟨Q,j,none⟩=false)->∀j,(kv w Q o cs).frozen? ⟨Q,j,none⟩=false
 | [],_,_,h=>h
 | c::cs,w,o,h=>znk Q cs (w.setCell ⟨Q,o,none⟩ c) (o+1) (fun j=>by rw [World.frozen?_setCell];exact h j)
theorem Hd.of_own {b B:Nat} {w:World} {J I A F D E G:Value} {h:bd} {d:be} (o:jo b w J I h) (W:ma (· <B) w A F D E G d) (N:B<=w.heap.size) (h1:h.ab.length<=1000000) (L:h.ap.length<=1000000) (V:∀x∈h.ab,(Lit.int .i64 x).wf=true) (O:∀x∈h.ap,(Lit.int .i64 x).wf=true):Hd w.heap.size w J I A F D E G h d:=
 ⟨(zfb o.rW h1).monoI fun _ u=>u.lt,(zfb o.rO L).monoI fun _ u=>u.lt,W.mono fun _ u=>ll3 u N,nlq _,V,O⟩
theorem znl (w:World):Calls Tryz.prog 17 #[.int .i64 20,.int .i64 20] w fun r w'=>Below w.heap.size w w'/\∃n4 c4,r=.returned (.tuple #[.agg #[.slice n4 41 c4,.int .i64 20,.int .i64 20,.int .i64 1,.int .i64 21,.slice none 0 0,.int .i64 1],.int .i64 0])/\jo w.heap.size w' (.slice n4 41 c4) (.slice none 0 0) begD0:=by
 refine (zlj w 20 20).mono ?_;rintro r w' ⟨A,⟨-,-,v,rfl,u⟩ | ⟨hc,rfl⟩⟩
 ·obtain ⟨n,c,rfl⟩:=zms u;exact ⟨A,n,c,by kernel_rfl,⟨u,World.ownsRow_nil _ _ _ _,fun k _ e=>by cases e⟩⟩
 exact absurd hc (by decide)
theorem zsj (w:World) (M M':Nat->Prop) (u v:Value) (l m:List Int) (V:SL 1 RI M w u l) (W:SL 1 RI M' w v m):
 Calls Tryz.prog 29 #[u,v] w fun r w'=>r=.returned (.bool (cz fp l m))/\∃n,w'=w.drewN n:=by
 have Z:=ag V;have N:=ag W;obtain ⟨au,cu,rfl,_,hl,-⟩:=V;obtain ⟨av,cv,rfl,_,O,-⟩:=W;unfold maxLen at hl O;by_cases A:l.length=m.length
 rotate_left
 ·have h0:¬(l.length:Int)=m.length:=by omega
  have Y:=ag (zd9 fp l m A);clear A;go_enter Tryz.func29,Tryz.ntmps29;go_wp2
  go_ret;exact ⟨by rw [Y.o];rfl,0,rfl⟩
 rw [<-A]at N ⊢;have E:=ag A;clear O A;go_enter Tryz.func29,Tryz.ntmps29;go_wp2
 go_loopw [5] (fun i wr=>∃k:Nat,k<=l.length/\i=.int .i64 k/\Hid (cz fp l m=cz fp (l.drop k) (m.drop k))/\∃n,wr=w.drewN n) (fun i _=>l.length - (intOf i).toNat)
 case atStart=>exact ⟨0,n0q _,rfl,rfl,0,rfl⟩
 case round=>
  obtain ⟨k,hk,rfl,J,n,rfl⟩:=hrel;by_cases F:k<l.length
  ·have I:k<m.length:=by have:=E.o;omega
   obtain ⟨b,off,rfl,_,c0⟩:=Z.o.atI k F;obtain ⟨b2,X,rfl,_,d0⟩:=N.o.atI k I;have G:=ag (zea fp l m k F I);generalize l[k]=x at*;generalize m[k]=y at*;cases hs:fp x y with
   | true=>
     have L:x=y:=by simpa [fp]using hs
     have D:Hid (cz fp l m=cz fp (l.drop (k+1)) (m.drop (k+1))):=J.o.trans (by rw [G.o,hs,Bool.true_and]);go_wp2
     go_quiet (fail);go_wp2
     go_roundw
     case rel=>exact ⟨k+1,by omega,by go_num,D.o,_,rfl⟩
     case measure=>simp [intOf];omega
   | false=>
     have L:¬x=y:=by simpa [fp]using hs
     have D:Hid (cz fp l m=false):=J.o.trans (by rw [G.o,hs,Bool.false_and]);go_wp2
     go_quiet (fail);go_wp2
     go_ret;exact ⟨by rw [D.o];rfl,_,World.drewN_drewN _ _ _⟩
  have D:Hid (cz fp l m=true):=J.o.trans (zeb fp l m k F E.o);go_wp2
  go_ret;exact ⟨by rw [D.o];rfl,n,rfl⟩
theorem zsk {B:Nat} {w w':World} (h:Below B w w') (n:Nat):Below B w (w'.drewN n):=⟨h.os,h.tape,h.output,h.size,h.block⟩
theorem zsl (l:List Int):cz fp l l=true:=by
 induction l with
 | nil=>rfl
 | cons x l ih=>simp [cz,fp,ih]
theorem zsm (w:World) (h:bd) (I F J G:Option Addr) (O L V N:Nat) (s1:SL 1 RI (· <w.heap.size) w (.slice I h.ab.length O) h.ab) (s2:SL 1 RI (· <w.heap.size) w (.slice F h.ap.length L) h.ap) (s3:SL 1 RI (· <w.heap.size) w (.slice J h.ab.length V) h.ab) (s4:SL 1 RI (· <w.heap.size) w (.slice G h.ap.length N) h.ap):
 Calls Tryz.prog 45 #[.agg #[.slice I h.ab.length O,.int .i64 h.ae,.int .i64 h.old,.int .i64 h.bg,.int .i64 h.bk,.slice F h.ap.length L,.int .i64 h.next],.agg #[.slice J h.ab.length V,.int .i64 h.ae,.int .i64 h.old,.int .i64 h.bg,.int .i64 h.bk,.slice G h.ap.length N,.int .i64 h.next]] w fun r w'=>r=.returned (.bool true)/\Below w.heap.size w w':=by
 obtain ⟨E,W,u,ad,A,D⟩:=nk w #[.slice I h.ab.length O,.int .i64 h.ae,.int .i64 h.old,.int .i64 h.bg,.int .i64 h.bk,.slice F h.ap.length L,.int .i64 h.next] #[.slice J h.ab.length V,.int .i64 h.ae,.int .i64 h.old,.int .i64 h.bg,.int .i64 h.bk,.slice G h.ap.length N,.int .i64 h.next] 24 24;have x0:=ba A 0 (x:=.slice I h.ab.length O) rfl;have x1:=ba A 1 (x:=.int .i64 h.ae) rfl;have x2:=ba A 2 (x:=.int .i64 h.old) rfl;have x3:=ba A 3 (x:=.int .i64 h.bg) rfl;have x4:=ba A 4 (x:=.int .i64 h.bk) rfl;have x5:=ba A 5 (x:=.slice F h.ap.length L) rfl;have x6:=ba A 6 (x:=.int .i64 h.next) rfl;have y0:=ba D 0 (x:=.slice J h.ab.length V) rfl;have y1:=ba D 1 (x:=.int .i64 h.ae) rfl;have y2:=ba D 2 (x:=.int .i64 h.old) rfl;have y3:=ba D 3 (x:=.int .i64 h.bg) rfl;have y4:=ba D 4 (x:=.int .i64 h.bk) rfl;have y5:=ba D 5 (x:=.slice G h.ap.length N) rfl;have y6:=ba D 6 (x:=.int .i64 h.next) rfl;have af:=bz A;have lk1:=bz D;have aa:Hid (∀n,Calls Tryz.prog 29 #[.slice I h.ab.length O,.slice J h.ab.length V] (E.drewN n) fun r w'=>r=.returned (.bool true)/\∃n,w'=E.drewN n):=fun n=>by have X:Below w.heap.size w (E.drewN n):=zsk u n;refine (zsj _ _ _ _ _ _ _ (s1.keptI (Kp.below X)) (s3.keptI (Kp.below X))).mono ?_;rintro r w' ⟨rfl,m,rfl⟩;exact ⟨by rw [zsl],_,World.drewN_drewN _ _ _⟩
 have ac:Hid (∀n,Calls Tryz.prog 29 #[.slice F h.ap.length L,.slice G h.ap.length N] (E.drewN n) fun r w'=>r=.returned (.bool true)/\∃n,w'=E.drewN n):=fun n=>by have X:Below w.heap.size w (E.drewN n):=zsk u n;refine (zsj _ _ _ _ _ _ _ (s2.keptI (Kp.below X)) (s4.keptI (Kp.below X))).mono ?_;rintro r w' ⟨rfl,m,rfl⟩;exact ⟨by rw [zsl],_,World.drewN_drewN _ _ _⟩
 have Z:=ag W;have Y:Hid (∀n,Below w.heap.size w (E.drewN n)):=fun n=>zsk u n;clear s1 s2 s3 s4 W u ad A D;go_enter Tryz.func45,Tryz.ntmps45;go_wp2_with fail;rw [<-Z.o];refine (aa.o 0).mono ?_;rintro r _ ⟨rfl,n,rfl⟩;go_wp2_with fail;refine (ac.o _).mono ?_;rintro r _ ⟨rfl,m,rfl⟩;go_wp2_with fail;go_ret;exact ⟨rfl,Y.o _⟩
end Go.Proofs.YtjdnmblggdobgaaGreat
