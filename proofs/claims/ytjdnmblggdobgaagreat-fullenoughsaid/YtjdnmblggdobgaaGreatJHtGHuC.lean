import Derived.Test.YtjdnmblggdobgaaGreatJHtBHtF
import Derived.Laws.CopyOwn
import Derived.Laws.OwnMore
set_option maxHeartbeats 1000000
set_option maxRecDepth 100000
namespace Go.Proofs.YtjdnmblggdobgaaGreat
open Go.RowKit Go.Maps Tryz
def lu (ws:List Int) (off:Nat) (x y z:Int):List Int:=ws.take off++([x,y,z]++ws.drop (off+3))
theorem zlu {ws:List Int} {off:Nat} (x y z:Int) (h:off+3<=ws.length):(lu ws off x y z).length=ws.length:=by simp [lu];omega
theorem zlv {A:List Value} {ws:List Int} {off:Nat} (x y z:Int) (hc:A.take ws.length=bw ws) (h:off+3<=ws.length):
 (A.take off++([Value.int .i64 x,.i y,.i z]++A.drop (off+3))).take ws.length=bw (lu ws off x y z):=by
 have F:ws.length<=A.length:=by have:=congrArg List.length hc;rw [List.length_take,ui]at this;omega
 have D:A.take off=bw (ws.take off):=by
  have:(A.take ws.length).take off=(bw ws).take off:=by rw [hc]
  rw [List.take_take,Nat.min_eq_left (by omega)]at this;rw [this,bw,bw,List.map_take]
 have E:(A.drop (off+3)).take (ws.length - (off+3))=bw (ws.drop (off+3)):=by
  have:(A.take ws.length).drop (off+3)=(bw ws).drop (off+3):=by rw [hc]
  rw [List.drop_take]at this;rw [this,bw,bw,List.map_drop]
 rw [List.take_append,List.take_append,List.length_take,Nat.min_eq_left (by omega),List.take_of_length_le (by rw [List.length_take];omega)];rw [List.take_of_length_le (l:=[Value.int .i64 x,.i y,.i z]) (by simp;omega)];rw [show ws.length - off - [Value.int .i64 x,.i y,.i z].length=ws.length - (off+3) by simp;omega,D,E,lu,Fk,Fk];rfl
theorem zlw {ops:Array Oper} {o:Oper} {a:Act} {w:World} {K:Act->World->Prop} {Q:Exit->Act->World->Prop} {E:Prop} (Y:o.guard=none) (dd s:Operand)
 (ho:o.op=.call { callee:=.builtin .copy,args:=#[dd,s],argTypes:=#[22,22] }) (b g off A D cap:Nat) (ws:List Int) (J:w.ownsRow b 3 1 (.slice (some ⟨g,0,none⟩) ws.length cap) ws.length (bw ws))
 (hd:a.eval dd=.slice (some ⟨g,off,none⟩) A D) (sb:Nat) (hs:a.eval s=.slice (some ⟨sb,0,none⟩) 3 3) (x y z:Int) (N:w.heap[sb]? =some (.cells #[.i x,.i y,.i z] 3 (0,0))) (F:off+3<=ws.length) (X:3<=A)
 (h:∀w',w.grownBy w' (some g)->w'.ownsRow b 3 1 (.slice (some ⟨g,0,none⟩) ws.length cap) ws.length (bw (lu ws off x y z))->K (a.put o.dst (goInt 3)) w'):
 if Region.wanted o (yielded ops a.tmps)=true then Oper.wp prog o a w K Q else E:=by
 have hw:Region.wanted o (yielded ops a.tmps)=true:=by simp [Region.wanted,Y]
 rw [if_pos hw];obtain ⟨h1,h2⟩:=J;rcases h2 with ⟨e,h0⟩ | ⟨g',aa,G,e,O,hg,Z,V,W,I⟩
 ·cases e
 cases e;rw [Nat.mul_one]at I W;have ac:ws.length<=G.size:=by omega
 have L:=run_copy_row (P:=prog) w 22 22 o.type 3 g off A D ⟨sb,0,none⟩ 3 3 G 3 [.i x,.i y,.i z] underlying22 (by kernel_rfl) hg (by show 3=Nat.min 3 A;exact (Nat.min_eq_left X).symm) (World.news_of_block N) (by show off+3<=_;omega) (by
  intro v hv;simp at hv;rcases hv with rfl | rfl | rfl<;>rfl)
 unfold Oper.wp;simp [execOp,ho,resolve,invoke,builtin,hd,hs,L,Result.andThen];refine h _ ⟨rfl,rfl,rfl,by simp [World.setRow],fun k _ hk=>setRow_other w g k _ (fun e=>hk (by rw [e]))⟩ ⟨by rw [ui,zlu _ _ _ F];simp,Or.inr ⟨g,cap,_,rfl,O,setRow_heap w g G _ 3 _ hg,Z,V,?_,?_⟩⟩
 ·simp;omega
 rw [Nat.mul_one];exact zlv x y z I F
def ir (h:ar) (tag len:Int) (old:Bool):ar:=⟨lu h.ab (fy h old).toNat tag len h.next,h.ae,h.old,if old then h.bo else h.bo+3+len,if old then h.ba+3+len else h.ba,h.am,IntKind.i64.wrap (h.next+1)⟩


theorem zma {lo hi b e n len:Nat} {w w':World} {v:Value} {xs:List Value} (h:w.ownsRow b e n v len xs) (I:tg lo hi w w') (J:hi<=b):w'.ownsRow b e n v len xs:=by refine ⟨h.1,h.2.imp id ?_⟩;rintro ⟨g,cap,A,E,F,D,G⟩;exact ⟨g,cap,A,E,F,(I.block g (bz D) (Or.inr (by omega))).trans D,G⟩
theorem ni.far {lo hi b:Nat} {w w':World} {F E:Value} {h:ar} (o:ni b w F E h) (D:tg lo hi w w') (A:hi<=b):ni b w' F E h:=⟨zma o.rW D A,zma o.rO D A,o.ne⟩
theorem Fp {d:bd} {h:ar} {ts:List bk} (h0:dt d h=0) (A:io d h=some ts) (G:∀x∈h.ab,(Lit.int .i64 x).wf=true):nj d h/\Cu d/\h.am.length<=1000000:=by
 unfold dt at h0;cases hok:ql d with
 | false=>rw [hok]at h0;simp at h0
 | true=>
   rw [hok]at h0;simp only [if_true]at h0;have D:=Ds hok;unfold ng at h0;cases h1:j6 h with
   | false=>rw [h1]at h0;simp at h0
   | true=>
     cases h2:jg h with
     | false=>rw [h1,h2]at h0;simp at h0
     | true=>
       cases h3:jx h with
       | false=>rw [h1,h2,h3]at h0;simp at h0
       | true=>
         have E:=zkk D h1 h2 h3;rw [h1,h2,h3,A]at h0;simp only [if_true]at h0;refine ⟨E,D,?_⟩;have F:=zkq D E G A;unfold kw at h0;cases e1:pd h.am with
         | false=>rw [e1]at h0;revert h0;cases ts.any (jd h)<;>cases decide ((ts.map bk.hash).Nodup)<;>cases (ts.any fun x=>ep d.fields h.ab x fun n=>!b8 ts n)<;>cases (km h).any (· != 0)<;>simp
         | true=>
           cases e2:h.am.any (fh d h ts)with
           | true=>rw [e1,e2]at h0;revert h0;cases ts.any (jd h)<;>cases decide ((ts.map bk.hash).Nodup)<;>cases (ts.any fun x=>ep d.fields h.ab x fun n=>!b8 ts n)<;>cases (km h).any (· != 0)<;>simp
           | false=>exact zks F e1 e2

def sj (d:bd) (h:ar):List bk:=(io d h).getD []
theorem A8 {l:List Int} {k:Nat} (h:k<l.length):(bw l)[k]? =some (.i l[k]):=by simp [bw,h]
def setW (h:ar) (m:Nat) (v:Int):ar:=⟨h.ab.set m v,h.ae,h.old,h.bo,h.ba,h.am,h.next⟩
def noteB (d:bd) (h:ar) (t:bk) (n:Nat) (v:Int):Bool:=jp d.fields t n&&(decide (h.ae<t.loc)&&dm h v)
def insN (l:List Int) (x:Int):List Int:=if l.contains x then l else l.takeWhile (fun y=>decide (y<x))++x::l.dropWhile (fun y=>decide (y<x))
def setD (d:bd) (h:ar) (t:bk) (n:Nat) (v:Int):ar:=⟨h.ab.set (t.loc+3+n).toNat v,h.ae,h.old,h.bo,h.ba,if noteB d h t n v then insN h.am t.loc else h.am,h.next⟩
theorem zms {b e n len:Nat} {w:World} {v:Value} {xs:List Value} (h:w.ownsRow b e n v len xs):∃a c,v=.slice a len c:=by
 rcases h.2 with ⟨A,E⟩ | ⟨g,cap,D,A,-⟩
 ·exact ⟨none,0,by rw [A,E]⟩
 exact ⟨_,_,A⟩

def setH (d:bd) (h:ar) (loc n v:Int):ar:=setD d h (nu (sj d h) loc) n.toNat v
def rm:ar:=xo 20 20
def Bh:ar:=ir rm 1 2 false
def D4:ar:=setH (qi baseD) Bh 1 1 7
def wfL (l:List Int):Bool:=l.all fun x=>(Lit.int .i64 x).wf
theorem zne {l:List Int} (h:wfL l=true):∀x∈l,(Lit.int .i64 x).wf=true:=by unfold wfL at h;rw [List.all_eq_true]at h;exact h
theorem znf:wfL rm.ab=true:=by kernel_rfl
theorem zni:rm.am= []/\Bh.am= []/\D4.am= []:=⟨by kernel_rfl,by kernel_rfl,by kernel_rfl⟩
theorem znj:rm.ab.length=41/\Bh.ab.length=41/\D4.ab.length=41:=⟨by kernel_rfl,by kernel_rfl,by kernel_rfl⟩
theorem znk (Q:Nat):∀(cs:List Value) (w:World) (o:Nat),(∀j,w.frozen? ⟨Q,j,none⟩=false)->∀j,(pf w Q o cs).frozen? ⟨Q,j,none⟩=false
 | [],_,_,h=>h
 | c::cs,w,o,h=>znk Q cs (w.setCell ⟨Q,o,none⟩ c) (o+1) (fun j=>by rw [World.frozen?_setCell];exact h j)
theorem Hd.of_own {b B:Nat} {w:World} {L J D G E F I:Value} {h:ar} {d:bd} (o:ni b w L J h) (X:mt (· <B) w D G E F I d) (O:B<=w.heap.size) (h1:h.ab.length<=1000000) (N:h.am.length<=1000000) (W:∀x∈h.ab,(Lit.int .i64 x).wf=true) (V:∀x∈h.am,(Lit.int .i64 x).wf=true):Hd w.heap.size w L J D G E F I h d:=
 ⟨(ru o.rW h1).monoI fun _ A=>A.lt,(ru o.rO N).monoI fun _ A=>A.lt,X.mono fun _ A=>ll3 A O,nlq _,W,V⟩
theorem znl (w:World):Calls prog 17 #[.i 20,.i 20] w fun r w'=>Bl w w'/\∃n4 c4,r=.returned (.tuple #[.agg #[.slice n4 41 c4,.i 20,.i 20,.i 1,.i 21,.nl,.i 1],.i 0])/\ni w.heap.size w' (.slice n4 41 c4) (.nl) rm:=by
 refine (zlj w 20 20).mono ?_;rintro r w' ⟨D,⟨-,-,v,rfl,A⟩ | ⟨hc,rfl⟩⟩
 ·obtain ⟨n,c,rfl⟩:=zms A;exact ⟨D,n,c,by kernel_rfl,⟨A,World.ownsRow_nil _ _ _ _,fun k _ e=>by cases e⟩⟩
 exact absurd hc (by decide)
theorem zsj (w:World) (M M':Nat->Prop) (u v:Value) (l m:List Int) (V:SL 1 RI M w u l) (W:SL 1 RI M' w v m):
 Calls prog 29 #[u,v] w fun r w'=>r=.returned (.bool (db f9 l m))/\∃n,w'=w.drewN n:=by
 have Z:=ag V;have N:=ag W;obtain ⟨au,cu,rfl,_,hl,-⟩:=V;obtain ⟨av,cv,rfl,_,O,-⟩:=W;unfold maxLen at hl O;by_cases A:l.length=m.length
 rotate_left
 ·have h0:¬(l.length:Int)=m.length:=by omega
  have Y:=ag (xt f9 l m A);clear A;go_enter func29,ntmps29;go_wp2
  go_ret;exact ⟨by rw [Y.o];rfl,0,rfl⟩
 rw [<-A]at N ⊢;have E:=ag A;clear O A;go_enter func29,ntmps29;go_wp2
 go_loopw [5] (fun i wr=>∃k:Nat,k<=l.length/\i=.i k/\Hid (db f9 l m=db f9 (l.drop k) (m.drop k))/\∃n,wr=w.drewN n) (fun i _=>l.length - (intOf i).toNat)
 case atStart=>exact ⟨0,n0q _,rfl,rfl,0,rfl⟩
 case round=>
  obtain ⟨k,hk,rfl,J,n,rfl⟩:=hrel;by_cases F:k<l.length
  ·have I:k<m.length:=by have:=E.o;omega
   obtain ⟨b,off,rfl,_,c0⟩:=Z.o.atI k F;obtain ⟨b2,X,rfl,_,d0⟩:=N.o.atI k I;have G:=ag (yw f9 l m k F I);generalize l[k]=x at*;generalize m[k]=y at*;cases hs:f9 x y with
   | true=>
     have L:x=y:=by simpa [f9]using hs
     have D:Hid (db f9 l m=db f9 (l.drop (k+1)) (m.drop (k+1))):=J.o.trans (by rw [G.o,hs,Bool.true_and]);go_wp2
     go_quiet (fail);go_wp2
     go_roundw
     case rel=>exact ⟨k+1,by omega,by go_num,D.o,_,rfl⟩
     case measure=>simp [intOf];omega
   | false=>
     have L:¬x=y:=by simpa [f9]using hs
     have D:Hid (db f9 l m=false):=J.o.trans (by rw [G.o,hs,Bool.false_and]);go_wp2
     go_quiet (fail);go_wp2
     go_ret;exact ⟨by rw [D.o];rfl,_,World.drewN_drewN _ _ _⟩
  have D:Hid (db f9 l m=true):=J.o.trans (yx f9 l m k F E.o);go_wp2
  go_ret;exact ⟨by rw [D.o];rfl,n,rfl⟩
theorem zsk {B:Nat} {w w':World} (h:Below B w w') (n:Nat):Below B w (w'.drewN n):=⟨h.os,h.tape,h.output,h.size,h.block⟩
theorem zsl (l:List Int):db f9 l l=true:=by
 induction l with
 | nil=>rfl
 | cons x l ih=>simp [db,f9,ih]
end Go.Proofs.YtjdnmblggdobgaaGreat
