import Derived.Test.YtjdnmblggdobgaaGreatJChkClassCatch
import Derived.Test.YtjdnmblggdobgaaGreatJLErrLRf4
import Derived.Test.YtjdnmblggdobgaaGreatJTk2Dies
set_option maxHeartbeats 2000000
set_option maxRecDepth 100000
namespace Go.Proofs.YtjdnmblggdobgaaGreat
open Go.RowKit
def MT (B:Nat) (T:List Nat) (w:World) (k:Nat):Prop:=B<=k/\∃c t fr,w.heap[k]? =some (.cells c t fr)/\t∈T
structure Stp (B:Nat) (T:List Nat) (w w':World):Prop where
 size:w.heap.size<=w'.heap.size
 block:∀k,MT B T w k->w'.heap[k]? =w.heap[k]?
theorem MT.lt {B:Nat} {T:List Nat} {w:World} {k:Nat} (h:MT B T w k):k<w.heap.size:=by obtain ⟨_,c,t,u,h,_⟩:=h;exact (Array.getElem?_eq_some_iff.1 h).1
theorem MT.step {B:Nat} {T:List Nat} {w w':World} {k:Nat} (h:MT B T w k) (E:Stp B T w w'):MT B T w' k:=by have e:=E.block k h;obtain ⟨h1,c,t,u,A,D⟩:=h;exact ⟨h1,c,t,u,e.trans A,D⟩
theorem MT.more {B B':Nat} {T T':List Nat} {w:World} {k:Nat} (h:MT B T w k) (E:B'<=B) (F:∀t∈T,t∈T'):MT B' T' w k:=by obtain ⟨h1,c,t,u,A,D⟩:=h;exact ⟨lt3 E h1,c,t,u,A,F t D⟩
theorem Stp.kp {B:Nat} {T:List Nat} {w w':World} (h:Stp B T w w'):Kp (MT B T w) w w':=⟨h.size,fun b u _=>h.block b u⟩
theorem Stp.row {B:Nat} {T:List Nat} {w w':World} {v:Value} {B' e n len:Nat} {xs:List Value} (D:w.grownBy w' v.ownBlock) (L:w.ownsRow B' e n v len xs) (J:e∉T):Stp B T w w':=
 ⟨D.size,fun k E=>D.block k E.lt (fun u=>by
  obtain ⟨_,c,t,N,A,G⟩:=E;rcases L.2 with ⟨rfl,_⟩ | ⟨g,cap,F,rfl,_,I,_⟩
  ·cases u
  cases u;rw [I]at A;cases A;exact J G)⟩
theorem Stp.alloc {B:Nat} {T:List Nat} {w w':World} (h:Stp B T w w') (o:Obj):Stp B T w (w'.alloc o):=
 ⟨lt3 h.size (by simp),fun k u=>(Below.heap_alloc _ _ _ (ll3 u.lt h.size)).trans (h.block k u)⟩
theorem Stp.refl (B:Nat) (T:List Nat) (w:World):Stp B T w w:=⟨nlq _,fun _ _=>rfl⟩
theorem Stp.trans {B:Nat} {T:List Nat} {a b c:World} (h:Stp B T a b) (k:Stp B T b c):Stp B T a c:=⟨lt3 h.size k.size,fun i hi=>(k.block i (hi.step h)).trans (h.block i hi)⟩
theorem Stp.set {B:Nat} {T:List Nat} {w:World} {k t:Nat} {c:Array Value} {A:Nat×Nat} (h:w.heap[k]? =some (.cells c t A)) (F:t∉T) (j:Nat) (v:Value):Stp B T w (w.setCell ⟨k,j,none⟩ v):=
 ⟨by simp [World.setCell],fun i hi=>Below.heap_setCell _ _ _ _ (fun e=>by
  obtain ⟨_,G,I,D,u,E⟩:=hi;rw [show i=k from e,h]at u;cases u;exact F E)⟩
theorem Stp.below {B:Nat} {T:List Nat} {w w':World} (h:Below w.heap.size w w'):Stp B T w w':=⟨h.size,fun k u=>h.block k u.lt⟩
theorem SL.stpK {B:Nat} {T:List Nat} {w w':World} {v:Value} {l:List ew} (h:SL 2 RK (MT B T w) w v l) (u:Stp B T w w'):SL 2 RK (MT B T w') w' v l:=(h.keptK u.kp).monoK fun _ A=>A.step u
theorem SL.stpF {B:Nat} {T:List Nat} {w w':World} {v:Value} {l:List bo} (h:SL 3 RF (MT B T w) w v l) (u:Stp B T w w'):SL 3 RF (MT B T w') w' v l:=(h.keptF u.kp).monoF fun _ A=>A.step u
theorem SL.stpH {B:Nat} {T:List Nat} {w w':World} {v:Value} {l:List ii} (h:SL 4 RH (MT B T w) w v l) (u:Stp B T w w'):SL 4 RH (MT B T w') w' v l:=(h.keptH u.kp).monoH fun _ A=>A.step u
theorem SL.stpM {B:Nat} {T:List Nat} {w w':World} {v:Value} {l:List dx} (h:SL 9 RM (MT B T w) w v l) (u:Stp B T w w'):SL 9 RM (MT B T w') w' v l:=(h.keptM u.kp).monoM fun _ A=>A.step u
theorem RM.stp {B:Nat} {T:List Nat} {w w':World} {u:List Value} {m:dx} (h:RM (MT B T w) w u m) (A:Stp B T w w'):RM (MT B T w') w' u m:=(h.kept A.kp).mono fun _ D=>D.step A
theorem RC.stp {B:Nat} {T:List Nat} {w w':World} {u:List Value} {m:am} (h:RC (MT B T w) w u m) (A:Stp B T w w'):RC (MT B T w') w' u m:=(h.kept A.kp).mono fun _ D=>D.step A
theorem ze3 {α:Type} {n:Nat} (f:α->List Value):∀(zs:List α) (k j:Nat),(∀z∈zs,(f z).length=n)->(hk:k<zs.length)->j<n->(zs.flatMap f)[k*n+j]? =(f zs[k])[j]?
 | [],k,j,_,hk,_=>by cases hk
 | z::zs,k,j,h,hk,hj=>by
   have h0:=h z (by simp);rw [List.flatMap_cons];match k,hk with
   | 0,_=>
     rw [List.getElem?_append_left (by omega)];simp
   | k+1,hk=>
     rw [List.getElem?_append_right (by rw [h0,Nat.add_mul];omega),h0,show (k+1)*n+j - n=k*n+j by rw [Nat.add_mul];omega];exact ze3 f zs k j (fun y u=>h y (by simp [u])) (by simpa using hk) hj
theorem ze4 {α:Type} {n:Nat} {R:(Nat->Prop)->World->List Value->α->Prop} {B e:Nat} {T:List Nat} {w:World} {v:Value} {zs:List (List Value×α)} (J:w.ownsRow B e n v zs.length (zs.flatMap (·.1)))
 (h:∀z∈zs,z.1.length=n/\R (MT B T w) w z.1 z.2) (O:e∈T) (I:zs.length<=maxLen):SL n R (MT B T w) w v (zs.map (·.2)):=by
 rcases J.2 with ⟨rfl,W⟩ | ⟨g,cap,D,rfl,N,G,hc,_⟩
 ·have:zs= []:=List.eq_nil_of_length_eq_zero W;subst this;exact ⟨none,0,rfl,nlq _,I,fun k E=>by cases E⟩
 refine ⟨some ⟨g,0,none⟩,cap,by simp,by simpa using hc,by simpa using I,fun k E=>?_⟩;have A:k<zs.length:=by simpa using E
 have L:=h _ (gm A);refine ⟨g,0,zs[k].1,rfl,⟨N,D,e,_,G,O⟩,(Array.getElem?_eq_some_iff.1 G).1,L.1,fun j V=>?_,by simpa using L.2⟩;have u:j<zs[k].1.length:=by omega
 have:=J.cells (g:=g) rfl (k*n+j) (zs[k].1[j]) (by rw [ze3 (n:=n) (fun z:List Value×α=>z.1) zs k j (fun z F=>(h z F).1) A V];simp [u]);rw [List.getElem?_eq_getElem u,<-this];simp [Addr.add];split
 ·rename_i hz0;rw [hz0.1,hz0.2]
 rfl
theorem ze7 {α:Type} (zs:List (List Value×α)) (c:List Value) (x:α):(zs++ [(c,x)]).flatMap (·.1)=zs.flatMap (·.1)++c:=by simp
end Go.Proofs.YtjdnmblggdobgaaGreat
namespace Go.Proofs.YtjdnmblggdobgaaGreat
open Go.RowKit Go.Maps
theorem zjd {P:Program} {J:Nat} {Q:Exit->Act->World->Prop} {a:Act} {w:World} {L l:List Oper} {z:Oper} (B:Nat) (W:World) (R:List PanicEntry->World->Prop) (F:P.follows .mixedOrders=true) (A:Region.lexB .any L.toArray=true)
 (I:L.getLast? =some z) (E:L.dropLast=l) (G:Below B W w)
 (D:∀chain u w,u.defers=a.defers->R chain w->Q (.panic chain) u w)
 (h:wpQuiet P L.toArray (fun w'=>∃g:Gr B W,w'=g.w) (fun u=>DiesIn P L.toArray (fun w'=>∃g:Gr B W,w'=g.w) R z u) l a):(Code.region J L.toArray true).wp P Q a w:=by
 have e:L=l++ [z]:=by obtain ⟨N,e⟩:=List.getLast?_eq_some_iff.1 I;rw [<-E,e,List.dropLast_concat]
 subst e;simp only [Region.lexB,Bool.and_eq_true]at A;refine wp_region_any F (zi8 (R:=R) (Q:=fun _=>False) (C:=fun w'=>∃g:Gr B W,w'=g.w) D (fun _ _ _ h=>h.elim) _ _ _ _ rfl ⟨⟨_,G.drew⟩,rfl⟩ ?_);have:=zja (Q:=fun _=>False) (C:=fun w'=>∃g:Gr B W,w'=g.w) (R:=R) (md:=.any) (z:=z) A.1 l 0 (Array.replicate (l++ [z]).toArray.size false) a (by simp) (by simpa using A.2) h;simpa using this
structure QD where
 g:Nat
 e:Int
 ans:Bool
def RQ (first:Array Value) (_:Nat->Prop) (_:World) (cs:List Value) (q:QD):Prop:=cs= [.func (.func q.g) first #[],.int .i64 q.e]
theorem SL.atQ {first:Array Value} {M:Nat->Prop} {w:World} {u:Option Addr} {len cap:Nat} {l:List QD} (h:SL 2 (RQ first) M w (.slice u len cap) l) (k:Nat) (D:k<l.length):
 ∃b off,u=some ⟨b,off,none⟩/\b<w.heap.size/\w.cell? ⟨b,off+k*2,none⟩=some (.func (.func l[k].g) first #[])/\w.cell? ⟨b,off+k*2+1,none⟩=some (.int .i64 l[k].e):=by
 obtain ⟨b,off,E,e,_,A,_,hc,rfl⟩:=h.at k D;exact ⟨b,off,e,A,hc 0 (by decide),hc 1 (by decide)⟩
def dv:List QD->Int
 | []=>0
 | q::l=>if q.ans then dv l else q.e
theorem zje (l:List QD) (k:Nat) (u:k<l.length):dv (l.drop k)=if l[k].ans then dv (l.drop (k+1)) else l[k].e:=by rw [List.drop_eq_getElem_cons u,dv]
theorem zjf (w:World) (B:Nat) (first:Array Value) (v:Value) (l:List QD) (hv:SL 2 (RQ first) (· <B) w v l) (hB:B<=w.heap.size) (J:∀q∈l,∀args w,(callFunc q.g args).run Tryz.prog w=.ok (.enter q.g args) w) (he:∀q∈l,q.e≠0)
 (hc:∀(k:Nat) (hk:k<l.length),(∀(j:Nat) (Y:j<l.length),j<k->l[j].ans=true)->∀w',Below w.heap.size w w'->Calls Tryz.prog l[k].g first w' fun r D=>r=.returned (.bool l[k].ans)/\Below w'.heap.size w' D):
 Calls Tryz.prog 105 #[v] w fun r w'=>my (dv l) r/\Below w.heap.size w w':=by
 have aq:∀(a:Addr) (w:World) (fn:Fn) (first cap:Array Value),(store a (.func fn first cap)).run Tryz.prog w=stored Tryz.prog w a (.func fn first cap) .plain:=fun a w fn first cap=>run_store _ w a _ _ rfl
 have HV:=ag hv;have HC:=ag hc;have HE:=ag he;have HF:=ag J;obtain ⟨ao,cl,rfl,-,hl,-⟩:=hv;unfold maxLen at hl;clear hc he J;go_enter Tryz.func105,Tryz.ntmps105;go_wp2_with fail;go_loopw [6] (fun i wr=>∃k:Nat,k<=l.length/\i=.int .i64 k/\Hid (dv l=dv (l.drop k)/\(∀(j:Nat) (Y:j<l.length),j<k->l[j].ans=true)/\Below w.heap.size w wr)) (fun i _=>l.length - (intOf i).toNat)
 case atStart=>exact ⟨0,n0q _,rfl,rfl,(fun _ _ h=>by omega),br _ _⟩
 case round=>
  obtain ⟨k,hk,rfl,G⟩:=hrel;have ah:w.heap.size<=wr.heap.size:=G.o.2.2.size;by_cases F:k<l.length
  ·obtain ⟨b,off,rfl,hb,c0,c1⟩:=(HV.o.kept (Kp.below (G.o.2.2.mono hB)) fun _ _ h=>h).atQ k F;have I:=(br wr.heap.size wr).alloc (nlq _) (.cells #[.func (.func l[k].g) first #[],.int .i64 l[k].e] 170);obtain ⟨A,O⟩:∃A,A=wr.alloc (.cells #[.func (.func l[k].g) first #[],.int .i64 l[k].e] 170):=⟨_,rfl⟩;have hz:wr.heap.size+1<=A.heap.size:=by rw [O];simp
   rw [<-O]at I;have af:Nonempty (Gr (wr.heap.size+1) A):=⟨⟨A,br _ _⟩⟩;have ai:∀g:Gr (wr.heap.size+1) A,g.w.cell? ⟨wr.heap.size,0,none⟩=some (.func (.func l[k].g) first #[]):=fun g=>(g.ok.cell (p:=⟨wr.heap.size,0,none⟩) (by simp)).trans (by rw [O];simp [go_sem]);have aj:∀g:Gr (wr.heap.size+1) A,g.w.cell? ⟨wr.heap.size,1,none⟩=some (.int .i64 l[k].e):=fun g=>(g.ok.cell (p:=⟨wr.heap.size,1,none⟩) (by simp)).trans (by rw [O];simp [go_sem]);have L:Hid (∀g:Gr (wr.heap.size+1) A,Below w.heap.size w g.w):=fun g=>G.o.2.2.trans ((I.mono ah).trans (g.ok.mono (by omega)));have W:Hid (∀g:Gr (wr.heap.size+1) A,Calls Tryz.prog l[k].g first g.w fun e D=>e=.returned (.bool l[k].ans)/\∃g':Gr (wr.heap.size+1) A,D=g'.w):=fun g=>Gr.calls g hz (HC.o k F G.o.2.1 g.w (L.o g));have ad:Hid (∀g:Gr (wr.heap.size+1) A,Calls Tryz.prog 82 #[.bool true,.int .i64 l[k].e] g.w fun e D=>e=.returned (.tuple #[])/\∃g':Gr (wr.heap.size+1) A,D=g'.w):=fun g=>(mh g.w true l[k].e).mono (by
    rintro e w' ⟨rfl,h | h⟩
    ·exact absurd h.1 (by simp)
    exact ⟨h.2,g,rfl⟩)
   have J:=HF.o l[k] (gm F);have ae:=ag (HE.o l[k] (gm F));have X:=ag (zje l k F);have aa:Hid (l[k].ans=true->∀(j:Nat) (Y:j<l.length),j<k+1->l[j].ans=true):=fun ha j Y ap=>by
    by_cases Z:j<k
    ·exact G.o.2.1 j Y Z
    have:j=k:=by omega
    subst this;exact ha
   have ak:=ag I;have al:(0:Int)<=k:=by omega
   have an:(k:Int)<l.length:=by omega
   clear I;generalize l[k]=q at*;obtain ⟨qg,V,qa⟩:=q
   dsimp only at*
   go_wp2_with fail;rw [<-O];clear O;cases qa with
   | true=>
     refine zev (wr.heap.size+1) A (by kernel_rfl) (by kernel_rfl) (br _ _) ?_
     repeat (go_big_quiet_step (first | (go_at_call 82;exact ad.o _) | (exact W.o _)))
     refine wpQuiet_nil ?_;intro _ N;obtain ⟨g,rfl⟩:=N;have u:Hid (dv l=dv (l.drop (k+1))/\(∀(j:Nat) (Y:j<l.length),j<k+1->l[j].ans=true)/\Below w.heap.size w g.w):=⟨G.o.1.trans (X.o.trans (if_pos rfl)),aa.o rfl,L.o g⟩;generalize g.w=w2 at*;clear ai aj af J;go_wp2_with fail;go_roundw
     case rel=>exact ⟨k+1,by omega,by go_num,u.o⟩
     case measure=>simp [intOf];omega
   | false=>
     have ac:Hid (∀g:Gr (wr.heap.size+1) A,Calls Tryz.prog 82 #[.bool false,.int .i64 V] g.w fun e D=>e=.panicked [wrongV V 0]/\Below w.heap.size w D):=fun g=>(mh g.w false V).mono (by
      rintro e w' ⟨h0,h | h⟩
      ·exact ⟨h.2,h0 ▸ L.o g⟩
      exact absurd h.1 (by simp))
     have u:Hid (dv l=V/\V≠0):=⟨G.o.1.trans (X.o.trans (if_neg (by simp))),ae.o⟩;refine zjd (wr.heap.size+1) A (fun E w'=>E= [wrongV V 0]/\Below w.heap.size w w') (by kernel_rfl) (by kernel_rfl) rfl (by simp only [List.dropLast];rfl) (br _ _) ?_ ?_
     ·rintro E a' w' hd ⟨rfl,hg⟩;exact ⟨hd,Or.inl ⟨by rw [u.o.1];exact u.o.2,by rw [u.o.1]⟩,hg⟩
     repeat (go_big_quiet_step (first | (exact W.o _)))
     refine wpQuiet_nil ?_;refine ⟨rfl,?_⟩;intro _ N;obtain ⟨g,rfl⟩:=N;go_simp;refine ⟨rfl,(ac.o g).mono ?_⟩;rintro e w' ⟨rfl,hg⟩;exact ⟨_,rfl,rfl,hg⟩
  have HR:Hid (dv l=0):=G.o.1.trans (by rw [List.drop_of_length_le (by omega)];rfl);go_wp2_with fail;go_end0;exact ⟨Or.inr ⟨HR.o,rfl⟩,G.o.2.2⟩
end Go.Proofs.YtjdnmblggdobgaaGreat
