import Derived.Test.YtjdnmblggdobgaaGreatJLErrLRf4
set_option maxHeartbeats 2000000
set_option maxRecDepth 100000
namespace Go.Proofs.YtjdnmblggdobgaaGreat
open Go.RowKit Tryz
def MT (B:Nat) (T:List Nat) (w:World) (k:Nat):Prop:=B<=k/\∃c t fr,w.heap[k]? =some (.cells c t fr)/\t∈T
structure Stp (B:Nat) (T:List Nat) (w w':World):Prop where
 size:w.heap.size<=w'.heap.size
 block:∀k,MT B T w k->w'.heap[k]? =w.heap[k]?
theorem MT.lt {B:Nat} {T:List Nat} {w:World} {k:Nat} (h:MT B T w k):k<w.heap.size:=by obtain ⟨_,c,t,A,h,_⟩:=h;exact (Array.getElem?_eq_some_iff.1 h).1
theorem MT.step {B:Nat} {T:List Nat} {w w':World} {k:Nat} (h:MT B T w k) (F:Stp B T w w'):MT B T w' k:=by have e:=F.block k h;obtain ⟨h1,c,t,A,D,E⟩:=h;exact ⟨h1,c,t,A,e.trans D,E⟩
theorem MT.more {B B':Nat} {T T':List Nat} {w:World} {k:Nat} (h:MT B T w k) (F:B'<=B) (G:∀t∈T,t∈T'):MT B' T' w k:=by obtain ⟨h1,c,t,A,D,E⟩:=h;exact ⟨lt3 F h1,c,t,A,D,G t E⟩
theorem Stp.kp {B:Nat} {T:List Nat} {w w':World} (h:Stp B T w w'):Kp (MT B T w) w w':=⟨h.size,fun b A _=>h.block b A⟩
theorem Stp.row {B:Nat} {T:List Nat} {w w':World} {v:Value} {B' e n len:Nat} {xs:List Value} (E:w.grownBy w' v.ownBlock) (N:w.ownsRow B' e n v len xs) (L:e∉T):Stp B T w w':=
 ⟨E.size,fun k F=>E.block k F.lt (fun A=>by
  obtain ⟨_,c,t,O,D,I⟩:=F;rcases N.2 with ⟨rfl,_⟩ | ⟨g,cap,G,rfl,_,J,_⟩
  ·cases A
  cases A;rw [J]at D;cases D;exact L I)⟩
theorem Stp.alloc {B:Nat} {T:List Nat} {w w':World} (h:Stp B T w w') (o:Obj):Stp B T w (w'.alloc o):=
 ⟨lt3 h.size (by simp),fun k A=>(Below.heap_alloc _ _ _ (ll3 A.lt h.size)).trans (h.block k A)⟩
theorem Stp.refl (B:Nat) (T:List Nat) (w:World):Stp B T w w:=⟨nlq _,fun _ _=>rfl⟩
theorem Stp.trans {B:Nat} {T:List Nat} {a b c:World} (h:Stp B T a b) (k:Stp B T b c):Stp B T a c:=⟨lt3 h.size k.size,fun i hi=>(k.block i (hi.step h)).trans (h.block i hi)⟩
theorem Stp.set {B:Nat} {T:List Nat} {w:World} {k t:Nat} {c:Array Value} {D:Nat×Nat} (h:w.heap[k]? =some (.cells c t D)) (G:t∉T) (j:Nat) (v:Value):Stp B T w (w.setCell ⟨k,j,none⟩ v):=
 ⟨by simp [World.setCell],fun i hi=>Below.heap_setCell _ _ _ _ (fun e=>by
  obtain ⟨_,I,J,E,A,F⟩:=hi;rw [show i=k from e,h]at A;cases A;exact G F)⟩
theorem Stp.below {B:Nat} {T:List Nat} {w w':World} (h:Bl w w'):Stp B T w w':=⟨h.size,fun k A=>h.block k A.lt⟩
theorem SL.stpK {B:Nat} {T:List Nat} {w w':World} {v:Value} {l:List fm} (h:SL 2 RK (MT B T w) w v l) (A:Stp B T w w'):SL 2 RK (MT B T w') w' v l:=(h.keptK A.kp).monoK fun _ D=>D.step A
theorem SL.stpF {B:Nat} {T:List Nat} {w w':World} {v:Value} {l:List bq} (h:SL 3 RF (MT B T w) w v l) (A:Stp B T w w'):SL 3 RF (MT B T w') w' v l:=(h.keptF A.kp).monoF fun _ D=>D.step A
theorem SL.stpH {B:Nat} {T:List Nat} {w w':World} {v:Value} {l:List iz} (h:SL 4 RH (MT B T w) w v l) (A:Stp B T w w'):SL 4 RH (MT B T w') w' v l:=(h.keptH A.kp).monoH fun _ D=>D.step A
theorem SL.stpM {B:Nat} {T:List Nat} {w w':World} {v:Value} {l:List d9} (h:SL 9 RM (MT B T w) w v l) (A:Stp B T w w'):SL 9 RM (MT B T w') w' v l:=(h.keptM A.kp).monoM fun _ D=>D.step A
theorem RM.stp {B:Nat} {T:List Nat} {w w':World} {A:List Value} {m:d9} (h:RM (MT B T w) w A m) (D:Stp B T w w'):RM (MT B T w') w' A m:=(h.kept D.kp).mono fun _ E=>E.step D
theorem RC.stp {B:Nat} {T:List Nat} {w w':World} {A:List Value} {m:aq} (h:RC (MT B T w) w A m) (D:Stp B T w w'):RC (MT B T w') w' A m:=(h.kept D.kp).mono fun _ E=>E.step D
theorem A5 {α:Type} {n:Nat} (f:α->List Value):∀(zs:List α) (k j:Nat),(∀z∈zs,(f z).length=n)->(hk:k<zs.length)->j<n->(zs.flatMap f)[k*n+j]? =(f zs[k])[j]?
 | [],k,j,_,hk,_=>by cases hk
 | z::zs,k,j,h,hk,hj=>by
   have h0:=h z (by simp);rw [List.flatMap_cons];match k,hk with
   | 0,_=>
     rw [List.getElem?_append_left (by omega)];simp
   | k+1,hk=>
     rw [List.getElem?_append_right (by rw [h0,Nat.add_mul];omega),h0,show (k+1)*n+j - n=k*n+j by rw [Nat.add_mul];omega];exact A5 f zs k j (fun y A=>h y (by simp [A])) (by simpa using hk) hj
theorem vz {α:Type} {n:Nat} {R:(Nat->Prop)->World->List Value->α->Prop} {B e:Nat} {T:List Nat} {w:World} {v:Value} {zs:List (List Value×α)} (L:w.ownsRow B e n v zs.length (zs.flatMap (·.1)))
 (h:∀z∈zs,z.1.length=n/\R (MT B T w) w z.1 z.2) (V:e∈T) (J:zs.length<=maxLen):SL n R (MT B T w) w v (zs.map (·.2)):=by
 rcases L.2 with ⟨rfl,X⟩ | ⟨g,cap,E,rfl,O,I,hc,_⟩
 ·have:zs= []:=List.eq_nil_of_length_eq_zero X;subst this;exact ⟨none,0,rfl,nlq _,J,fun k F=>by cases F⟩
 refine ⟨some ⟨g,0,none⟩,cap,by simp,by simpa using hc,by simpa using J,fun k F=>?_⟩;have D:k<zs.length:=by simpa using F
 have N:=h _ (gm D);refine ⟨g,0,zs[k].1,rfl,⟨O,E,e,_,I,V⟩,(Array.getElem?_eq_some_iff.1 I).1,N.1,fun j W=>?_,by simpa using N.2⟩;have A:j<zs[k].1.length:=by omega
 have:=L.cells (g:=g) rfl (k*n+j) (zs[k].1[j]) (by rw [A5 (n:=n) (fun z:List Value×α=>z.1) zs k j (fun z G=>(h z G).1) D W];simp [A]);rw [List.getElem?_eq_getElem A,<-this];simp [Addr.add];split
 ·rename_i hz0;rw [hz0.1,hz0.2]
 rfl
theorem Ej {α:Type} (zs:List (List Value×α)) (c:List Value) (x:α):(zs++ [(c,x)]).flatMap (·.1)=zs.flatMap (·.1)++c:=by simp
end Go.Proofs.YtjdnmblggdobgaaGreat
namespace Go.Proofs.YtjdnmblggdobgaaGreat
open Go.RowKit Go.Maps Tryz
theorem zjd {P:Program} {N:Nat} {Q:Exit->Act->World->Prop} {a:Act} {w:World} {L l:List Oper} {z:Oper} (B:Nat) (W:World) (R:List PanicEntry->World->Prop) (G:P.follows .mixedOrders=true) (D:Region.lexB .any L.toArray=true)
 (J:L.getLast? =some z) (F:L.dropLast=l) (I:Below B W w)
 (E:∀chain A w,A.defers=a.defers->R chain w->Q (.panic chain) A w)
 (h:wpQuiet P L.toArray (fun w'=>∃g:Gr B W,w'=g.w) (fun A=>rh P L.toArray (fun w'=>∃g:Gr B W,w'=g.w) R z A) l a):(Code.region N L.toArray true).wp P Q a w:=by
 have e:L=l++ [z]:=by obtain ⟨O,e⟩:=List.getLast?_eq_some_iff.1 J;rw [<-F,e,List.dropLast_concat]
 subst e;simp only [Region.lexB,Bool.and_eq_true]at D;refine wp_region_any G (zi8 (R:=R) (Q:=fun _=>False) (C:=fun w'=>∃g:Gr B W,w'=g.w) E (fun _ _ _ h=>h.elim) _ _ _ _ rfl ⟨⟨_,I.drew⟩,rfl⟩ ?_);have:=zja (Q:=fun _=>False) (C:=fun w'=>∃g:Gr B W,w'=g.w) (R:=R) (md:=.any) (z:=z) D.1 l 0 (Array.replicate (l++ [z]).toArray.size false) a (by simp) (by simpa using D.2) h;simpa using this
structure QD where
 g:Nat
 e:Int
 ans:Bool
def RQ (first:Array Value) (_:Nat->Prop) (_:World) (cs:List Value) (q:QD):Prop:=cs= [.func (.func q.g) first #[],.i q.e]
theorem SL.atQ {first:Array Value} {M:Nat->Prop} {w:World} {A:Option Addr} {len cap:Nat} {l:List QD} (h:SL 2 (RQ first) M w (.slice A len cap) l) (k:Nat) (E:k<l.length):
 ∃b off,A=some ⟨b,off,none⟩/\b<w.heap.size/\w.cell? ⟨b,off+k*2,none⟩=some (.func (.func l[k].g) first #[])/\w.cell? ⟨b,off+k*2+1,none⟩=some (.i l[k].e):=by
 obtain ⟨b,off,F,e,_,D,_,hc,rfl⟩:=h.at k E;exact ⟨b,off,e,D,hc 0 (by decide),hc 1 (by decide)⟩
def dx:List QD->Int
 | []=>0
 | q::l=>if q.ans then dx l else q.e
theorem zje (l:List QD) (k:Nat) (A:k<l.length):dx (l.drop k)=if l[k].ans then dx (l.drop (k+1)) else l[k].e:=by rw [List.drop_eq_getElem_cons A,dx]
theorem zjf (w:World) (B:Nat) (first:Array Value) (v:Value) (l:List QD) (hv:SL 2 (RQ first) (· <B) w v l) (hB:B<=w.heap.size) (L:∀q∈l,∀args w,(callFunc q.g args).run prog w=.ok (.enter q.g args) w) (he:∀q∈l,q.e≠0)
 (hc:∀(k:Nat) (hk:k<l.length),(∀(j:Nat) (Z:j<l.length),j<k->l[j].ans=true)->∀w',Bl w w'->Calls prog l[k].g first w' fun r E=>r=.returned (.bool l[k].ans)/\Bl w' E):
 Calls prog 105 #[v] w fun r w'=>pc (dx l) r/\Bl w w':=by
 have aw:∀(a:Addr) (w:World) (fn:Fn) (first cap:Array Value),(store a (.func fn first cap)).run prog w=stored prog w a (.func fn first cap) .plain:=fun a w fn first cap=>run_store _ w a _ _ rfl
 have HV:=ag hv;have HC:=ag hc;have HE:=ag he;have HF:=ag L;obtain ⟨ao,cl,rfl,-,hl,-⟩:=hv;unfold maxLen at hl;clear hc he L;go_enter func105,ntmps105;go_wp2_with fail;go_loopw [6] (fun i wr=>∃k:Nat,k<=l.length/\i=.i k/\Hid (dx l=dx (l.drop k)/\(∀(j:Nat) (Z:j<l.length),j<k->l[j].ans=true)/\Bl w wr)) (fun i _=>l.length - (intOf i).toNat)
 case atStart=>exact ⟨0,n0q _,rfl,rfl,(fun _ _ h=>by omega),br _ _⟩
 case round=>
  obtain ⟨k,hk,rfl,I⟩:=hrel;have aj:w.heap.size<=wr.heap.size:=I.o.2.2.size;by_cases G:k<l.length
  ·obtain ⟨b,off,rfl,hb,c0,c1⟩:=(HV.o.kept (Kp.below (I.o.2.2.mono hB)) fun _ _ h=>h).atQ k G;have J:=(br wr.heap.size wr).alloc (nlq _) (.cells #[.func (.func l[k].g) first #[],.i l[k].e] 170);obtain ⟨D,V⟩:∃D,D=wr.alloc (.cells #[.func (.func l[k].g) first #[],.i l[k].e] 170):=⟨_,rfl⟩;have hz:wr.heap.size+1<=D.heap.size:=by rw [V];simp
   rw [<-V]at J;have ai:Nonempty (Gr (wr.heap.size+1) D):=⟨⟨D,br _ _⟩⟩;have ak:∀g:Gr (wr.heap.size+1) D,g.w.cell? ⟨wr.heap.size,0,none⟩=some (.func (.func l[k].g) first #[]):=fun g=>(g.ok.cell (p:=⟨wr.heap.size,0,none⟩) (by simp)).trans (by rw [V];simp [go_sem]);have al:∀g:Gr (wr.heap.size+1) D,g.w.cell? ⟨wr.heap.size,1,none⟩=some (.i l[k].e):=fun g=>(g.ok.cell (p:=⟨wr.heap.size,1,none⟩) (by simp)).trans (by rw [V];simp [go_sem]);have N:Hid (∀g:Gr (wr.heap.size+1) D,Bl w g.w):=fun g=>I.o.2.2.trans ((J.mono aj).trans (g.ok.mono (by omega)));have X:Hid (∀g:Gr (wr.heap.size+1) D,Calls prog l[k].g first g.w fun e E=>e=.returned (.bool l[k].ans)/\∃g':Gr (wr.heap.size+1) D,E=g'.w):=fun g=>Gr.calls g hz (HC.o k G I.o.2.1 g.w (N.o g));have af:Hid (∀g:Gr (wr.heap.size+1) D,Calls prog 82 #[.bool true,.i l[k].e] g.w fun e E=>e=.returned (.tuple #[])/\∃g':Gr (wr.heap.size+1) D,E=g'.w):=fun g=>(od g.w true l[k].e).mono (by
    rintro e w' ⟨rfl,h | h⟩
    ·exact absurd h.1 (by simp)
    exact ⟨h.2,g,rfl⟩)
   have L:=HF.o l[k] (gm G);have ah:=ag (HE.o l[k] (gm G));have Y:=ag (zje l k G);have ac:Hid (l[k].ans=true->∀(j:Nat) (Z:j<l.length),j<k+1->l[j].ans=true):=fun ha j Z av=>by
    by_cases aa:j<k
    ·exact I.o.2.1 j Z aa
    have:j=k:=by omega
    subst this;exact ha
   have an:=ag J;have ap:(0:Int)<=k:=by omega
   have au:(k:Int)<l.length:=by omega
   clear J;generalize l[k]=q at*;obtain ⟨qg,W,qa⟩:=q
   dsimp only at*
   go_wp2_with fail;rw [<-V];clear V;cases qa with
   | true=>
     refine Ch (wr.heap.size+1) D (by kernel_rfl) (by kernel_rfl) (br _ _) ?_
     repeat (go_big_quiet_step (first | (go_at_call 82;exact af.o _) | (exact X.o _)))
     refine wpQuiet_nil ?_;intro _ O;obtain ⟨g,rfl⟩:=O;have A:Hid (dx l=dx (l.drop (k+1))/\(∀(j:Nat) (Z:j<l.length),j<k+1->l[j].ans=true)/\Bl w g.w):=⟨I.o.1.trans (Y.o.trans (if_pos rfl)),ac.o rfl,N.o g⟩;generalize g.w=w2 at*;clear ak al ai L;go_wp2_with fail;go_roundw
     case rel=>exact ⟨k+1,by omega,by go_num,A.o⟩
     case measure=>simp [intOf];omega
   | false=>
     have ad:Hid (∀g:Gr (wr.heap.size+1) D,Calls prog 82 #[.bool false,.i W] g.w fun e E=>e=.panicked [wrongV W 0]/\Bl w E):=fun g=>(od g.w false W).mono (by
      rintro e w' ⟨h0,h | h⟩
      ·exact ⟨h.2,h0 ▸ N.o g⟩
      exact absurd h.1 (by simp))
     have A:Hid (dx l=W/\W≠0):=⟨I.o.1.trans (Y.o.trans (if_neg (by simp))),ah.o⟩;refine zjd (wr.heap.size+1) D (fun F w'=>F= [wrongV W 0]/\Bl w w') (by kernel_rfl) (by kernel_rfl) rfl (by simp only [List.dropLast];rfl) (br _ _) ?_ ?_
     ·rintro F a' w' hd ⟨rfl,hg⟩;exact ⟨hd,Or.inl ⟨by rw [A.o.1];exact A.o.2,by rw [A.o.1]⟩,hg⟩
     repeat (go_big_quiet_step (first | (exact X.o _)))
     refine wpQuiet_nil ?_;refine ⟨rfl,?_⟩;intro _ O;obtain ⟨g,rfl⟩:=O;go_simp;refine ⟨rfl,(ad.o g).mono ?_⟩;rintro e w' ⟨rfl,hg⟩;exact ⟨_,rfl,rfl,hg⟩
  have HR:Hid (dx l=0):=I.o.1.trans (by rw [List.drop_of_length_le (by omega)];rfl);go_wp2_with fail;go_end0;exact ⟨Or.inr ⟨HR.o,rfl⟩,I.o.2.2⟩
end Go.Proofs.YtjdnmblggdobgaaGreat
