import Derived.Test.YtjdnmblggdobgaaGreatJChkClassCatch
import Derived.Test.YtjdnmblggdobgaaGreatJLErrLRf4
import Derived.Test.YtjdnmblggdobgaaGreatJTk2Dies
set_option maxHeartbeats 2000000
set_option maxRecDepth 100000
namespace Go.Proofs.YtjdnmblggdobgaaGreat
open Go.RowKit
def MT (B:Nat) (T:List Nat) (w:World) (k:Nat):Prop:=B<=k/\∃c t fr,w.heap[k]? =some (.cells c t fr)/\t∈T
structure Stp (B:Nat) (T:List Nat) (w w':World):Prop where
 size:w.heap.size<=w'.heap.size
 block:∀k,MT B T w k->w'.heap[k]? =w.heap[k]?
theorem MT.lt {B:Nat} {T:List Nat} {w:World} {k:Nat} (h:MT B T w k):k<w.heap.size:=by
 obtain ⟨_,c,t,fr,h,_⟩:=h
 exact (Array.getElem?_eq_some_iff.1 h).1
theorem MT.step {B:Nat} {T:List Nat} {w w':World} {k:Nat} (h:MT B T w k) (hs:Stp B T w w'):MT B T w' k:=by
 have e:=hs.block k h
 obtain ⟨h1,c,t,fr,h2,h3⟩:=h
 exact ⟨h1,c,t,fr,e.trans h2,h3⟩
theorem MT.more {B B':Nat} {T T':List Nat} {w:World} {k:Nat} (h:MT B T w k) (hB:B'<=B) (hT:∀t∈T,t∈T'):MT B' T' w k:=by
 obtain ⟨h1,c,t,fr,h2,h3⟩:=h
 exact ⟨Nat.le_trans hB h1,c,t,fr,h2,hT t h3⟩
theorem Stp.kp {B:Nat} {T:List Nat} {w w':World} (h:Stp B T w w'):Kp (MT B T w) w w':=⟨h.size,fun b hb _=>h.block b hb⟩
theorem Stp.row {B:Nat} {T:List Nat} {w w':World} {v:Value} {B' e n len:Nat} {xs:List Value} (hg:w.grownBy w' v.ownBlock) (ho:w.ownsRow B' e n v len xs) (he:e∉T):Stp B T w w':=
 ⟨hg.size,fun k hk=>hg.block k hk.lt (fun e'=>by
  obtain ⟨_,c,t,fr,h2,h3⟩:=hk
  rcases ho.2 with ⟨rfl,_⟩ | ⟨g,cap,cur,rfl,_,h4,_⟩
  ·
   cases e'
  cases e'
  rw [h4]at h2
  cases h2
  exact he h3)⟩
theorem Stp.alloc {B:Nat} {T:List Nat} {w w':World} (h:Stp B T w w') (o:Obj):Stp B T w (w'.alloc o):=
 ⟨Nat.le_trans h.size (by simp),fun k hk=>(Below.heap_alloc _ _ _ (Nat.lt_of_lt_of_le hk.lt h.size)).trans (h.block k hk)⟩
theorem Stp.refl (B:Nat) (T:List Nat) (w:World):Stp B T w w:=⟨Nat.le_refl _,fun _ _=>rfl⟩
theorem Stp.trans {B:Nat} {T:List Nat} {a b c:World} (h:Stp B T a b) (k:Stp B T b c):Stp B T a c:=⟨Nat.le_trans h.size k.size,fun i hi=>(k.block i (hi.step h)).trans (h.block i hi)⟩
theorem Stp.set {B:Nat} {T:List Nat} {w:World} {k t:Nat} {c:Array Value} {fr:Nat×Nat} (h:w.heap[k]? =some (.cells c t fr)) (ht:t∉T) (j:Nat) (v:Value):Stp B T w (w.setCell ⟨k,j,none⟩ v):=
 ⟨by simp [World.setCell],fun i hi=>Below.heap_setCell _ _ _ _ (fun e=>by
  obtain ⟨_,c',t',fr',h2,h3⟩:=hi
  rw [show i=k from e,h]at h2
  cases h2
  exact ht h3)⟩
theorem Stp.below {B:Nat} {T:List Nat} {w w':World} (h:Below w.heap.size w w'):Stp B T w w':=⟨h.size,fun k hk=>h.block k hk.lt⟩
theorem SL.stpK {B:Nat} {T:List Nat} {w w':World} {v:Value} {l:List KindD} (h:SL 2 RK (MT B T w) w v l) (hs:Stp B T w w'):SL 2 RK (MT B T w') w' v l:=(h.keptK hs.kp).monoK fun _ hk=>hk.step hs
theorem SL.stpF {B:Nat} {T:List Nat} {w w':World} {v:Value} {l:List FieldD} (h:SL 3 RF (MT B T w) w v l) (hs:Stp B T w w'):SL 3 RF (MT B T w') w' v l:=(h.keptF hs.kp).monoF fun _ hk=>hk.step hs
theorem SL.stpH {B:Nat} {T:List Nat} {w w':World} {v:Value} {l:List HandD} (h:SL 4 RH (MT B T w) w v l) (hs:Stp B T w w'):SL 4 RH (MT B T w') w' v l:=(h.keptH hs.kp).monoH fun _ hk=>hk.step hs
theorem SL.stpM {B:Nat} {T:List Nat} {w w':World} {v:Value} {l:List MethD} (h:SL 9 RM (MT B T w) w v l) (hs:Stp B T w w'):SL 9 RM (MT B T w') w' v l:=(h.keptM hs.kp).monoM fun _ hk=>hk.step hs
theorem RM.stp {B:Nat} {T:List Nat} {w w':World} {cs:List Value} {m:MethD} (h:RM (MT B T w) w cs m) (hs:Stp B T w w'):RM (MT B T w') w' cs m:=(h.kept hs.kp).mono fun _ hk=>hk.step hs
theorem RC.stp {B:Nat} {T:List Nat} {w w':World} {cs:List Value} {m:ClassD} (h:RC (MT B T w) w cs m) (hs:Stp B T w w'):RC (MT B T w') w' cs m:=(h.kept hs.kp).mono fun _ hk=>hk.step hs
theorem ze3 {α:Type} {n:Nat} (f:α->List Value):∀(zs:List α) (k j:Nat),(∀z∈zs,(f z).length=n)->(hk:k<zs.length)->j<n->(zs.flatMap f)[k*n+j]? =(f zs[k])[j]?
 | [],k,j,_,hk,_=>by cases hk
 | z::zs,k,j,h,hk,hj=>by
   have h0:=h z (by simp)
   rw [List.flatMap_cons]
   match k,hk with
   | 0,_=>
     rw [List.getElem?_append_left (by omega)]
     simp
   | k+1,hk=>
     rw [List.getElem?_append_right (by rw [h0,Nat.add_mul];omega),h0,show (k+1)*n+j - n=k*n+j by rw [Nat.add_mul];omega]
     exact ze3 f zs k j (fun y hy=>h y (by simp [hy])) (by simpa using hk) hj
theorem ze4 {α:Type} {n:Nat} {R:(Nat->Prop)->World->List Value->α->Prop} {B e:Nat} {T:List Nat} {w:World} {v:Value} {zs:List (List Value×α)} (ho:w.ownsRow B e n v zs.length (zs.flatMap (·.1)))
 (h:∀z∈zs,z.1.length=n/\R (MT B T w) w z.1 z.2) (he:e∈T) (hl:zs.length<=maxLen):SL n R (MT B T w) w v (zs.map (·.2)):=by
 rcases ho.2 with ⟨rfl,hn⟩ | ⟨g,cap,cur,rfl,hB,hg,hc,_⟩
 ·
  have:zs= []:=List.eq_nil_of_length_eq_zero hn
  subst this
  exact ⟨none,0,rfl,Nat.le_refl _,hl,fun k hk=>by cases hk⟩
 refine ⟨some ⟨g,0,none⟩,cap,by simp,by simpa using hc,by simpa using hl,fun k hk=>?_⟩
 have hk':k<zs.length:=by simpa using hk
 have hz:=h _ (List.getElem_mem hk')
 refine ⟨g,0,zs[k].1,rfl,⟨hB,cur,e,_,hg,he⟩,(Array.getElem?_eq_some_iff.1 hg).1,hz.1,fun j hj=>?_,by simpa using hz.2⟩
 have hj':j<zs[k].1.length:=by omega
 have:=ho.cells (g:=g) rfl (k*n+j) (zs[k].1[j]) (by rw [ze3 (n:=n) (fun z:List Value×α=>z.1) zs k j (fun z hz'=>(h z hz').1) hk' hj];simp [hj'])
 rw [List.getElem?_eq_getElem hj',<-this]
 simp [Addr.add]
 split
 ·
  rename_i hz0
  rw [hz0.1,hz0.2]
 rfl
theorem ze7 {α:Type} (zs:List (List Value×α)) (c:List Value) (x:α):(zs++ [(c,x)]).flatMap (·.1)=zs.flatMap (·.1)++c:=by simp
end Go.Proofs.YtjdnmblggdobgaaGreat
namespace Go.Proofs.YtjdnmblggdobgaaGreat
open Go.RowKit Go.Maps
theorem zjc {P:Program} {id:Nat} {Q:Exit->Act->World->Prop} {a:Act} {w:World} {L l:List Oper} {z:Oper} (B:Nat) (W:World) (R:List PanicEntry->World->Prop) (hm:P.follows .mixedOrders=true) (hB:Region.lexB .any L.toArray=true)
 (hz:L.getLast? =some z) (hl:L.dropLast=l) (hw:Below B W w)
 (hR:∀chain a' w,a'.defers=a.defers->R chain w->Q (.panic chain) a' w)
 (h:wpQuiet P L.toArray (fun w'=>∃g:Gr B W,w'=g.w) (fun a'=>DiesIn P L.toArray (fun w'=>∃g:Gr B W,w'=g.w) R z a') l a):(Code.region id L.toArray true).wp P Q a w:=by
 have e:L=l++ [z]:=by
  obtain ⟨ys,e⟩:=List.getLast?_eq_some_iff.1 hz
  rw [<-hl,e,List.dropLast_concat]
 subst e
 simp only [Region.lexB,Bool.and_eq_true]at hB
 refine wp_region_any hm (zi7 (R:=R) (Q:=fun _=>False) (C:=fun w'=>∃g:Gr B W,w'=g.w) hR (fun _ _ _ h=>h.elim) _ _ _ _ rfl ⟨⟨_,hw.drew⟩,rfl⟩ ?_)
 have:=zi9 (Q:=fun _=>False) (C:=fun w'=>∃g:Gr B W,w'=g.w) (R:=R) (md:=.any) (z:=z) hB.1 l 0 (Array.replicate (l++ [z]).toArray.size false) a (by simp) (by simpa using hB.2) h
 simpa using this
structure QD where
 g:Nat
 e:Int
 ans:Bool
def RQ (first:Array Value) (_:Nat->Prop) (_:World) (cs:List Value) (q:QD):Prop:=cs= [.func (.func q.g) first #[],.int .i64 q.e]
theorem SL.atQ {first:Array Value} {M:Nat->Prop} {w:World} {ao:Option Addr} {len cap:Nat} {l:List QD} (h:SL 2 (RQ first) M w (.slice ao len cap) l) (k:Nat) (hk:k<l.length):
 ∃b off,ao=some ⟨b,off,none⟩/\b<w.heap.size/\w.cell? ⟨b,off+k*2,none⟩=some (.func (.func l[k].g) first #[])/\w.cell? ⟨b,off+k*2+1,none⟩=some (.int .i64 l[k].e):=by
 obtain ⟨b,off,cs,e,_,hb,_,hc,rfl⟩:=h.at k hk
 exact ⟨b,off,e,hb,hc 0 (by decide),hc 1 (by decide)⟩
def askRes:List QD->Int
 | []=>0
 | q::l=>if q.ans then askRes l else q.e
theorem zjd (l:List QD) (k:Nat) (hk:k<l.length):askRes (l.drop k)=if l[k].ans then askRes (l.drop (k+1)) else l[k].e:=by
 rw [List.drop_eq_getElem_cons hk,askRes]
theorem zje (w:World) (B:Nat) (first:Array Value) (v:Value) (l:List QD) (hv:SL 2 (RQ first) (· <B) w v l) (hB:B<=w.heap.size) (hcf:∀q∈l,∀args w,(callFunc q.g args).run Tryz.prog w=.ok (.enter q.g args) w) (he:∀q∈l,q.e≠0)
 (hc:∀(k:Nat) (hk:k<l.length),(∀(j:Nat) (hj:j<l.length),j<k->l[j].ans=true)->∀w',Below w.heap.size w w'->Calls Tryz.prog l[k].g first w' fun r w''=>r=.returned (.bool l[k].ans)/\Below w'.heap.size w' w''):
 Calls Tryz.prog 105 #[v] w fun r w'=>ChkOut (askRes l) r/\Below w.heap.size w w':=by
 have hsf:∀(a:Addr) (w:World) (fn:Fn) (first cap:Array Value),(store a (.func fn first cap)).run Tryz.prog w=stored Tryz.prog w a (.func fn first cap) .plain:=fun a w fn first cap=>run_store _ w a _ _ rfl
 have HV:=mk0 hv
 have HC:=mk0 hc
 have HE:=mk0 he
 have HF:=mk0 hcf
 obtain ⟨ao,cl,rfl,-,hl,-⟩:=hv
 unfold maxLen at hl
 clear hc he hcf
 go_enter Tryz.func105,Tryz.ntmps105
 go_wp2_with fail
 go_loopw [6] (fun i wr=>∃k:Nat,k<=l.length/\i=.int .i64 k/\Hid (askRes l=askRes (l.drop k)/\(∀(j:Nat) (hj:j<l.length),j<k->l[j].ans=true)/\Below w.heap.size w wr)) (fun i _=>l.length - (intOf i).toNat)
 case atStart=>exact ⟨0,Nat.zero_le _,rfl,rfl,(fun _ _ h=>by omega),Below.refl _ _⟩
 case round=>
  obtain ⟨k,hk,rfl,HQ⟩:=hrel
  have hsr:w.heap.size<=wr.heap.size:=HQ.out.2.2.size
  by_cases hlt:k<l.length
  ·
   obtain ⟨b,off,rfl,hb,c0,c1⟩:=(HV.out.kept (Kp.below (HQ.out.2.2.mono hB)) fun _ _ h=>h).atQ k hlt
   have hB1:=(Below.refl wr.heap.size wr).alloc (Nat.le_refl _) (.cells #[.func (.func l[k].g) first #[],.int .i64 l[k].e] 170)
   obtain ⟨W0,hW⟩:∃W0,W0=wr.alloc (.cells #[.func (.func l[k].g) first #[],.int .i64 l[k].e] 170):=⟨_,rfl⟩
   have hz:wr.heap.size+1<=W0.heap.size:=by rw [hW];simp
   rw [<-hW]at hB1
   have hne:Nonempty (Gr (wr.heap.size+1) W0):=⟨⟨W0,Below.refl _ _⟩⟩
   have ky0:∀g:Gr (wr.heap.size+1) W0,g.w.cell? ⟨wr.heap.size,0,none⟩=some (.func (.func l[k].g) first #[]):=fun g=>(g.ok.cell (p:=⟨wr.heap.size,0,none⟩) (by simp)).trans (by rw [hW];simp [go_sem])
   have ky1:∀g:Gr (wr.heap.size+1) W0,g.w.cell? ⟨wr.heap.size,1,none⟩=some (.int .i64 l[k].e):=fun g=>(g.ok.cell (p:=⟨wr.heap.size,1,none⟩) (by simp)).trans (by rw [hW];simp [go_sem])
   have HBG:Hid (∀g:Gr (wr.heap.size+1) W0,Below w.heap.size w g.w):=fun g=>HQ.out.2.2.trans ((hB1.mono hsr).trans (g.ok.mono (by omega)))
   have HCX:Hid (∀g:Gr (wr.heap.size+1) W0,Calls Tryz.prog l[k].g first g.w fun e w''=>e=.returned (.bool l[k].ans)/\∃g':Gr (wr.heap.size+1) W0,w''=g'.w):=fun g=>Gr.calls g hz (HC.out k hlt HQ.out.2.1 g.w (HBG.out g))
   have HDY:Hid (∀g:Gr (wr.heap.size+1) W0,Calls Tryz.prog 82 #[.bool true,.int .i64 l[k].e] g.w fun e w''=>e=.returned (.tuple #[])/\∃g':Gr (wr.heap.size+1) W0,w''=g'.w):=fun g=>(dm0 g.w true l[k].e).mono (by
    rintro e w' ⟨rfl,h | h⟩
    ·
     exact absurd h.1 (by simp)
    exact ⟨h.2,g,rfl⟩)
   have hcf:=HF.out l[k] (List.getElem_mem hlt)
   have HEK:=mk0 (HE.out l[k] (List.getElem_mem hlt))
   have HST:=mk0 (zjd l k hlt)
   have HAN:Hid (l[k].ans=true->∀(j:Nat) (hj:j<l.length),j<k+1->l[j].ans=true):=fun ha j hj hjk=>by
    by_cases hjk':j<k
    ·
     exact HQ.out.2.1 j hj hjk'
    have:j=k:=by omega
    subst this
    exact ha
   have HB1:=mk0 hB1
   have h00:(0:Int)<=k:=by omega
   have h01:(k:Int)<l.length:=by omega
   clear hB1
   generalize l[k]=q at*
   obtain ⟨qg,qe,qa⟩:=q
   dsimp only at*
   go_wp2_with fail
   rw [<-hW]
   clear hW
   cases qa with
   | true=>
     refine zev (wr.heap.size+1) W0 (by kernel_rfl) (by kernel_rfl) (Below.refl _ _) ?_
     repeat (go_big_quiet_step (first | (go_at_call 82;exact HDY.out _) | (exact HCX.out _)))
     refine wpQuiet_nil ?_
     intro _ hw'
     obtain ⟨g,rfl⟩:=hw'
     have HFIN:Hid (askRes l=askRes (l.drop (k+1))/\(∀(j:Nat) (hj:j<l.length),j<k+1->l[j].ans=true)/\Below w.heap.size w g.w):=⟨HQ.out.1.trans (HST.out.trans (if_pos rfl)),HAN.out rfl,HBG.out g⟩
     generalize g.w=w2 at*
     clear ky0 ky1 hne hcf
     go_wp2_with fail
     go_roundw
     case rel=>exact ⟨k+1,by omega,by go_num,HFIN.out⟩
     case measure=>simp [intOf];omega
   | false=>
     have HDN:Hid (∀g:Gr (wr.heap.size+1) W0,Calls Tryz.prog 82 #[.bool false,.int .i64 qe] g.w fun e w''=>e=.panicked [wrongV qe 0]/\Below w.heap.size w w''):=fun g=>(dm0 g.w false qe).mono (by
      rintro e w' ⟨h0,h | h⟩
      ·
       exact ⟨h.2,h0 ▸ HBG.out g⟩
      exact absurd h.1 (by simp))
     have HFIN:Hid (askRes l=qe/\qe≠0):=⟨HQ.out.1.trans (HST.out.trans (if_neg (by simp))),HEK.out⟩
     refine zjc (wr.heap.size+1) W0 (fun chain w'=>chain= [wrongV qe 0]/\Below w.heap.size w w') (by kernel_rfl) (by kernel_rfl) rfl (by simp only [List.dropLast];rfl) (Below.refl _ _) ?_ ?_
     ·
      rintro chain a' w' hd ⟨rfl,hg⟩
      exact ⟨hd,Or.inl ⟨by rw [HFIN.out.1];exact HFIN.out.2,by rw [HFIN.out.1]⟩,hg⟩
     repeat (go_big_quiet_step (first | (exact HCX.out _)))
     refine wpQuiet_nil ?_
     refine ⟨rfl,?_⟩
     intro _ hw'
     obtain ⟨g,rfl⟩:=hw'
     go_simp
     refine ⟨rfl,(HDN.out g).mono ?_⟩
     rintro e w' ⟨rfl,hg⟩
     exact ⟨_,rfl,rfl,hg⟩
  have HR:Hid (askRes l=0):=HQ.out.1.trans (by rw [List.drop_of_length_le (by omega)];rfl)
  go_wp2_with fail
  go_end0
  exact ⟨Or.inr ⟨HR.out,rfl⟩,HQ.out.2.2⟩
end Go.Proofs.YtjdnmblggdobgaaGreat
