import Derived.Test.YtjdnmblggdobgaaGreatJLHasLAsk
set_option maxHeartbeats 2000000
namespace Go.Proofs.YtjdnmblggdobgaaGreat
open Go.RowKit Tryz List World
variable {α:Type} {f:α->ByteArray} {l:List α} {k:Nat} (w:World) (B O E:Nat) (x y:bv) (u v:Value)
theorem SL.take {n:Nat} {R:(Nat->Prop)->World->List Value->α->Prop} {M:Nat->Prop} {w:World} {ao:Option Addr} {len cap:Nat} {l:List α} (h:SL n R M w (.slice ao len cap) l) (k:Nat) (W:k<=l.length):SL n R M w (.slice ao k cap) (l.take k):=by
 obtain ⟨D,A,e,h1,O,F⟩:=h;cases e;have J:(l.take k).length=k:=by simp;omega
 refine ⟨ao,cap,by rw [J],by omega,by omega,fun j V=>?_⟩;obtain ⟨b,off,E,e,G,I,L,hc,N⟩:=F j (by omega);exact ⟨b,off,E,e,G,I,L,hc,by rw [getElem_take];exact N⟩
theorem zfb (l m:List ByteArray) (h:dp (l++m)=true):dp l=true:=by
 induction m using Ei with
 | h0=>simpa using h
 | h1 m x ih=>
   rw [<-append_assoc,za4]at h;simp only [Bool.and_eq_true]at h;exact ih h.1
theorem zfc (D:k<l.length) (h:(l.take k).any (fun y=>decide (f l[k]=f y))=true):dp (l.map f)=false:=by
 cases hd:dp (l.map f)
 ·rfl
 have e:l=l.take (k+1)++l.drop (k+1):=(take_append_drop _ _).symm;rw [e,map_append]at hd;have h1:=zfb _ _ hd;rw [take_succ_eq_append_getElem D,map_append,map_cons,map_nil,za4]at h1;simp only [Bool.and_eq_true,all_map]at h1;rw [any_eq_true]at h;obtain ⟨y,E,A⟩:=h;have:=all_eq_true.1 h1.2 y E;simp at this A;exact absurd A this
theorem zfd (D:k<l.length) (A:dp ((l.take k).map f)=true) (h:(l.take k).any (fun y=>decide (f l[k]=f y))=false):dp ((l.take (k+1)).map f)=true:=by rw [take_succ_eq_append_getElem D,map_append,map_cons,map_nil,za4,A,Bool.true_and,all_map,all_eq_true];intro y E;rw [any_eq_false]at h;have:=h y E;simpa using this
theorem zfe (A:Bz B w u y):Calls prog 250 #[u] w fun r w'=>r=.returned (.string y.name)/\Bl w w':=by
 obtain ⟨rfl,-,-⟩:=A;go_enter func250,ntmps250
 go_wp21
 go_ret;exact ⟨rfl,(br _ _).alloc (nlq _) _⟩
theorem zff (hu:Bz B w u y) (hX:Bz B w (.agg #[.string x.name,.i x.kind.kind,.string x.kind.dj]) x) (V:B<=w.heap.size) (hn:w.cell? ⟨O,0,none⟩=some (.func (.func 250) #[] #[])) (L:w.cell? ⟨E,0,none⟩=some (.string x.name)) (W:w.cell? ⟨E,1,none⟩=some (.i x.kind.kind)) (X:w.cell? ⟨E,2,none⟩=some (.string x.kind.dj)):
 Calls prog 300 #[u,.p O,.p E] w fun r w'=>r=.returned (.bool (decide (x.name=y.name)))/\Bl w w':=by
 have hU:=hu;obtain ⟨rfl,-,-⟩:=hu;have ac:O<w.heap.size:=block_lt_of_cell? w _ hn;have F:E<w.heap.size:=block_lt_of_cell? w _ L;have A:=(br w.heap.size w).alloc (nlq _) (.cells #[.string y.name,.i y.kind.kind,.string y.kind.dj] 125);have G:=hU.below (A.mono V);have J:=hX.below (A.mono V);obtain ⟨D,I⟩:∃D,D=w.alloc (.cells #[.string y.name,.i y.kind.kind,.string y.kind.dj] 125):=⟨_,rfl⟩;have hz:w.heap.size+1<=D.heap.size:=by rw [I];simp
 rw [<-I]at A G J;have ad:Nonempty (Gr (w.heap.size+1) D):=⟨⟨D,br _ _⟩⟩;have kn:∀g:Gr (w.heap.size+1) D,g.w.cell? ⟨O,0,none⟩=some (.func (.func 250) #[] #[]):=fun g=>(g.ok.cell (p:=⟨O,0,none⟩) (by simp;omega)).trans ((A.cell (p:=⟨O,0,none⟩) ac).trans hn);have af:∀g:Gr (w.heap.size+1) D,g.w.cell? ⟨E,0,none⟩=some (.string x.name):=fun g=>(g.ok.cell (p:=⟨E,0,none⟩) (by simp;omega)).trans ((A.cell (p:=⟨E,0,none⟩) F).trans L);have ah:∀g:Gr (w.heap.size+1) D,g.w.cell? ⟨E,1,none⟩=some (.i x.kind.kind):=fun g=>(g.ok.cell (p:=⟨E,1,none⟩) (by simp;omega)).trans ((A.cell (p:=⟨E,1,none⟩) F).trans W);have ai:∀g:Gr (w.heap.size+1) D,g.w.cell? ⟨E,2,none⟩=some (.string x.kind.dj):=fun g=>(g.ok.cell (p:=⟨E,2,none⟩) (by simp;omega)).trans ((A.cell (p:=⟨E,2,none⟩) F).trans X);have ak:∀g:Gr (w.heap.size+1) D,g.w.cell? ⟨w.heap.size,0,none⟩=some (.string y.name):=fun g=>(g.ok.cell (p:=⟨w.heap.size,0,none⟩) (by simp)).trans (by rw [I];simp [go_sem]);have al:∀g:Gr (w.heap.size+1) D,g.w.cell? ⟨w.heap.size,1,none⟩=some (.i y.kind.kind):=fun g=>(g.ok.cell (p:=⟨w.heap.size,1,none⟩) (by simp)).trans (by rw [I];simp [go_sem]);have am:∀g:Gr (w.heap.size+1) D,g.w.cell? ⟨w.heap.size,2,none⟩=some (.string y.kind.dj):=fun g=>(g.ok.cell (p:=⟨w.heap.size,2,none⟩) (by simp)).trans (by rw [I];simp [go_sem]);have Z:Hid (∀g:Gr (w.heap.size+1) D,Calls prog 250 #[.agg #[.string x.name,.i x.kind.kind,.string x.kind.dj]] g.w fun e N=>e=.returned (.string x.name)/\∃g':Gr (w.heap.size+1) D,N=g'.w):=fun g=>Gr.calls g hz (zfe g.w B x _ (J.below (g.ok.mono (by omega))));have aa:Hid (∀g:Gr (w.heap.size+1) D,Calls prog 250 #[.agg #[.string y.name,.i y.kind.kind,.string y.kind.dj]] g.w fun e N=>e=.returned (.string y.name)/\∃g':Gr (w.heap.size+1) D,N=g'.w):=fun g=>Gr.calls g hz (zfe g.w B y _ (G.below (g.ok.mono (by omega))));have Y:=aj A;clear hU hX G J A hn L W X;go_enter func300,ntmps300
 go_wp21
 rw [<-I];clear I;refine Cz (w.heap.size+1) D (by kernel_rfl) (by kernel_rfl) (br _ _) ?_
 repeat (go_big_quiet_step (first | (go_at_call_of 250 x;exact Z.o _) | (go_at_call_of 250 y;exact aa.o _)))
 refine wpQuiet_nil ?_;intro _ ae;obtain ⟨g,rfl⟩:=ae;have hg:=Y.o.trans (g.ok.mono (by omega));generalize g.w=w2 at*;clear kn af ak ah al ai am ad;by_cases h:x.name=y.name
 ·have t:=congrArg ByteArray.toList h;have HD:Hid (decide (x.name=y.name)=true):=by show decide (x.name=y.name)=true;simp [h]
  clear h
  go_wp21
  go_ret;exact ⟨by rw [HD.o];simp [t],hg⟩
 have t:¬x.name.toList=y.name.toList:=fun e=>h (Bu e);have HD:Hid (decide (x.name=y.name)=false):=by show decide (x.name=y.name)=false;simp [h]
 clear h
 go_wp21
 go_ret;exact ⟨by rw [HD.o];simp [t],hg⟩
theorem zfg (l:List bv) (hv:SL 3 RF (· <B) w v l) (hB:B<=w.heap.size):
 Calls prog 249 #[v,.func (.func 250) #[] #[]] w fun r w'=>r=.returned (.bool (dp (l.map (·.name))))/\Bl w w':=by
 have ak:=ri prog;have HV:=aj hv;obtain ⟨ae,cl,rfl,af,ad,-⟩:=hv;unfold maxLen at ad;have L:=(br w.heap.size w).alloc (nlq _) (.cells #[.func (.func 250) #[] #[]] 277);have O:=aj L;clear L;go_enter func249,ntmps249
 go_wp21
 go_loopw [9] (fun i wr=>∃k:Nat,k<=l.length/\i=.i k/\Hid (dp ((l.take k).map (·.name))=true)/\Hid (Below (w.heap.size+1) (w.alloc (.cells #[.func (.func 250) #[] #[]] 277)) wr)) (fun i _=>l.length - (intOf i).toNat)
 case atStart=>exact ⟨0,n0q _,rfl,rfl,br _ _⟩
 case round=>
  obtain ⟨k,hk,rfl,HP,D⟩:=hrel;have A:Bl w wr:=O.o.trans (D.o.mono (by omega));have al:w.heap.size+1<=wr.heap.size:=by have:=D.o.size;simpa using this
  have X:=aj A;by_cases F:k<l.length
  ·obtain ⟨b,off,rfl,hb,e0,e1,e2,aa,ac⟩:=(HV.o.keptF (Kp.below (A.mono hB))).atF k F;have ai:(k:Int)<=cl:=by omega
   have ah:(0:Int)<=k:=by omega
   have N:=A.alloc A.size (.cells #[.string l[k].name,.i l[k].kind.kind,.string l[k].kind.dj] 125);have Z:Hid (Bz B (wr.alloc (.cells #[.string l[k].name,.i l[k].kind.kind,.string l[k].kind.dj] 125)) (.agg #[.string l[k].name,.i l[k].kind.kind,.string l[k].kind.dj]) l[k]):=⟨rfl,aa,ac⟩;have I:=aj N;clear N
   go_wp21
   refine (zcq _ B _ (l.take k) ((HV.o.keptF (Kp.below (I.o.mono hB))).take k hk) (by simp;omega) 300 _ (fun y=>decide (l[k].name=y.name)) (fun args w=>by kernel_rfl) ?_).mono ?_
   ·intro y _ u W G hu;refine zff W B w.heap.size wr.heap.size l[k] y u hu (Z.o.below (G.mono (by simp;omega))) (by have:=G.size;simp at this;omega) ?_ ?_ ?_ ?_
    ·exact (G.cell (p:=⟨w.heap.size,0,none⟩) (by simp;omega)).trans (by rw [cell?_alloc_past _ _ _ (by omega)];exact (D.o.cell (p:=⟨w.heap.size,0,none⟩) (by simp)).trans (by simp [go_sem]))
    ·exact (G.cell (p:=⟨wr.heap.size,0,none⟩) (by simp)).trans (by simp [go_sem])
    ·exact (G.cell (p:=⟨wr.heap.size,1,none⟩) (by simp)).trans (by simp [go_sem])
    exact (G.cell (p:=⟨wr.heap.size,2,none⟩) (by simp)).trans (by simp [go_sem])
   rintro r w2 ⟨rfl,E⟩;have V:Hid (Below (w.heap.size+1) (w.alloc (.cells #[.func (.func 250) #[] #[]] 277)) w2):=(D.o.alloc (by omega) _).trans (E.mono (by simp;omega));have Y:=aj (I.o.trans (E.mono (by have:=A.size;simp;omega)));clear E e0 e1 e2;cases hp:(l.take k).any (fun y=>decide (l[k].name=y.name))
   ·have J:=aj (zfd (f:=(·.name)) F HP.o hp);clear hp
    go_wp21
    go_roundw
    case rel=>exact ⟨k+1,by omega,by go_num,J.o,V.o⟩
    case measure=>simp [intOf];omega
   have J:=aj (zfc (f:=(·.name)) F hp);clear hp
   go_wp21
   go_ret;exact ⟨by rw [J.o];rfl,Y.o⟩
  have J:Hid (dp (l.map (·.name))=true):=by have:=HP.o;rwa [take_of_length_le (by omega)]at this
  go_wp21
  go_ret;exact ⟨by rw [J.o];rfl,X.o⟩
theorem zfh (y:ew) (u:Value) (G:Av B w u y):Calls prog 253 #[u] w fun r w'=>r=.returned (.string y.name)/\Bl w w':=by
 obtain ⟨A,D,F,E,rfl,-,-,-,-,-⟩:=G;go_enter func253,ntmps253
 go_wp21
 go_ret;exact ⟨rfl,(br _ _).alloc (nlq _) _⟩
theorem zfi (Y A:Nat) (x y:ew) (ao:Option Addr) (ca:Nat) (ho:Option Addr) (ch:Nat) (u:Value) (hu:Av B w u y) (hX:Av B w (.agg #[.string x.name,.bool x.static,.slice ao x.args.length ca,.i x.ret.kind,.string x.ret.dj,.i x.stack,.i x.locals,.string x.code,.slice ho x.hands.length ch]) x) (Z:B<=w.heap.size) (hn:w.cell? ⟨Y,0,none⟩=some (.func (.func 253) #[] #[])) (W:w.cell? ⟨A,0,none⟩=some (.string x.name)) (aa:w.cell? ⟨A,1,none⟩=some (.bool x.static)) (ac:w.cell? ⟨A,2,none⟩=some (.slice ao x.args.length ca)) (ad:w.cell? ⟨A,3,none⟩=some (.i x.ret.kind)) (ae:w.cell? ⟨A,4,none⟩=some (.string x.ret.dj)) (af:w.cell? ⟨A,5,none⟩=some (.i x.stack)) (ah:w.cell? ⟨A,6,none⟩=some (.i x.locals)) (ai:w.cell? ⟨A,7,none⟩=some (.string x.code)) (ak:w.cell? ⟨A,8,none⟩=some (.slice ho x.hands.length ch)):
 Calls prog 301 #[u,.p Y,.p A] w fun r w'=>r=.returned (.bool (decide (x.name=y.name)))/\Bl w w':=by
 have hU:=hu;obtain ⟨I,J,N,L,rfl,-,-,-,-,-⟩:=hu;have au:Y<w.heap.size:=block_lt_of_cell? w _ hn;have F:A<w.heap.size:=block_lt_of_cell? w _ W;have D:=(br w.heap.size w).alloc (nlq _) (.cells #[.string y.name,.bool y.static,.slice I y.args.length J,.i y.ret.kind,.string y.ret.dj,.i y.stack,.i y.locals,.string y.code,.slice N y.hands.length L] 159);have O:=hU.below (D.mono Z);have V:=hX.below (D.mono Z);obtain ⟨E,G⟩:∃E,E=w.alloc (.cells #[.string y.name,.bool y.static,.slice I y.args.length J,.i y.ret.kind,.string y.ret.dj,.i y.stack,.i y.locals,.string y.code,.slice N y.hands.length L] 159):=⟨_,rfl⟩;have hz:w.heap.size+1<=E.heap.size:=by rw [G];simp
 rw [<-G]at D O V;have av:Nonempty (Gr (w.heap.size+1) E):=⟨⟨E,br _ _⟩⟩;have kn:∀g:Gr (w.heap.size+1) E,g.w.cell? ⟨Y,0,none⟩=some (.func (.func 253) #[] #[]):=fun g=>(g.ok.cell (p:=⟨Y,0,none⟩) (by simp;omega)).trans ((D.cell (p:=⟨Y,0,none⟩) au).trans hn);have ay:∀g:Gr (w.heap.size+1) E,g.w.cell? ⟨A,0,none⟩=some (.string x.name):=fun g=>(g.ok.cell (p:=⟨A,0,none⟩) (by simp;omega)).trans ((D.cell (p:=⟨A,0,none⟩) F).trans W);have az:∀g:Gr (w.heap.size+1) E,g.w.cell? ⟨A,1,none⟩=some (.bool x.static):=fun g=>(g.ok.cell (p:=⟨A,1,none⟩) (by simp;omega)).trans ((D.cell (p:=⟨A,1,none⟩) F).trans aa);have a0:∀g:Gr (w.heap.size+1) E,g.w.cell? ⟨A,2,none⟩=some (.slice ao x.args.length ca):=fun g=>(g.ok.cell (p:=⟨A,2,none⟩) (by simp;omega)).trans ((D.cell (p:=⟨A,2,none⟩) F).trans ac);have a1:∀g:Gr (w.heap.size+1) E,g.w.cell? ⟨A,3,none⟩=some (.i x.ret.kind):=fun g=>(g.ok.cell (p:=⟨A,3,none⟩) (by simp;omega)).trans ((D.cell (p:=⟨A,3,none⟩) F).trans ad);have a2:∀g:Gr (w.heap.size+1) E,g.w.cell? ⟨A,4,none⟩=some (.string x.ret.dj):=fun g=>(g.ok.cell (p:=⟨A,4,none⟩) (by simp;omega)).trans ((D.cell (p:=⟨A,4,none⟩) F).trans ae);have a3:∀g:Gr (w.heap.size+1) E,g.w.cell? ⟨A,5,none⟩=some (.i x.stack):=fun g=>(g.ok.cell (p:=⟨A,5,none⟩) (by simp;omega)).trans ((D.cell (p:=⟨A,5,none⟩) F).trans af);have a4:∀g:Gr (w.heap.size+1) E,g.w.cell? ⟨A,6,none⟩=some (.i x.locals):=fun g=>(g.ok.cell (p:=⟨A,6,none⟩) (by simp;omega)).trans ((D.cell (p:=⟨A,6,none⟩) F).trans ah);have a5:∀g:Gr (w.heap.size+1) E,g.w.cell? ⟨A,7,none⟩=some (.string x.code):=fun g=>(g.ok.cell (p:=⟨A,7,none⟩) (by simp;omega)).trans ((D.cell (p:=⟨A,7,none⟩) F).trans ai);have a6:∀g:Gr (w.heap.size+1) E,g.w.cell? ⟨A,8,none⟩=some (.slice ho x.hands.length ch):=fun g=>(g.ok.cell (p:=⟨A,8,none⟩) (by simp;omega)).trans ((D.cell (p:=⟨A,8,none⟩) F).trans ak);have a7:∀g:Gr (w.heap.size+1) E,g.w.cell? ⟨w.heap.size,0,none⟩=some (.string y.name):=fun g=>(g.ok.cell (p:=⟨w.heap.size,0,none⟩) (by simp)).trans (by rw [G];simp [go_sem]);have a8:∀g:Gr (w.heap.size+1) E,g.w.cell? ⟨w.heap.size,1,none⟩=some (.bool y.static):=fun g=>(g.ok.cell (p:=⟨w.heap.size,1,none⟩) (by simp)).trans (by rw [G];simp [go_sem]);have a9:∀g:Gr (w.heap.size+1) E,g.w.cell? ⟨w.heap.size,2,none⟩=some (.slice I y.args.length J):=fun g=>(g.ok.cell (p:=⟨w.heap.size,2,none⟩) (by simp)).trans (by rw [G];simp [go_sem]);have ba:∀g:Gr (w.heap.size+1) E,g.w.cell? ⟨w.heap.size,3,none⟩=some (.i y.ret.kind):=fun g=>(g.ok.cell (p:=⟨w.heap.size,3,none⟩) (by simp)).trans (by rw [G];simp [go_sem]);have bb:∀g:Gr (w.heap.size+1) E,g.w.cell? ⟨w.heap.size,4,none⟩=some (.string y.ret.dj):=fun g=>(g.ok.cell (p:=⟨w.heap.size,4,none⟩) (by simp)).trans (by rw [G];simp [go_sem]);have bc:∀g:Gr (w.heap.size+1) E,g.w.cell? ⟨w.heap.size,5,none⟩=some (.i y.stack):=fun g=>(g.ok.cell (p:=⟨w.heap.size,5,none⟩) (by simp)).trans (by rw [G];simp [go_sem]);have bd:∀g:Gr (w.heap.size+1) E,g.w.cell? ⟨w.heap.size,6,none⟩=some (.i y.locals):=fun g=>(g.ok.cell (p:=⟨w.heap.size,6,none⟩) (by simp)).trans (by rw [G];simp [go_sem]);have bf:∀g:Gr (w.heap.size+1) E,g.w.cell? ⟨w.heap.size,7,none⟩=some (.string y.code):=fun g=>(g.ok.cell (p:=⟨w.heap.size,7,none⟩) (by simp)).trans (by rw [G];simp [go_sem]);have bh:∀g:Gr (w.heap.size+1) E,g.w.cell? ⟨w.heap.size,8,none⟩=some (.slice N y.hands.length L):=fun g=>(g.ok.cell (p:=⟨w.heap.size,8,none⟩) (by simp)).trans (by rw [G];simp [go_sem]);have am:Hid (∀g:Gr (w.heap.size+1) E,Calls prog 253 #[.agg #[.string x.name,.bool x.static,.slice ao x.args.length ca,.i x.ret.kind,.string x.ret.dj,.i x.stack,.i x.locals,.string x.code,.slice ho x.hands.length ch]] g.w fun e X=>e=.returned (.string x.name)/\∃g':Gr (w.heap.size+1) E,X=g'.w):=fun g=>Gr.calls g hz (zfh g.w B x _ (V.below (g.ok.mono (by omega))));have an:Hid (∀g:Gr (w.heap.size+1) E,Calls prog 253 #[.agg #[.string y.name,.bool y.static,.slice I y.args.length J,.i y.ret.kind,.string y.ret.dj,.i y.stack,.i y.locals,.string y.code,.slice N y.hands.length L]] g.w fun e X=>e=.returned (.string y.name)/\∃g':Gr (w.heap.size+1) E,X=g'.w):=fun g=>Gr.calls g hz (zfh g.w B y _ (O.below (g.ok.mono (by omega))));have al:=aj D;clear hU hX O V D hn W aa ac ad ae af ah ai ak;go_enter func301,ntmps301
 go_wp21
 rw [<-G];clear G;refine Cz (w.heap.size+1) E (by kernel_rfl) (by kernel_rfl) (br _ _) ?_
 repeat (go_big_quiet_step (first | (go_at_call_of 253 x;exact am.o _) | (go_at_call_of 253 y;exact an.o _)))
 refine wpQuiet_nil ?_;intro _ aw;obtain ⟨g,rfl⟩:=aw;have hg:=al.o.trans (g.ok.mono (by omega));generalize g.w=w2 at*;clear kn ay a7 az a8 a0 a9 a1 ba a2 bb a3 bc a4 bd a5 bf a6 bh av;by_cases h:x.name=y.name
 ·have t:=congrArg ByteArray.toList h;have HD:Hid (decide (x.name=y.name)=true):=by show decide (x.name=y.name)=true;simp [h]
  clear h
  go_wp21
  go_ret;exact ⟨by rw [HD.o];simp [t],hg⟩
 have t:¬x.name.toList=y.name.toList:=fun e=>h (Bu e);have HD:Hid (decide (x.name=y.name)=false):=by show decide (x.name=y.name)=false;simp [h]
 clear h
 go_wp21
 go_ret;exact ⟨by rw [HD.o];simp [t],hg⟩
theorem zfj (l:List ew) (hv:SL 9 RM (· <B) w v l) (hB:B<=w.heap.size):
 Calls prog 252 #[v,.func (.func 253) #[] #[]] w fun r w'=>r=.returned (.bool (dp (l.map (·.name))))/\Bl w w':=by
 have au:=ri prog;have HV:=aj hv;obtain ⟨ak,cl,rfl,al,ai,-⟩:=hv;unfold maxLen at ai;have O:=(br w.heap.size w).alloc (nlq _) (.cells #[.func (.func 253) #[] #[]] 280);have Y:=aj O;clear O;go_enter func252,ntmps252
 go_wp21
 go_loopw [9] (fun i wr=>∃k:Nat,k<=l.length/\i=.i k/\Hid (dp ((l.take k).map (·.name))=true)/\Hid (Below (w.heap.size+1) (w.alloc (.cells #[.func (.func 253) #[] #[]] 280)) wr)) (fun i _=>l.length - (intOf i).toNat)
 case atStart=>exact ⟨0,n0q _,rfl,rfl,br _ _⟩
 case round=>
  obtain ⟨k,hk,rfl,HP,E⟩:=hrel;have A:Bl w wr:=Y.o.trans (E.o.mono (by omega));have av:w.heap.size+1<=wr.heap.size:=by have:=E.o.size;simpa using this
  have aa:=aj A;by_cases G:k<l.length
  ·obtain ⟨b,off,va,vh,rfl,hb,e0,e1,e2,e3,e4,e5,e6,e7,e8,ea,eh,ae,af,ah⟩:=(HV.o.keptM (Kp.below (A.mono hB))).atM k G;have EA:=aj ea;have EH:=aj eh;obtain ⟨ao,L,rfl,-⟩:=ea;obtain ⟨X,N,rfl,-⟩:=eh;have an:(k:Int)<=cl:=by omega
   have am:(0:Int)<=k:=by omega
   have V:=A.alloc A.size (.cells #[.string l[k].name,.bool l[k].static,.slice ao l[k].args.length L,.i l[k].ret.kind,.string l[k].ret.dj,.i l[k].stack,.i l[k].locals,.string l[k].code,.slice X l[k].hands.length N] 159);have ad:Hid (Av B (wr.alloc (.cells #[.string l[k].name,.bool l[k].static,.slice ao l[k].args.length L,.i l[k].ret.kind,.string l[k].ret.dj,.i l[k].stack,.i l[k].locals,.string l[k].code,.slice X l[k].hands.length N] 159)) (.agg #[.string l[k].name,.bool l[k].static,.slice ao l[k].args.length L,.i l[k].ret.kind,.string l[k].ret.dj,.i l[k].stack,.i l[k].locals,.string l[k].code,.slice X l[k].hands.length N]) l[k]):=⟨ao,L,X,N,rfl,EA.o.keptK (Kp.below ((br _ _).alloc (by have:=A.size;omega) _)),EH.o.keptH (Kp.below ((br _ _).alloc (by have:=A.size;omega) _)),ae,af,ah⟩;have I:=aj V;clear V
   go_wp21
   refine (zcz _ B _ (l.take k) ((HV.o.keptM (Kp.below (I.o.mono hB))).take k hk) (by simp;omega) 301 _ (fun y=>decide (l[k].name=y.name)) (fun args w=>by kernel_rfl) ?_).mono ?_
   ·intro y _ u W D hu;refine zfi W B w.heap.size wr.heap.size l[k] y ao L X N u hu (ad.o.below (D.mono (by simp;omega))) (by have:=D.size;simp at this;omega) ?_ ?_ ?_ ?_ ?_ ?_ ?_ ?_ ?_ ?_
    ·exact (D.cell (p:=⟨w.heap.size,0,none⟩) (by simp;omega)).trans (by rw [cell?_alloc_past _ _ _ (by omega)];exact (E.o.cell (p:=⟨w.heap.size,0,none⟩) (by simp)).trans (by simp [go_sem]))
    ·exact (D.cell (p:=⟨wr.heap.size,0,none⟩) (by simp)).trans (by simp [go_sem])
    ·exact (D.cell (p:=⟨wr.heap.size,1,none⟩) (by simp)).trans (by simp [go_sem])
    ·exact (D.cell (p:=⟨wr.heap.size,2,none⟩) (by simp)).trans (by simp [go_sem])
    ·exact (D.cell (p:=⟨wr.heap.size,3,none⟩) (by simp)).trans (by simp [go_sem])
    ·exact (D.cell (p:=⟨wr.heap.size,4,none⟩) (by simp)).trans (by simp [go_sem])
    ·exact (D.cell (p:=⟨wr.heap.size,5,none⟩) (by simp)).trans (by simp [go_sem])
    ·exact (D.cell (p:=⟨wr.heap.size,6,none⟩) (by simp)).trans (by simp [go_sem])
    ·exact (D.cell (p:=⟨wr.heap.size,7,none⟩) (by simp)).trans (by simp [go_sem])
    exact (D.cell (p:=⟨wr.heap.size,8,none⟩) (by simp)).trans (by simp [go_sem])
   rintro r w2 ⟨rfl,F⟩;have Z:Hid (Below (w.heap.size+1) (w.alloc (.cells #[.func (.func 253) #[] #[]] 280)) w2):=(E.o.alloc (by omega) _).trans (F.mono (by simp;omega));have ac:=aj (I.o.trans (F.mono (by have:=A.size;simp;omega)));clear F e0 e1 e2 e3 e4 e5 e6 e7 e8;cases hp:(l.take k).any (fun y=>decide (l[k].name=y.name))
   ·have J:=aj (zfd (f:=(·.name)) G HP.o hp);clear hp
    go_wp21
    go_roundw
    case rel=>exact ⟨k+1,by omega,by go_num,J.o,Z.o⟩
    case measure=>simp [intOf];omega
   have J:=aj (zfc (f:=(·.name)) G hp);clear hp
   go_wp21
   go_ret;exact ⟨by rw [J.o];rfl,ac.o⟩
  have J:Hid (dp (l.map (·.name))=true):=by have:=HP.o;rwa [take_of_length_le (by omega)]at this
  go_wp21
  go_ret;exact ⟨by rw [J.o];rfl,aa.o⟩
theorem zfk (x:List bv) (u:Value) (G:yd B w u x) (E:B<=w.heap.size):Calls prog 248 #[u] w fun r w'=>r=.returned (.bool (dp (x.map (·.name))))/\Bl w w':=by
 obtain ⟨I,J,rfl,A⟩:=G;have D:=aj A;clear A;go_enter func248,ntmps248
 go_wp21
 refine (zfg _ B _ x D.o E).mono ?_;rintro r L ⟨rfl,F⟩
 go_wp21
 go_ret;exact ⟨rfl,F⟩
theorem zfl (x:aq) (u:Value) (J:B8 B w u x) (I:B<=w.heap.size):Calls prog 251 #[u] w fun r w'=>r=.returned (.bool (dp (x.bd.map (·.name))))/\Bl w w':=by
 obtain ⟨V,N,mo,O,rfl,-,E,-,-⟩:=J;have G:=aj E;have A:=aj (fun o=>(br w.heap.size w).alloc (nlq _) o);clear E;go_enter func251,ntmps251
 go_wp21
 refine (zfj _ B _ x.bd (G.o.keptM (Kp.below ((A.o _).mono I))) (by simp;omega)).mono ?_;rintro r L ⟨rfl,F⟩;have D:Bl w L:=(A.o _).trans (F.mono (by simp));clear F
 go_wp21
 go_ret;exact ⟨rfl,D⟩
theorem zfm (b:Nat) (l:List aq) (vC vS X vN vT vL:Value) (Y:Nat) (D:uh B w b l vC vS X vN vT vL Y):
 Calls prog 210 #[.p b] w fun r w'=>r=.returned (.bool (kd l))/\Bl w w':=by
 have c2:=bg D.blk 2 (x:=X) rfl;have c0:=D.cell0;have L:=bz D.blk;have V:=D.sF;have Z:=aj D.sC;have F:=D.le;obtain ⟨ac,cc,rfl,-⟩:=D.sC;have O:Hid (kd l=((((range l.length).map (fieldsOf l)).all fun x=>dp (x.map (·.name)))&&(l.all fun c=>dp (c.bd.map (·.name))))):=by show kd l=_;rw [kd,all_map];rfl
 clear D;generalize (range l.length).map (fieldsOf l)=LF at*;have HF:=aj V;obtain ⟨af,cf,rfl,-⟩:=V;go_enter func210,ntmps210
 go_wp21
 refine (zc9 _ B _ _ HF.o F 248 #[] #[] (fun x=>dp (x.map (·.name))) (fun args w=>by kernel_rfl) ?_).mono ?_
 ·intro x _ u W I N;exact zfk W B x u N (by have:=I.size;omega)
 rintro r w1 ⟨rfl,A⟩;have d0:w1.cell? ⟨b,0,none⟩=some (.slice ac l.length cc):=(A.cell (p:=⟨b,0,none⟩) L).trans c0;cases ha:LF.all fun x=>dp (x.map (·.name))
 ·have G:Hid (kd l=false):=by rw [O.o,ha];rfl
  clear ha
  go_wp21
  go_ret;exact ⟨by rw [G.o];rfl,A⟩
 have G:Hid (kd l=(l.all fun c=>dp (c.bd.map (·.name)))):=by rw [O.o,ha];rfl
 clear ha
 go_wp21
 refine (zco _ B _ _ (Z.o.keptC (Kp.below (A.mono F))) (by have:=A.size;omega) 251 #[] #[] (fun c=>dp (c.bd.map (·.name))) (fun args w=>by kernel_rfl) ?_).mono ?_
 ·intro x _ u W I N;exact zfl W B x u N (by have:=I.size;have:=A.size;omega)
 rintro r w2 ⟨rfl,E⟩;have J:=A.trans (E.mono A.size);clear A E
 go_wp21
 go_ret;exact ⟨by rw [G.o];rfl,J⟩
end Go.Proofs.YtjdnmblggdobgaaGreat
