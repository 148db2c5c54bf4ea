import Derived.Test.YtjdnmblggdobgaaGreatJLNoneLSaD
set_option maxHeartbeats 4000000
set_option maxRecDepth 100000
namespace Go.Proofs.YtjdnmblggdobgaaGreat
open Go.RowKit Tryz List Or World
variable {α:Type} {zs:List (List Value×α)} {n:Nat} {R:(Nat->Prop)->World->List Value->α->Prop} (w:World) (e B:Nat) (M:Nat->Prop) (v:Value) (l:List fw)
theorem SL_zs {M:Nat->Prop} {w:World} {v:Value} {l:List α} (hn:0<n) (h:SL n R M w v l):
 ∃zs:List (List Value×α),zs.map (·.2)=l/\(∀z∈zs,z.1.length=n/\R M w z.1 z.2)/\∀b off len cap,v=.slice (some ⟨b,off,none⟩) len cap->∀j u,(zs.flatMap (·.1))[j]? =some u->w.cell? ((⟨b,off,none⟩:Addr).add j)=some u:=by
 obtain ⟨ao,cap,hv,hc,hm,Z⟩:=h
 let cs:Fin l.length->List Value:=fun k=>Classical.choose (Classical.choose_spec (Classical.choose_spec (Z k.1 k.2)))
 have F:∀k:Fin l.length,∃b off,ao=some ⟨b,off,none⟩/\M b/\b<w.heap.size/\(cs k).length=n/\(∀j,j<n->w.cell? ⟨b,off+k.1*n+j,none⟩=(cs k)[j]?)/\R M w (cs k) l[k.1]:=fun k=>
  ⟨_,_,Classical.choose_spec (Classical.choose_spec (Classical.choose_spec (Z k.1 k.2)))⟩
 let zs:List (List Value×α):=ofFn fun k:Fin l.length=>(cs k,l[k.1])
 have V:zs.length=l.length:=by simp [zs]
 have E:∀(k:Nat) (h:k<zs.length),zs[k]=(cs ⟨k,by omega⟩,l[k]'(by omega)):=fun k h=>by simp [zs]
 have D:∀z∈zs,z.1.length=n/\R M w z.1 z.2:=fun z I=>by obtain ⟨k,N,rfl⟩:=mem_iff_getElem.1 I;rw [E k N];obtain ⟨b,off,-,-,-,h1,-,X⟩:=F ⟨k,by omega⟩;exact ⟨h1,X⟩
 refine ⟨zs,?_,D,?_⟩
 ·refine ext_getElem (by simp [V]) fun k h1 X=>?_;rw [getElem_map,E k (by simpa using h1)]
 intro b off len W A j u O;have L:∀zs:List (List Value×α),(∀z∈zs,z.1.length=n)->(zs.flatMap (·.1)).length=zs.length*n:=fun zs=>by
  induction zs with
  | nil=>intro _;simp
  | cons x zs ih=>
    intro Y;rw [flatMap_cons,length_append,ih (fun y hy=>Y y (by simp [hy])),Y x (by simp),length_cons,Nat.add_mul];omega
 have hj:j<zs.length*n:=by rw [<-L zs fun z I=>(D z I).1];exact (List.getElem?_eq_some_iff.1 O).1
 have hq:j / n<zs.length:=Nat.div_lt_of_lt_mul (by rw [Nat.mul_comm];exact hj);have hr:j % n<n:=Nat.mod_lt _ hn;have G:j / n*n+j % n=j:=by rw [Nat.mul_comm];exact Nat.div_add_mod j n
 rw [<-G,B3 (n:=n) (fun z:List Value×α=>z.1) zs (j / n) (j % n) (fun z I=>(D z I).1) hq hr,E _ hq]at O;obtain ⟨b',aa,e,-,-,-,J,-⟩:=F ⟨j / n,by omega⟩;rw [hv]at A;rw [e]at A;cases A;have:=J (j % n) hr;rw [zd,<-G,<-Nat.add_assoc];exact this.trans O
theorem zjo (h:∀z∈zs,z.1.length=n):(zs.flatMap (·.1)).length=zs.length*n:=by
 induction zs with
 | nil=>simp
 | cons x zs ih=>
   rw [flatMap_cons,length_append,ih (fun y A=>h y (by simp [A])),h x (by simp),length_cons,Nat.add_mul];omega
theorem A7 {M:Nat->Prop} {w:World} {v:Value} {l:List α} (h:SL n R M w v l):v.oneCell'=true:=by obtain ⟨ao,c,rfl,-⟩:=h;rfl
theorem oneRK {M:Nat->Prop} {w:World} {A:List Value} {x:fw} (h:RK M w A x):∀u∈A,u.oneCell'=true:=by rw [h.1];intro u D;simp at D;rcases D with rfl | rfl<;>rfl
theorem oneRF {M:Nat->Prop} {w:World} {A:List Value} {x:bv} (h:RF M w A x):∀u∈A,u.oneCell'=true:=by rw [h.1];intro u D;simp at D;rcases D with rfl | rfl | rfl<;>rfl
theorem oneRH {M:Nat->Prop} {w:World} {A:List Value} {x:jg} (h:RH M w A x):∀u∈A,u.oneCell'=true:=by rw [h.1];intro u D;simp at D;rcases D with rfl | rfl | rfl | rfl<;>rfl
theorem oneRM {M:Nat->Prop} {w:World} {A:List Value} {x:ew} (h:RM M w A x):∀u∈A,u.oneCell'=true:=by obtain ⟨G,I,rfl,E,F,-⟩:=h;intro u D;simp at D;rcases D with rfl | rfl | rfl | rfl | rfl | rfl | rfl | rfl | rfl<;>first | rfl | exact A7 E | exact A7 F
theorem oneRC {M:Nat->Prop} {w:World} {A:List Value} {x:aq} (h:RC M w A x):∀u∈A,u.oneCell'=true:=by obtain ⟨G,I,rfl,E,F,-⟩:=h;intro u D;simp at D;rcases D with rfl | rfl | rfl | rfl<;>first | rfl | exact A7 E | exact A7 F
theorem zjp (n:Nat):(w.alloc (.cells #[] e)).ownsRow w.heap.size e n (.slice (some ⟨w.heap.size,0,none⟩) 0 0) 0 []:=
 ⟨by simp,inr ⟨w.heap.size,0,#[],rfl,nlq _,heap_alloc_new w _,nlq _,by unfold maxLen;omega,by simp,by simp⟩⟩
theorem wg {f a e:Nat} {F:Func} {q0 q1 q2 q3 q4 q5 q6 q7:String} {x0 x1 x2 x3 x4 x5 x6 x7:Array Edge} (hf:prog.funcs[f]? =some F) (hn:F.ntmps=8) (hr:F.results=#[ResultVar.tmp 2]) (hb:F.body=some (((Code.region 0 #[⟨some 2,Op.assign (Operand.const (Value.nl)),a,q0,x0,none⟩] false).seq (((Code.region 1 #[⟨some 3,Op.move (Operand.tmp 0),a,q1,x1,none⟩,⟨some 4,Op.binOp BinOp.eql a (Operand.tmp 3) (Operand.const (Value.nl)) a,4,q2,x2,none⟩] false).seq (Code.cond (Operand.tmp 4) ((Code.region 2 #[⟨some 2,Op.assign (Operand.const (Value.nl)),a,q3,x3,none⟩] false).seq Code.ret) Code.skip)).seq ((Code.region 3 #[⟨some 5,Op.buildSlice a 0 #[],a,q4,x4,none⟩,⟨some 6,Op.move (Operand.tmp 0),a,q5,x5,none⟩,⟨some 7,Op.call { callee:=Callee.builtin Builtin.append,args:=#[Operand.tmp 5,Operand.tmp 6],argTypes:=#[a,a] },a,q6,x6,none⟩,⟨some 2,Op.assign (Operand.tmp 7),a,q7,x7,none⟩] false).seq Code.ret))))) (J:prog.underlying a=some (.slice e)) {Z:Value} {n O:Nat} (ah:(prog.info? e).map (fun i=>(i.zero,i.size,i.bytes))=some (some Z,n,O)) (hZ:Z.cells.size=n) (ai:0<n) (h8:O<=1000) (a2:∀(c:Nat) (w:World),(binOp BinOp.eql a (.slice none 0 c) (.nl)).run prog w=.ok (.bool true) w) (a3:∀(d:Addr) (n c:Nat) (w:World),(binOp BinOp.eql a (.slice (some d) n c) (.nl)).run prog w=.ok (.bool false) w) {R:(Nat->Prop)->World->List Value->α->Prop} (aw:∀ {M w cs x},R M w cs x->∀u∈cs,u.oneCell'=true) (w:World) (M:Nat->Prop) (v:Value) (l:List α) (hv:SL n R M w v l) (hl:l.length<=100000):
 Calls prog f #[v] w fun r w'=>Bl w w'/\∃(v':Value) (zs:List (List Value×α)),r=.returned v'/\zs.map (·.2)=l/\(∀z∈zs,z.1.length=n/\R M w z.1 z.2)/\w'.ownsRow w.heap.size e n v' zs.length (zs.flatMap (·.1)):=by
 obtain ⟨iI,Y,a0,al,a1⟩:=info_parts ah;have a5:∀V,(underlying a).run prog V=.ok (.slice e) V:=run_underlying J;have a4:∀V,(sizeOf e).run prog V=.ok n V:=fun V=>by simp [sizeOf,typeInfo,Y,al,Sem.run_bind]
 obtain ⟨zs,N,E,W⟩:=SL_zs ai hv;have D:zs.length=l.length:=by rw [<-N,length_map]
 have ae:=aj hl;clear hl;have HM:=aj N;have HR:=aj E;have aa:=aj (fun o=>(br w.heap.size w).alloc (nlq _) o);obtain ⟨ao,cl,rfl,-,-,G⟩:=hv;cases ao with
 | none=>
   have az:l= []:=by
    cases l with
    | nil=>rfl
    | cons x l=>obtain ⟨b,off,cs,e9,-⟩:=G 0 (by simp);cases e9
   subst az;have L:zs= []:=eq_nil_of_length_eq_zero (by simpa using D);subst L;clear G W N E D;refine calls_of_wp hf hb ?_;simp only [hn,size_toArray,length_cons,length_nil,Nat.reduceAdd,Nat.reduceSub,Array.replicate_succ,Array.replicate_zero,push_toArray,append_toArray,nil_append,cons_append]
   go_wp21
   refine bodyPost_ret (results_tmp hr _ _ _) rfl ?_;exact ⟨br _ _,_,[],rfl,rfl,(fun z hz=>by cases hz),ownsRow_nil _ _ _ _⟩
 | some ad=>
   cases l with
   | nil=>
     have L:zs= []:=eq_nil_of_length_eq_zero (by simpa using D);subst L;have HE:=aj (zjp w e n);clear G W N E D;refine calls_of_wp hf hb ?_;simp only [hn,size_toArray,length_cons,length_nil,Nat.reduceAdd,Nat.reduceSub,Array.replicate_succ,Array.replicate_zero,push_toArray,append_toArray,nil_append,cons_append];go_wp2_with (at_builtin;refine zfz _ rfl _ _ a rfl e iI J Y (some ⟨w.heap.size,0,none⟩) 0 0 rfl (nlq _) (inr ⟨_,rfl⟩) (some ad) cl rfl ?_);refine bodyPost_ret (results_tmp hr _ _ _) rfl ?_;exact ⟨aa.o _,_,[],rfl,rfl,(fun z hz=>by cases hz),HE.o⟩
   | cons x l0=>
     generalize hL:x::l0=l at*;have ak:0<l.length:=by rw [<-hL];simp
     clear hL;obtain ⟨b,off,cs,e9,-,ay,-⟩:=G 0 ak;cases e9;have HC:=aj (W b off _ _ rfl);have an:Hid ((zs.flatMap (·.1)).length=l.length*n):=by show _=_;rw [zjo fun z hz=>(E z hz).1,D]
     have H1:Hid (∀u∈zs.flatMap (·.1),u.oneCell'=true):=fun u hu=>by obtain ⟨z,hz,hu⟩:=mem_flatMap.1 hu;exact aw (E z hz).2 u hu
     have av:=aj D;have I:0<0+l.length:=by omega
     have ac:Hid (0+l.length<=maxLen/\(0+l.length)*O<=140737488355328):=(by have hl:=ae.o;exact ⟨by unfold maxLen;omega,by rw [Nat.zero_add];exact lt3 (Nat.mul_le_mul hl h8) (by decide)⟩);clear G W N E D;refine calls_of_wp hf hb ?_;simp only [hn,size_toArray,length_cons,length_nil,Nat.reduceAdd,Nat.reduceSub,Array.replicate_succ,Array.replicate_zero,push_toArray,append_toArray,nil_append,cons_append];go_wp2_with (at_builtin;refine wpList_append_grows _ rfl _ _ a rfl e iI Z n O J Y a0 al a1 hZ ai (some ⟨w.heap.size,0,none⟩) 0 0 [] rfl (fun e=>by cases e) (by simp) (fun _ _ j u hu=>by simp at hu) ⟨b,off,none⟩ l.length cl (zs.flatMap (·.1)) rfl an.o (fun j u hu=>by rw [zd];exact (cell?_alloc_past _ _ _ ay).trans (by have:=HC.o j u hu;rwa [zd]at this)) H1.o I ac.o.1 ac.o.2 ?_;intro v9 w9 A X;have af:Hid (w9.ownsRow w.heap.size e n v9 zs.length (zs.flatMap (·.1))):=(by have h:=Cv A (B':=w.heap.size) (by simp);rw [Nat.zero_add,nil_append,<-av.o]at h;exact h);have am:Hid (Bl w w9):=(aa.o _).grown X (by simp) (fun q e=>by cases e);obtain ⟨g9,c9,e9,-⟩:=A.form I;subst e9;have au:Hid (w9.ownsRow w.heap.size e n (.slice (some ⟨g9,0,none⟩) l.length c9) zs.length (zs.flatMap (·.1))):=(by have h:=af.o;rwa [Nat.zero_add]at h);clear A X af);refine bodyPost_ret (results_tmp hr _ _ _) rfl ?_;exact ⟨am.o,_,zs,rfl,HM.o,HR.o,au.o⟩
theorem Dm:(prog.info? 123).map (fun i=>(i.zero,i.size,i.bytes))=some (some (.agg #[.i 0,.string ⟨#[]⟩]),2,24):=by kernel_rfl
theorem zjq (D:SL 2 RK M w v l) (A:l.length<=100000):
 Calls prog 214 #[v] w fun r w'=>Bl w w'/\∃(v':Value) (zs:List (List Value×fw)),r=.returned v'/\zs.map (·.2)=l/\(∀z∈zs,z.1.length=2/\RK M w z.1 z.2)/\w'.ownsRow w.heap.size 123 2 v' zs.length (zs.flatMap (·.1)):=
 wg func214 rfl rfl rfl underlying156 Dm rfl (by decide) (by decide) (fun _ _=>by kernel_rfl) (fun _ _ _ _=>by kernel_rfl) oneRK w M v l D A
theorem Dl:(prog.info? 248).map (fun i=>(i.zero,i.size,i.bytes))=some (some (.agg #[.i 0,.i 0,.i 0,.string ⟨#[]⟩]),4,40):=by kernel_rfl
theorem zjr (l:List jg) (D:SL 4 RH M w v l) (A:l.length<=100000):
 Calls prog 215 #[v] w fun r w'=>Bl w w'/\∃(v':Value) (zs:List (List Value×jg)),r=.returned v'/\zs.map (·.2)=l/\(∀z∈zs,z.1.length=4/\RH M w z.1 z.2)/\w'.ownsRow w.heap.size 248 4 v' zs.length (zs.flatMap (·.1)):=
 wg func215 rfl rfl rfl underlying157 Dl rfl (by decide) (by decide) (fun _ _=>by kernel_rfl) (fun _ _ _ _=>by kernel_rfl) oneRH w M v l D A
theorem Dk:(prog.info? 125).map (fun i=>(i.zero,i.size,i.bytes))=some (some (.agg #[.string ⟨#[]⟩,.i 0,.string ⟨#[]⟩]),3,40):=by kernel_rfl
theorem zjs (l:List bv) (D:SL 3 RF M w v l) (A:l.length<=100000):
 Calls prog 163 #[v] w fun r w'=>Bl w w'/\∃(v':Value) (zs:List (List Value×bv)),r=.returned v'/\zs.map (·.2)=l/\(∀z∈zs,z.1.length=3/\RF M w z.1 z.2)/\w'.ownsRow w.heap.size 125 3 v' zs.length (zs.flatMap (·.1)):=
 wg func163 rfl rfl rfl underlying126 Dk rfl (by decide) (by decide) (fun _ _=>by kernel_rfl) (fun _ _ _ _=>by kernel_rfl) oneRF w M v l D A
theorem Dn:(prog.info? 159).map (fun i=>(i.zero,i.size,i.bytes))=some (some (.agg #[.string ⟨#[]⟩,.bool false,.nl,.i 0,.string ⟨#[]⟩,.i 0,.i 0,.string ⟨#[]⟩,.nl]),9,128):=by kernel_rfl
theorem zjt (l:List ew) (D:SL 9 RM M w v l) (A:l.length<=100000):
 Calls prog 213 #[v] w fun r w'=>Bl w w'/\∃(v':Value) (zs:List (List Value×ew)),r=.returned v'/\zs.map (·.2)=l/\(∀z∈zs,z.1.length=9/\RM M w z.1 z.2)/\w'.ownsRow w.heap.size 159 9 v' zs.length (zs.flatMap (·.1)):=
 wg func213 rfl rfl rfl underlying160 Dn rfl (by decide) (by decide) (fun _ _=>by kernel_rfl) (fun _ _ _ _=>by kernel_rfl) oneRM w M v l D A
theorem Dj:(prog.info? 162).map (fun i=>(i.zero,i.size,i.bytes))=some (some (.agg #[.string ⟨#[]⟩,.string ⟨#[]⟩,.nl,.nl]),4,80):=by kernel_rfl
theorem zju (l:List aq) (D:SL 4 RC M w v l) (A:l.length<=100000):
 Calls prog 162 #[v] w fun r w'=>Bl w w'/\∃(v':Value) (zs:List (List Value×aq)),r=.returned v'/\zs.map (·.2)=l/\(∀z∈zs,z.1.length=4/\RC M w z.1 z.2)/\w'.ownsRow w.heap.size 162 4 v' zs.length (zs.flatMap (·.1)):=
 wg func162 rfl rfl rfl underlying31 Dj rfl (by decide) (by decide) (fun _ _=>by kernel_rfl) (fun _ _ _ _=>by kernel_rfl) oneRC w M v l D A
theorem zjv {α:Type} {n:Nat} :∀(zs:List (List Value×α)) (k j:Nat) (v:Value),(∀z∈zs,z.1.length=n)->(hk:k<zs.length)->j<n->(zs.flatMap (·.1)).set (k*n+j) v=(zs.set k (zs[k].1.set j v,zs[k].2)).flatMap (·.1)
 | [],k,j,v,_,hk,_=>by simp at hk
 | x::zs,0,j,v,h,_,hj=>by have A:=h x (mem_cons_self ..);simp [A,hj]
 | x::zs,k+1,j,v,h,hk,hj=>by
   have A:=h x (mem_cons_self ..);have D:k<zs.length:=by simpa using hk
   have I:=zjv zs k j v (fun z G=>h z (mem_cons_of_mem _ G)) D hj;have E:¬(k+1)*n+j<x.1.length:=by rw [A,Nat.add_mul];omega
   have F:(k+1)*n+j - x.1.length=k*n+j:=by rw [A,Nat.add_mul];omega
   simp only [flatMap_cons,set_append,E,if_false,F,I,p3q,p6q]
theorem zjw (L:SL 2 RK M w v l) (G:l.length<=100000):
 Calls prog 214 #[v] w fun r w'=>Bl w w'/\∃A,r=.returned A/\SL 2 RK (MT w.heap.size [123] w') w' A l:=
 (zjq w M v l L G).mono fun _ w' ⟨F,A,zs,J,D,E,I⟩=>⟨F,A,J,by
  rw [<-D];exact xr (T:=[123]) I E (by simp) (by have E:zs.length=l.length:=(by rw [<-D,length_map]);unfold maxLen;omega)⟩
theorem zjx (l:List jg) (L:SL 4 RH M w v l) (G:l.length<=100000):
 Calls prog 215 #[v] w fun r w'=>Bl w w'/\∃A,r=.returned A/\SL 4 RH (MT w.heap.size [248] w') w' A l:=
 (zjr w M v l L G).mono fun _ w' ⟨F,A,zs,J,D,E,I⟩=>⟨F,A,J,by
  rw [<-D];exact xr (T:=[248]) I E (by simp) (by have E:zs.length=l.length:=(by rw [<-D,length_map]);unfold maxLen;omega)⟩
theorem zjy (l:List bv) (L:SL 3 RF M w v l) (G:l.length<=100000):
 Calls prog 163 #[v] w fun r w'=>Bl w w'/\∃A,r=.returned A/\SL 3 RF (MT w.heap.size [125] w') w' A l:=
 (zjs w M v l L G).mono fun _ w' ⟨F,A,zs,J,D,E,I⟩=>⟨F,A,J,by
  rw [<-D];exact xr (T:=[125]) I E (by simp) (by have E:zs.length=l.length:=(by rw [<-D,length_map]);unfold maxLen;omega)⟩
theorem zjz (l:List ew) (hv:SL 9 RM (· <B) w v l) (hB:B<=w.heap.size) (hl:l.length<=100000) (hf:∀x∈l,x.args.length<=100000/\x.hands.length<=100000):
 Calls prog 164 #[v] w fun r w'=>Bl w w'/\∃v',r=.returned v'/\SL 9 RM (MT w.heap.size [159,123,248] w') w' v' l:=by
 have HV:=aj hv;have a1:=aj (zjt w (· <B) v l hv hl);have ah:=aj hl;have HF:=aj hf;obtain ⟨ao,ca,rfl,-⟩:=hv;clear hl hf;go_enter func164,ntmps164;go_wp2_with (go_at_call 213;refine a1.o.mono ?_;rintro r w1 ⟨bd,v',bx,rfl,J,bl,D⟩;have O:=aj bd;have bc:=aj J;have al:=aj bl;have bm:bx.length=l.length:=(by rw [<-J,length_map]);rw [bm]at D;have Y:=aj D;obtain ⟨a0,c0,e0⟩:∃a0 c0,v'=.slice a0 l.length c0:=(by rcases D.2 with ⟨e,h0⟩ | ⟨g,cap,V,e,-⟩;(exact ⟨none,0,by rw [e,h0]⟩);(exact ⟨_,_,e⟩));subst e0;clear bd J bl D);clear a1;go_loopw [9] (fun i wr=>∃(k:Nat) (zs:List (List Value×ew)),k<=l.length/\i=.i k/\Hid (zs.map (·.2)=l/\(∀z∈zs,z.1.length=9)/\(∀(j:Nat) (h:j<zs.length),j<k->RM (MT w.heap.size [123,248] wr) wr zs[j].1 zs[j].2)/\(∀(j:Nat) (h:j<zs.length),k<=j->RM (· <B) w zs[j].1 zs[j].2)/\wr.ownsRow w.heap.size 159 9 (.slice a0 l.length c0) l.length (zs.flatMap (·.1))/\Bl w wr)) (fun i _=>l.length - (intOf i).toNat)
 case atStart=>exact ⟨0,bx,n0q _,rfl,bc.o,(fun z hz=>(al.o z hz).1),(fun j h hj=>by omega),(fun j h _=>(al.o _ (gm h)).2),Y.o,O.o⟩
 case round=>
  clear bc al Y O;obtain ⟨k,zs,hk,rfl,HI⟩:=hrel;obtain ⟨J,G,E,F,D,au⟩:=HI.o;have ce:zs.length=l.length:=by rw [<-J,length_map]
  have b9:w.heap.size<=wr.heap.size:=au.size;by_cases b7:k<l.length;rotate_left
  ·have co:k=l.length:=by omega
   have N:Hid (SL 9 RM (MT w.heap.size [159,123,248] wr) wr (.slice a0 l.length c0) l):=by
    have:=xr (R:=RM) (T:=[159,123,248]) (zs:=zs) (n:=9) (by rw [ce];exact D) (fun z hz=>⟨G z hz,by
     obtain ⟨j,hj,rfl⟩:=mem_iff_getElem.1 hz;exact (E j hj (by omega)).mono fun _ hk=>hk.more (nlq _) (fun _ ht=>mem_cons_of_mem _ ht)⟩) (by simp) (by have:=ah.o;unfold maxLen;omega)
    rw [J]at this;exact this
   have b0:=aj au;clear D E F G HI
   go_wp21
   go_ret;exact ⟨b0.o,_,rfl,N.o⟩
  have I:k<zs.length:=by omega
  obtain ⟨g,cap,V,eg,bh,aw,b2,b3,b4,b5⟩:∃g cap V,Value.slice a0 l.length c0=.slice (some ⟨g,0,none⟩) l.length cap/\w.heap.size<=g/\wr.heap[g]? =some (.cells V 159 (0,0))/\l.length<=cap/\cap<=maxLen/\V.size=cap*9/\V.toList.take (l.length*9)=zs.flatMap (·.1):=by
   rcases D.2 with ⟨e,h0⟩ | h
   ·omega
   exact h
  obtain ⟨rfl,rfl⟩:a0=some ⟨g,0,none⟩/\c0=cap:=by injection eg with h1 h2 h3;exact ⟨h1,h3⟩
  have az:zs[k].2=l[k]:=by have:=getElem_map (f:=fun z:List Value×ew=>z.2) (l:=zs) (i:=k) (h:=by simpa using I);rw [<-this];congr 1
  have bk:=F k I (nlq _);rw [az]at bk;obtain ⟨va,vh,av,s1,s2,bj⟩:=bk;have A:∀j u,zs[k].1[j]? =some u->wr.cell? ⟨g,k*9+j,none⟩=some u:=fun j u hu=>by
   have hj:j<9:=by have:=(List.getElem?_eq_some_iff.1 hu).1;rw [G _ (gm I)]at this;exact this
   have:=D.cells (g:=g) rfl (k*9+j) u (by rw [B3 (n:=9) (fun z:List Value×ew=>z.1) zs k j G I hj];exact hu);rwa [zd,Nat.zero_add]at this
  rw [av]at A;have q0:wr.cell? ⟨g,k*9,none⟩=some (.string l[k].name):=A 0 _ rfl;have q1:wr.cell? ⟨g,k*9+1,none⟩=some (.bool l[k].static):=A 1 _ rfl;have q2:wr.cell? ⟨g,k*9+2,none⟩=some (va):=A 2 _ rfl;have q3:wr.cell? ⟨g,k*9+3,none⟩=some (.i l[k].ret.kind):=A 3 _ rfl;have q4:wr.cell? ⟨g,k*9+4,none⟩=some (.string l[k].ret.dj):=A 4 _ rfl;have q5:wr.cell? ⟨g,k*9+5,none⟩=some (.i l[k].stack):=A 5 _ rfl;have q6:wr.cell? ⟨g,k*9+6,none⟩=some (.i l[k].locals):=A 6 _ rfl;have q7:wr.cell? ⟨g,k*9+7,none⟩=some (.string l[k].code):=A 7 _ rfl;have q8:wr.cell? ⟨g,k*9+8,none⟩=some (vh):=A 8 _ rfl;have ay:g<wr.heap.size:=bz aw;have a6:=aj s1;have a7:=aj s2;obtain ⟨o1,d1,rfl,-⟩:=s1;obtain ⟨o2,d2,rfl,-⟩:=s2;have bf:=HF.o l[k] (gm b7);have ai:=aj bf;have a3:=aj av;have Y:=aj D;have a2:=aj aw;have a4:=aj az;have a8:=aj bj;have ck:(0:Int)<=k:=by omega
  have cm:(k:Int)<l.length:=by omega
  clear bf A av D aw b2 b3 b4 b5 E F G J az eg bj;have cn:wr.heap.size≠g:=by omega
  have am:Bl w (wr.alloc (.cells #[.string l[k].name,.bool l[k].static,.slice o1 l[k].args.length d1,.i l[k].ret.kind,.string l[k].ret.dj,.i l[k].stack,.i l[k].locals,.string l[k].code,.slice o2 l[k].hands.length d2] 159)):=au.alloc b9 _;have O:=aj am;have b1:=aj (zjw (wr.alloc (.cells #[.string l[k].name,.bool l[k].static,.slice o1 l[k].args.length d1,.i l[k].ret.kind,.string l[k].ret.dj,.i l[k].stack,.i l[k].locals,.string l[k].code,.slice o2 l[k].hands.length d2] 159)) (· <B) _ _ (a6.o.keptK (Kp.below (am.mono hB))) ai.o.1);clear am
  go_wp21
  refine b1.o.mono ?_;rintro r X ⟨L,v1,rfl,bs⟩;have aa:=aj L;have a9:=aj bs;obtain ⟨p1,e1,rfl,-⟩:=bs;have ad:X.heap[g]? =some (.cells V 159 (0,0)):=((L.block g (by simp;omega)).trans ((Below.heap_alloc _ _ _ ay).trans a2.o));have m2:X.cell? ⟨g,k*9+2,none⟩=some (.slice o1 l[k].args.length d1):=((L.cell (p:=⟨g,k*9+2,none⟩) (by simp;omega)).trans ((cell?_alloc_past _ _ _ ay).trans q2));have z2:X.frozen? ⟨g,k*9+2,none⟩=false:=pq ad _;have y2:X.cell? ⟨wr.heap.size,8,none⟩=some (.slice o2 l[k].hands.length d2):=((L.cell (p:=⟨wr.heap.size,8,none⟩) (by simp)).trans (by simp [go_sem]));have ch:g<X.heap.size:=bz ad;have cf:wr.heap.size<X.heap.size:=(by have:=L.size;simp at this;omega);have x2:X.cell? ⟨g,k*9+8,none⟩=some (.slice o2 l[k].hands.length d2):=((L.cell (p:=⟨g,k*9+8,none⟩) (by simp;omega)).trans ((cell?_alloc_past _ _ _ ay).trans q8));have ak:=aj ad;clear L ad
  go_wp21
  have an:Bl w (X.setCell ⟨g,k*9+2,none⟩ (.slice p1 l[k].args.length e1)):=(O.o.trans (aa.o.mono O.o.size)).setCell bh _;have ac:=aj an;have ae:=s9 (j:=k*9+2) ak.o (.slice p1 l[k].args.length e1);have x3:(X.setCell ⟨g,k*9+2,none⟩ (.slice p1 l[k].args.length e1)).cell? ⟨g,k*9+8,none⟩=some (.slice o2 l[k].hands.length d2):=(cell?_setCell_other _ _ _ _ (by simp)).trans x2;have bb:Hid (Stp w.heap.size [123,248] X (X.setCell ⟨g,k*9+2,none⟩ (.slice p1 l[k].args.length e1))):=Stp.set ak.o (by decide) _ _;have a5:=aj (B4 (zbh (Y.o.alloc _) aa.o) (k*9+2) (.slice p1 l[k].args.length e1));clear m2 z2 y2 cf x2 ch ak;clear q0 q1 q2 q3 q4 q5 q6 q7 q8;generalize hw3:X.setCell ⟨g,k*9+2,none⟩ (.slice p1 l[k].args.length e1)=w3 at*;clear hw3;refine (zjx w3 (· <B) _ _ (a7.o.keptH (Kp.below (an.mono hB))) ai.o.2).mono ?_;rintro r Z ⟨W,v2,rfl,bu⟩;have ba:=aj bu;obtain ⟨p2,e2,rfl,-⟩:=bu;have af:=(W.block g (bz ae)).trans ae;have m4:Z.cell? ⟨g,k*9+8,none⟩=some (.slice o2 l[k].hands.length d2):=(W.cell (p:=⟨g,k*9+8,none⟩) (bz ae)).trans x3;have z4:Z.frozen? ⟨g,k*9+8,none⟩=false:=pq af _;have cr:g<Z.heap.size:=bz af;have N:Hid (∃zs':List (List Value×ew),zs'.map (·.2)=l/\(∀z∈zs',z.1.length=9)/\(∀(j:Nat) (h:j<zs'.length),j<k+1->RM (MT w.heap.size [123,248] (Z.setCell ⟨g,k*9+8,none⟩ (.slice p2 l[k].hands.length e2))) (Z.setCell ⟨g,k*9+8,none⟩ (.slice p2 l[k].hands.length e2)) zs'[j].1 zs'[j].2)/\(∀(j:Nat) (h:j<zs'.length),k+1<=j->RM (· <B) w zs'[j].1 zs'[j].2)/\(Z.setCell ⟨g,k*9+8,none⟩ (.slice p2 l[k].hands.length e2)).ownsRow w.heap.size 159 9 (.slice (some ⟨g,0,none⟩) l.length c0) l.length (zs'.flatMap (·.1))/\Bl w (Z.setCell ⟨g,k*9+8,none⟩ (.slice p2 l[k].hands.length e2))):=by
   obtain ⟨J,G,E,F,-,-⟩:=HI.o;have bo:Stp w.heap.size [123,248] Z (Z.setCell ⟨g,k*9+8,none⟩ (.slice p2 l[k].hands.length e2)):=Stp.set af (by decide) _ _;have cj:Stp w.heap.size [123,248] w3 Z:=Stp.below W;have ci:Stp w.heap.size [123,248] wr X:=(Stp.alloc (Stp.refl _ _ _) _).trans (Stp.below aa.o);have bn:=(bb.o.trans cj).trans bo;have bi:=B4 (zbh a5.o W) (k*9+8) (.slice p2 l[k].hands.length e2);have cc:∀z∈zs.set k (zs[k].1.set 2 (.slice p1 l[k].args.length e1),zs[k].2),z.1.length=9:=fun z hz=>by
    rcases mem_or_eq_of_mem_set hz with h | h
    ·exact G z h
    rw [h,length_set];exact G _ (gm I)
   rw [zjv zs k 2 _ G I (by decide),zjv _ k 8 _ cc (by rw [length_set];exact I) (by decide),set_set,getElem_set_self]at bi;refine ⟨zs.set k ((zs[k].1.set 2 (.slice p1 l[k].args.length e1)).set 8 (.slice p2 l[k].hands.length e2),zs[k].2),?_,?_,?_,?_,bi,(ac.o.trans (W.mono ac.o.size)).setCell bh _⟩
   ·rw [map_set];refine (congrArg (fun x=>(zs.map (·.2)).set k x) (getElem_map (f:=fun z:List Value×ew=>z.2) (h:=by simpa using I)).symm).trans ?_;rw [set_getElem_self,J]
   ·intro z hz;rcases mem_or_eq_of_mem_set hz with h | h
    ·exact G z h
    rw [h,length_set,length_set];exact G _ (gm I)
   ·intro j h hj;have h':j<zs.length:=by simpa using h
    by_cases b6:j=k
    ·subst b6;rw [getElem_set_self,a3.o,a4.o];exact ⟨_,_,rfl,(a9.o.monoK (fun _ hk=>hk.more (T':=[123,248]) O.o.size (fun _ ht=>by simp at ht;simp [ht]))).stpK bn,(ba.o.monoH (fun _ hk=>hk.more (T':=[123,248]) ac.o.size (fun _ ht=>by simp at ht;simp [ht]))).stpH bo,a8.o⟩
    rw [getElem_set_ne (by omega)];exact ((E j h' (by omega)).stp ci).stp bn
   intro j h hj;have h':j<zs.length:=by simpa using h
   rw [getElem_set_ne (by omega)];exact F j h' (by omega)
  clear ac bb a5 a9 ba a6 a7 ai a3 Y a2 a4 a8 ae af x3 W an aa HI;have cp:l.length<=9223372036854775807:=by have:=ah.o;omega
  go_wp21
  go_roundw
  case rel=>exact ⟨k+1,N.o.choose,by omega,by go_num,N.o.choose_spec⟩
  case measure=>simp [intOf];omega
theorem zj0 (l:List aq) (hv:SL 4 RC (· <B) w v l) (hB:B<=w.heap.size) (hl:l.length<=100000) (hf:∀x∈l,x.fields.length<=100000/\x.bd.length<=100000/\∀m∈x.bd,m.args.length<=100000/\m.hands.length<=100000):
 Calls prog 102 #[v] w fun r w'=>Bl w w'/\∃v',r=.returned v'/\SL 4 RC (MT w.heap.size [162,125,159,123,248] w') w' v' l:=by
 have HV:=aj hv;have a1:=aj (zju w (· <B) v l hv hl);have ak:=aj hl;have HF:=aj hf;obtain ⟨ao,ca,rfl,-⟩:=hv;clear hl hf;go_enter func102,ntmps102;go_wp2_with (go_at_call 162;refine a1.o.mono ?_;rintro r w1 ⟨bf,v',b0,rfl,J,bm,A⟩;have O:=aj bf;have bc:=aj J;have am:=aj bm;have bn:b0.length=l.length:=(by rw [<-J,length_map]);rw [bn]at A;have Y:=aj A;obtain ⟨a0,c0,e0⟩:∃a0 c0,v'=.slice a0 l.length c0:=(by rcases A.2 with ⟨e,h0⟩ | ⟨g,cap,V,e,-⟩;(exact ⟨none,0,by rw [e,h0]⟩);(exact ⟨_,_,e⟩));subst e0;clear bf J bm A);clear a1;go_loopw [9] (fun i wr=>∃(k:Nat) (zs:List (List Value×aq)),k<=l.length/\i=.i k/\Hid (zs.map (·.2)=l/\(∀z∈zs,z.1.length=4)/\(∀(j:Nat) (h:j<zs.length),j<k->RC (MT w.heap.size [125,159,123,248] wr) wr zs[j].1 zs[j].2)/\(∀(j:Nat) (h:j<zs.length),k<=j->RC (· <B) w zs[j].1 zs[j].2)/\wr.ownsRow w.heap.size 162 4 (.slice a0 l.length c0) l.length (zs.flatMap (·.1))/\Bl w wr)) (fun i _=>l.length - (intOf i).toNat)
 case atStart=>exact ⟨0,b0,n0q _,rfl,bc.o,(fun z hz=>(am.o z hz).1),(fun j h hj=>by omega),(fun j h _=>(am.o _ (gm h)).2),Y.o,O.o⟩
 case round=>
  clear bc am Y O;obtain ⟨k,zs,hk,rfl,HI⟩:=hrel;obtain ⟨J,G,E,F,A,au⟩:=HI.o;have ch:zs.length=l.length:=by rw [<-J,length_map]
  have ce:w.heap.size<=wr.heap.size:=au.size;by_cases cc:k<l.length;rotate_left
  ·have cr:k=l.length:=by omega
   have N:Hid (SL 4 RC (MT w.heap.size [162,125,159,123,248] wr) wr (.slice a0 l.length c0) l):=by
    have:=xr (R:=RC) (T:=[162,125,159,123,248]) (zs:=zs) (n:=4) (by rw [ch];exact A) (fun z hz=>⟨G z hz,by
     obtain ⟨j,hj,rfl⟩:=mem_iff_getElem.1 hz;exact (E j hj (by omega)).mono fun _ hk=>hk.more (nlq _) (fun _ ht=>mem_cons_of_mem _ ht)⟩) (by simp) (by have:=ak.o;unfold maxLen;omega)
    rw [J]at this;exact this
   have b1:=aj au;clear A E F G HI
   go_wp21
   go_ret;exact ⟨b1.o,_,rfl,N.o⟩
  have I:k<zs.length:=by omega
  obtain ⟨g,cap,V,eg,bi,aw,b3,b4,b5,b6⟩:∃g cap V,Value.slice a0 l.length c0=.slice (some ⟨g,0,none⟩) l.length cap/\w.heap.size<=g/\wr.heap[g]? =some (.cells V 162 (0,0))/\l.length<=cap/\cap<=maxLen/\V.size=cap*4/\V.toList.take (l.length*4)=zs.flatMap (·.1):=by
   rcases A.2 with ⟨e,h0⟩ | h
   ·omega
   exact h
  obtain ⟨rfl,rfl⟩:a0=some ⟨g,0,none⟩/\c0=cap:=by injection eg with h1 h2 h3;exact ⟨h1,h3⟩
  have az:zs[k].2=l[k]:=by have:=getElem_map (f:=fun z:List Value×aq=>z.2) (l:=zs) (i:=k) (h:=by simpa using I);rw [<-this];congr 1
  have bl:=F k I (nlq _);rw [az]at bl;obtain ⟨va,vh,av,s1,s2,bk⟩:=bl;have D:∀j u,zs[k].1[j]? =some u->wr.cell? ⟨g,k*4+j,none⟩=some u:=fun j u hu=>by
   have hj:j<4:=by have:=(List.getElem?_eq_some_iff.1 hu).1;rw [G _ (gm I)]at this;exact this
   have:=A.cells (g:=g) rfl (k*4+j) u (by rw [B3 (n:=4) (fun z:List Value×aq=>z.1) zs k j G I hj];exact hu);rwa [zd,Nat.zero_add]at this
  rw [av]at D;have q0:wr.cell? ⟨g,k*4,none⟩=some (.string l[k].name):=D 0 _ rfl;have q1:wr.cell? ⟨g,k*4+1,none⟩=some (.string l[k].b9):=D 1 _ rfl;have q2:wr.cell? ⟨g,k*4+2,none⟩=some (va):=D 2 _ rfl;have q3:wr.cell? ⟨g,k*4+3,none⟩=some (vh):=D 3 _ rfl;have ay:g<wr.heap.size:=bz aw;have a6:=aj s1;have a7:=aj s2;obtain ⟨o1,d1,rfl,-⟩:=s1;obtain ⟨o2,d2,rfl,-⟩:=s2;have bh:=HF.o l[k] (gm cc);have ad:=aj bh;have a3:=aj av;have Y:=aj A;have a2:=aj aw;have a4:=aj az;have a8:=aj bk;have cn:(0:Int)<=k:=by omega
  have co:(k:Int)<l.length:=by omega
  clear bh D av A aw b3 b4 b5 b6 E F G J az eg bk;have cp:wr.heap.size≠g:=by omega
  have an:Bl w (wr.alloc (.cells #[.string l[k].name,.string l[k].b9,.slice o1 l[k].fields.length d1,.slice o2 l[k].bd.length d2] 162)):=au.alloc ce _;have O:=aj an;have b2:=aj (zjy (wr.alloc (.cells #[.string l[k].name,.string l[k].b9,.slice o1 l[k].fields.length d1,.slice o2 l[k].bd.length d2] 162)) (· <B) _ _ (a6.o.keptF (Kp.below (an.mono hB))) ad.o.1);clear an
  go_wp21
  refine b2.o.mono ?_;rintro r X ⟨L,v1,rfl,bu⟩;have aa:=aj L;have a9:=aj bu;obtain ⟨p1,e1,rfl,-⟩:=bu;have af:X.heap[g]? =some (.cells V 162 (0,0)):=((L.block g (by simp;omega)).trans ((Below.heap_alloc _ _ _ ay).trans a2.o));have m2:X.cell? ⟨g,k*4+2,none⟩=some (.slice o1 l[k].fields.length d1):=((L.cell (p:=⟨g,k*4+2,none⟩) (by simp;omega)).trans ((cell?_alloc_past _ _ _ ay).trans q2));have z2:X.frozen? ⟨g,k*4+2,none⟩=false:=pq af _;have y2:X.cell? ⟨wr.heap.size,3,none⟩=some (.slice o2 l[k].bd.length d2):=((L.cell (p:=⟨wr.heap.size,3,none⟩) (by simp)).trans (by simp [go_sem]));have cj:g<X.heap.size:=bz af;have ci:wr.heap.size<X.heap.size:=(by have:=L.size;simp at this;omega);have x2:X.cell? ⟨g,k*4+3,none⟩=some (.slice o2 l[k].bd.length d2):=((L.cell (p:=⟨g,k*4+3,none⟩) (by simp;omega)).trans ((cell?_alloc_past _ _ _ ay).trans q3));have al:=aj af;clear L af
  go_wp21
  have ae:Bl w (X.setCell ⟨g,k*4+2,none⟩ (.slice p1 l[k].fields.length e1)):=(O.o.trans (aa.o.mono O.o.size)).setCell bi _;have ac:=aj ae;have ah:=s9 (j:=k*4+2) al.o (.slice p1 l[k].fields.length e1);have x3:(X.setCell ⟨g,k*4+2,none⟩ (.slice p1 l[k].fields.length e1)).cell? ⟨g,k*4+3,none⟩=some (.slice o2 l[k].bd.length d2):=(cell?_setCell_other _ _ _ _ (by simp)).trans x2;have bb:Hid (Stp w.heap.size [125,159,123,248] X (X.setCell ⟨g,k*4+2,none⟩ (.slice p1 l[k].fields.length e1))):=Stp.set al.o (by decide) _ _;have a5:=aj (B4 (zbh (Y.o.alloc _) aa.o) (k*4+2) (.slice p1 l[k].fields.length e1));clear m2 z2 y2 ci x2 cj al;clear q0 q1 q2 q3;generalize hw3:X.setCell ⟨g,k*4+2,none⟩ (.slice p1 l[k].fields.length e1)=w3 at*;clear hw3;refine (zjz w3 B _ _ (a7.o.keptM (Kp.below (ae.mono hB))) (lt3 hB ae.size) ad.o.2.1 ad.o.2.2).mono ?_;rintro r Z ⟨W,v2,rfl,bx⟩;have ba:=aj bx;obtain ⟨p2,e2,rfl,-⟩:=bx;have ai:=(W.block g (bz ah)).trans ah;have m4:Z.cell? ⟨g,k*4+3,none⟩=some (.slice o2 l[k].bd.length d2):=(W.cell (p:=⟨g,k*4+3,none⟩) (bz ah)).trans x3;have z4:Z.frozen? ⟨g,k*4+3,none⟩=false:=pq ai _;have ct:g<Z.heap.size:=bz ai;have N:Hid (∃zs':List (List Value×aq),zs'.map (·.2)=l/\(∀z∈zs',z.1.length=4)/\(∀(j:Nat) (h:j<zs'.length),j<k+1->RC (MT w.heap.size [125,159,123,248] (Z.setCell ⟨g,k*4+3,none⟩ (.slice p2 l[k].bd.length e2))) (Z.setCell ⟨g,k*4+3,none⟩ (.slice p2 l[k].bd.length e2)) zs'[j].1 zs'[j].2)/\(∀(j:Nat) (h:j<zs'.length),k+1<=j->RC (· <B) w zs'[j].1 zs'[j].2)/\(Z.setCell ⟨g,k*4+3,none⟩ (.slice p2 l[k].bd.length e2)).ownsRow w.heap.size 162 4 (.slice (some ⟨g,0,none⟩) l.length c0) l.length (zs'.flatMap (·.1))/\Bl w (Z.setCell ⟨g,k*4+3,none⟩ (.slice p2 l[k].bd.length e2))):=by
   obtain ⟨J,G,E,F,-,-⟩:=HI.o;have bs:Stp w.heap.size [125,159,123,248] Z (Z.setCell ⟨g,k*4+3,none⟩ (.slice p2 l[k].bd.length e2)):=Stp.set ai (by decide) _ _;have cm:Stp w.heap.size [125,159,123,248] w3 Z:=Stp.below W;have ck:Stp w.heap.size [125,159,123,248] wr X:=(Stp.alloc (Stp.refl _ _ _) _).trans (Stp.below aa.o);have bo:=(bb.o.trans cm).trans bs;have bj:=B4 (zbh a5.o W) (k*4+3) (.slice p2 l[k].bd.length e2);have cf:∀z∈zs.set k (zs[k].1.set 2 (.slice p1 l[k].fields.length e1),zs[k].2),z.1.length=4:=fun z hz=>by
    rcases mem_or_eq_of_mem_set hz with h | h
    ·exact G z h
    rw [h,length_set];exact G _ (gm I)
   rw [zjv zs k 2 _ G I (by decide),zjv _ k 3 _ cf (by rw [length_set];exact I) (by decide),set_set,getElem_set_self]at bj;refine ⟨zs.set k ((zs[k].1.set 2 (.slice p1 l[k].fields.length e1)).set 3 (.slice p2 l[k].bd.length e2),zs[k].2),?_,?_,?_,?_,bj,(ac.o.trans (W.mono ac.o.size)).setCell bi _⟩
   ·rw [map_set];refine (congrArg (fun x=>(zs.map (·.2)).set k x) (getElem_map (f:=fun z:List Value×aq=>z.2) (h:=by simpa using I)).symm).trans ?_;rw [set_getElem_self,J]
   ·intro z hz;rcases mem_or_eq_of_mem_set hz with h | h
    ·exact G z h
    rw [h,length_set,length_set];exact G _ (gm I)
   ·intro j h hj;have h':j<zs.length:=by simpa using h
    by_cases b7:j=k
    ·subst b7;rw [getElem_set_self,a3.o,a4.o];exact ⟨_,_,rfl,(a9.o.monoF (fun _ hk=>hk.more (T':=[125,159,123,248]) O.o.size (fun _ ht=>by simp at ht;simp [ht]))).stpF bo,(ba.o.monoM (fun _ hk=>hk.more (T':=[125,159,123,248]) ac.o.size (fun _ ht=>by simp at ht;simp [ht]))).stpM bs,a8.o⟩
    rw [getElem_set_ne (by omega)];exact ((E j h' (by omega)).stp ck).stp bo
   intro j h hj;have h':j<zs.length:=by simpa using h
   rw [getElem_set_ne (by omega)];exact F j h' (by omega)
  clear ac bb a5 a9 ba a6 a7 ad a3 Y a2 a4 a8 ah ai x3 W ae aa HI;have cs:l.length<=9223372036854775807:=by have:=ak.o;omega
  go_wp21
  go_roundw
  case rel=>exact ⟨k+1,N.o.choose,by omega,by go_num,N.o.choose_spec⟩
  case measure=>simp [intOf];omega
end Go.Proofs.YtjdnmblggdobgaaGreat
