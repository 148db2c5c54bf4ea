import Derived.Test.YtjdnmblggdobgaaGreatJLNoneLSaD
set_option maxHeartbeats 4000000
set_option maxRecDepth 100000
namespace Go.Proofs.YtjdnmblggdobgaaGreat
open Go.RowKit Tryz
theorem yd {α:Type} {n:Nat} {R:(Nat->Prop)->World->List Value->α->Prop} {M:Nat->Prop} {w:World} {v:Value} {l:List α} (hn:0<n) (h:SL n R M w v l):
 ∃zs:List (List Value×α),zs.map (·.2)=l/\(∀z∈zs,z.1.length=n/\R M w z.1 z.2)/\∀b off len cap,v=.slice (some ⟨b,off,none⟩) len cap->∀j u,(zs.flatMap (·.1))[j]? =some u->w.cell? ((⟨b,off,none⟩:Addr).add j)=some u:=by
 obtain ⟨ao,cap,hv,hc,hm,Z⟩:=h
 let cs:Fin l.length->List Value:=fun k=>Classical.choose (Classical.choose_spec (Classical.choose_spec (Z k.1 k.2)))
 have F:∀k:Fin l.length,∃b off,ao=some ⟨b,off,none⟩/\M b/\b<w.heap.size/\(cs k).length=n/\(∀j,j<n->w.cell? ⟨b,off+k.1*n+j,none⟩=(cs k)[j]?)/\R M w (cs k) l[k.1]:=fun k=>
  ⟨_,_,Classical.choose_spec (Classical.choose_spec (Classical.choose_spec (Z k.1 k.2)))⟩
 let zs:List (List Value×α):=List.ofFn fun k:Fin l.length=>(cs k,l[k.1])
 have V:zs.length=l.length:=by simp [zs]
 have E:∀(k:Nat) (h:k<zs.length),zs[k]=(cs ⟨k,by omega⟩,l[k]'(by omega)):=fun k h=>by simp [zs]
 have D:∀z∈zs,z.1.length=n/\R M w z.1 z.2:=fun z I=>by obtain ⟨k,N,rfl⟩:=List.mem_iff_getElem.1 I;rw [E k N];obtain ⟨b,off,-,-,-,h1,-,X⟩:=F ⟨k,by omega⟩;exact ⟨h1,X⟩
 refine ⟨zs,?_,D,?_⟩
 ·refine List.ext_getElem (by simp [V]) fun k h1 X=>?_;rw [List.getElem_map,E k (by simpa using h1)]
 intro b off len W A j u O;have L:∀zs:List (List Value×α),(∀z∈zs,z.1.length=n)->(zs.flatMap (·.1)).length=zs.length*n:=fun zs=>by
  induction zs with
  | nil=>intro _;simp
  | cons x zs ih=>
    intro Y;rw [List.flatMap_cons,List.length_append,ih (fun y hy=>Y y (by simp [hy])),Y x (by simp),List.length_cons,Nat.add_mul];omega
 have hj:j<zs.length*n:=by rw [<-L zs fun z I=>(D z I).1];exact (List.getElem?_eq_some_iff.1 O).1
 have hq:j / n<zs.length:=Nat.div_lt_of_lt_mul (by rw [Nat.mul_comm];exact hj);have hr:j % n<n:=Nat.mod_lt _ hn;have G:j / n*n+j % n=j:=by rw [Nat.mul_comm];exact Nat.div_add_mod j n
 rw [<-G,A5 (n:=n) (fun z:List Value×α=>z.1) zs (j / n) (j % n) (fun z I=>(D z I).1) hq hr,E _ hq]at O;obtain ⟨b',aa,e,-,-,-,J,-⟩:=F ⟨j / n,by omega⟩;rw [hv]at A;rw [e]at A;cases A;have:=J (j % n) hr;rw [ua,<-G,<-Nat.add_assoc];exact this.trans O
theorem zjx {α:Type} {zs:List (List Value×α)} {n:Nat} (h:∀z∈zs,z.1.length=n):(zs.flatMap (·.1)).length=zs.length*n:=by
 induction zs with
 | nil=>simp
 | cons x zs ih=>
   rw [List.flatMap_cons,List.length_append,ih (fun y A=>h y (by simp [A])),h x (by simp),List.length_cons,Nat.add_mul];omega
theorem Ae {α:Type} {n:Nat} {R:(Nat->Prop)->World->List Value->α->Prop} {M:Nat->Prop} {w:World} {v:Value} {l:List α} (h:SL n R M w v l):v.oneCell'=true:=by obtain ⟨A,c,rfl,-⟩:=h;rfl
theorem oneRK {M:Nat->Prop} {w:World} {A:List Value} {x:fm} (h:RK M w A x):∀u∈A,u.oneCell'=true:=by rw [h.1];intro u D;simp at D;rcases D with rfl | rfl<;>rfl
theorem oneRF {M:Nat->Prop} {w:World} {A:List Value} {x:bq} (h:RF M w A x):∀u∈A,u.oneCell'=true:=by rw [h.1];intro u D;simp at D;rcases D with rfl | rfl | rfl<;>rfl
theorem oneRH {M:Nat->Prop} {w:World} {A:List Value} {x:iz} (h:RH M w A x):∀u∈A,u.oneCell'=true:=by rw [h.1];intro u D;simp at D;rcases D with rfl | rfl | rfl | rfl<;>rfl
theorem oneRM {M:Nat->Prop} {w:World} {A:List Value} {x:d9} (h:RM M w A x):∀u∈A,u.oneCell'=true:=by obtain ⟨G,I,rfl,E,F,-⟩:=h;intro u D;simp at D;rcases D with rfl | rfl | rfl | rfl | rfl | rfl | rfl | rfl | rfl<;>first | rfl | exact Ae E | exact Ae F
theorem oneRC {M:Nat->Prop} {w:World} {A:List Value} {x:aq} (h:RC M w A x):∀u∈A,u.oneCell'=true:=by obtain ⟨G,I,rfl,E,F,-⟩:=h;intro u D;simp at D;rcases D with rfl | rfl | rfl | rfl<;>first | rfl | exact Ae E | exact Ae F
theorem Fl (w:World) (e n:Nat):(w.alloc (.cells #[] e)).ownsRow w.heap.size e n (.slice (some ⟨w.heap.size,0,none⟩) 0 0) 0 []:=
 ⟨by simp,Or.inr ⟨w.heap.size,0,#[],rfl,nlq _,heap_alloc_new w _,nlq _,by unfold maxLen;omega,by simp,by simp⟩⟩
theorem C5:(prog.info? 123).map (fun i=>(i.zero,i.size,i.bytes))=some (some (.agg #[.i 0,.string ⟨#[]⟩]),2,24):=by kernel_rfl
theorem Dd (c:Nat) (w:World):(binOp BinOp.eql 156 (.slice none 0 c) (.nl)).run prog w=.ok (.bool true) w:=by kernel_rfl
theorem Dj (a:Addr) (n c:Nat) (w:World):(binOp BinOp.eql 156 (.slice (some a) n c) (.nl)).run prog w=.ok (.bool false) w:=by kernel_rfl
theorem nilGK:prog.eqGuardType prog.depth 156=false:=by kernel_rfl
theorem zjz (w:World) (M:Nat->Prop) (v:Value) (l:List fm) (hv:SL 2 RK M w v l) (hl:l.length<=100000):
 Calls prog 214 #[v] w fun r w'=>Bl w w'/\∃(v':Value) (zs:List (List Value×fm)),r=.returned v'/\zs.map (·.2)=l/\(∀z∈zs,z.1.length=2/\RK M w z.1 z.2)/\w'.ownsRow w.heap.size 123 2 v' zs.length (zs.flatMap (·.1)):=by
 obtain ⟨iI,aa,al,an,ap⟩:=info_parts C5;have au:=Dd;have aw:=Dj;have av:=nilGK;obtain ⟨zs,J,E,L⟩:=yd (by decide) hv;have D:zs.length=l.length:=by rw [<-J,List.length_map]
 have Y:=ag hl;clear hl;have HM:=ag J;have HR:=ag E;have W:=ag (fun o=>(br w.heap.size w).alloc (nlq _) o);obtain ⟨ao,cl,rfl,-,-,F⟩:=hv;cases ao with
 | none=>
   have ak:l= []:=by
    cases l with
    | nil=>rfl
    | cons x l=>obtain ⟨b,off,cs,e,-⟩:=F 0 (by simp);cases e
   subst ak;have I:zs= []:=List.eq_nil_of_length_eq_zero (by simpa using D);subst I;clear F L J E D;go_enter func214,ntmps214;go_wp2_with fail;go_ret;exact ⟨br _ _,_,[],rfl,rfl,(fun z V=>by cases V),World.ownsRow_nil _ _ _ _⟩
 | some ad=>
   cases l with
   | nil=>
     have I:zs= []:=List.eq_nil_of_length_eq_zero (by simpa using D);subst I;have HE:=ag (Fl w 123 2);clear F L J E D;go_enter func214,ntmps214;go_wp2_with (at_builtin;refine Dp _ rfl _ _ 156 rfl 123 iI underlying156 aa (some ⟨w.heap.size,0,none⟩) 0 0 rfl (nlq _) (Or.inr ⟨_,rfl⟩) (some ad) cl rfl ?_);go_ret;exact ⟨W.o _,_,[],rfl,rfl,(fun z V=>by cases V),HE.o⟩
   | cons x l0=>
     generalize hL:x::l0=l at*;have ac:0<l.length:=by rw [<-hL];simp
     clear hL;obtain ⟨b,off,cs,e,-,hb,-⟩:=F 0 ac;cases e;have HC:=ag (L b off _ _ rfl);have ah:Hid ((zs.flatMap (·.1)).length=l.length*2):=by show _=_;rw [zjx fun z V=>(E z V).1,D]
     have H1:Hid (∀u∈zs.flatMap (·.1),u.oneCell'=true):=fun u O=>by obtain ⟨z,V,O⟩:=List.mem_flatMap.1 O;exact oneRK (E z V).2 u O
     have aj:=ag D;have G:0<0+l.length:=by omega
     have X:Hid (0+l.length<=maxLen/\(0+l.length)*24<=140737488355328):=(by have hl:=Y.o;exact ⟨by unfold maxLen;omega,by omega⟩);clear F L J E D;go_enter func214,ntmps214;go_wp2_with (at_builtin;refine wpList_append_grows _ rfl _ _ 156 rfl 123 iI (.agg #[.i 0,.string ⟨#[]⟩]) 2 24 underlying156 aa al an ap rfl (by decide) (some ⟨w.heap.size,0,none⟩) 0 0 [] rfl (fun e=>by cases e) (by simp) (fun _ _ j u O=>by simp at O) ⟨b,off,none⟩ l.length cl (zs.flatMap (·.1)) rfl ah.o (fun j u O=>by rw [ua];exact (World.cell?_alloc_past _ _ _ hb).trans (by have:=HC.o j u O;rwa [ua]at this)) H1.o G X.o.1 X.o.2 ?_;intro v9 w9 A N;have Z:Hid (w9.ownsRow w.heap.size 123 2 v9 zs.length (zs.flatMap (·.1))):=(by have h:=Ah A (B':=w.heap.size) (by simp);rw [Nat.zero_add,List.nil_append,<-aj.o]at h;exact h);have af:Hid (Bl w w9):=(W.o _).grown N (by simp) (fun q e=>by cases e);obtain ⟨g9,c9,e9,-⟩:=A.form G;subst e9;have ai:Hid (w9.ownsRow w.heap.size 123 2 (.slice (some ⟨g9,0,none⟩) l.length c9) zs.length (zs.flatMap (·.1))):=(by have h:=Z.o;rwa [Nat.zero_add]at h);clear A N Z);go_ret;exact ⟨af.o,_,zs,rfl,HM.o,HR.o,ai.o⟩
theorem C4:(prog.info? 248).map (fun i=>(i.zero,i.size,i.bytes))=some (some (.agg #[.i 0,.i 0,.i 0,.string ⟨#[]⟩]),4,40):=by kernel_rfl
theorem Db (c:Nat) (w:World):(binOp BinOp.eql 157 (.slice none 0 c) (.nl)).run prog w=.ok (.bool true) w:=by kernel_rfl
theorem Dh (a:Addr) (n c:Nat) (w:World):(binOp BinOp.eql 157 (.slice (some a) n c) (.nl)).run prog w=.ok (.bool false) w:=by kernel_rfl
theorem nilGH:prog.eqGuardType prog.depth 157=false:=by kernel_rfl
theorem zj0 (w:World) (M:Nat->Prop) (v:Value) (l:List iz) (hv:SL 4 RH M w v l) (hl:l.length<=100000):
 Calls prog 215 #[v] w fun r w'=>Bl w w'/\∃(v':Value) (zs:List (List Value×iz)),r=.returned v'/\zs.map (·.2)=l/\(∀z∈zs,z.1.length=4/\RH M w z.1 z.2)/\w'.ownsRow w.heap.size 248 4 v' zs.length (zs.flatMap (·.1)):=by
 obtain ⟨iI,aa,al,an,ap⟩:=info_parts C4;have au:=Db;have aw:=Dh;have av:=nilGH;obtain ⟨zs,J,E,L⟩:=yd (by decide) hv;have D:zs.length=l.length:=by rw [<-J,List.length_map]
 have Y:=ag hl;clear hl;have HM:=ag J;have HR:=ag E;have W:=ag (fun o=>(br w.heap.size w).alloc (nlq _) o);obtain ⟨ao,cl,rfl,-,-,F⟩:=hv;cases ao with
 | none=>
   have ak:l= []:=by
    cases l with
    | nil=>rfl
    | cons x l=>obtain ⟨b,off,cs,e,-⟩:=F 0 (by simp);cases e
   subst ak;have I:zs= []:=List.eq_nil_of_length_eq_zero (by simpa using D);subst I;clear F L J E D;go_enter func215,ntmps215;go_wp2_with fail;go_ret;exact ⟨br _ _,_,[],rfl,rfl,(fun z V=>by cases V),World.ownsRow_nil _ _ _ _⟩
 | some ad=>
   cases l with
   | nil=>
     have I:zs= []:=List.eq_nil_of_length_eq_zero (by simpa using D);subst I;have HE:=ag (Fl w 248 4);clear F L J E D;go_enter func215,ntmps215;go_wp2_with (at_builtin;refine Dp _ rfl _ _ 157 rfl 248 iI underlying157 aa (some ⟨w.heap.size,0,none⟩) 0 0 rfl (nlq _) (Or.inr ⟨_,rfl⟩) (some ad) cl rfl ?_);go_ret;exact ⟨W.o _,_,[],rfl,rfl,(fun z V=>by cases V),HE.o⟩
   | cons x l0=>
     generalize hL:x::l0=l at*;have ac:0<l.length:=by rw [<-hL];simp
     clear hL;obtain ⟨b,off,cs,e,-,hb,-⟩:=F 0 ac;cases e;have HC:=ag (L b off _ _ rfl);have ah:Hid ((zs.flatMap (·.1)).length=l.length*4):=by show _=_;rw [zjx fun z V=>(E z V).1,D]
     have H1:Hid (∀u∈zs.flatMap (·.1),u.oneCell'=true):=fun u O=>by obtain ⟨z,V,O⟩:=List.mem_flatMap.1 O;exact oneRH (E z V).2 u O
     have aj:=ag D;have G:0<0+l.length:=by omega
     have X:Hid (0+l.length<=maxLen/\(0+l.length)*40<=140737488355328):=(by have hl:=Y.o;exact ⟨by unfold maxLen;omega,by omega⟩);clear F L J E D;go_enter func215,ntmps215;go_wp2_with (at_builtin;refine wpList_append_grows _ rfl _ _ 157 rfl 248 iI (.agg #[.i 0,.i 0,.i 0,.string ⟨#[]⟩]) 4 40 underlying157 aa al an ap rfl (by decide) (some ⟨w.heap.size,0,none⟩) 0 0 [] rfl (fun e=>by cases e) (by simp) (fun _ _ j u O=>by simp at O) ⟨b,off,none⟩ l.length cl (zs.flatMap (·.1)) rfl ah.o (fun j u O=>by rw [ua];exact (World.cell?_alloc_past _ _ _ hb).trans (by have:=HC.o j u O;rwa [ua]at this)) H1.o G X.o.1 X.o.2 ?_;intro v9 w9 A N;have Z:Hid (w9.ownsRow w.heap.size 248 4 v9 zs.length (zs.flatMap (·.1))):=(by have h:=Ah A (B':=w.heap.size) (by simp);rw [Nat.zero_add,List.nil_append,<-aj.o]at h;exact h);have af:Hid (Bl w w9):=(W.o _).grown N (by simp) (fun q e=>by cases e);obtain ⟨g9,c9,e9,-⟩:=A.form G;subst e9;have ai:Hid (w9.ownsRow w.heap.size 248 4 (.slice (some ⟨g9,0,none⟩) l.length c9) zs.length (zs.flatMap (·.1))):=(by have h:=Z.o;rwa [Nat.zero_add]at h);clear A N Z);go_ret;exact ⟨af.o,_,zs,rfl,HM.o,HR.o,ai.o⟩
theorem C3:(prog.info? 125).map (fun i=>(i.zero,i.size,i.bytes))=some (some (.agg #[.string ⟨#[]⟩,.i 0,.string ⟨#[]⟩]),3,40):=by kernel_rfl
theorem Da (c:Nat) (w:World):(binOp BinOp.eql 126 (.slice none 0 c) (.nl)).run prog w=.ok (.bool true) w:=by kernel_rfl
theorem Dg (a:Addr) (n c:Nat) (w:World):(binOp BinOp.eql 126 (.slice (some a) n c) (.nl)).run prog w=.ok (.bool false) w:=by kernel_rfl
theorem nilGF:prog.eqGuardType prog.depth 126=false:=by kernel_rfl
theorem zj1 (w:World) (M:Nat->Prop) (v:Value) (l:List bq) (hv:SL 3 RF M w v l) (hl:l.length<=100000):
 Calls prog 163 #[v] w fun r w'=>Bl w w'/\∃(v':Value) (zs:List (List Value×bq)),r=.returned v'/\zs.map (·.2)=l/\(∀z∈zs,z.1.length=3/\RF M w z.1 z.2)/\w'.ownsRow w.heap.size 125 3 v' zs.length (zs.flatMap (·.1)):=by
 obtain ⟨iI,aa,al,an,ap⟩:=info_parts C3;have au:=Da;have aw:=Dg;have av:=nilGF;obtain ⟨zs,J,E,L⟩:=yd (by decide) hv;have D:zs.length=l.length:=by rw [<-J,List.length_map]
 have Y:=ag hl;clear hl;have HM:=ag J;have HR:=ag E;have W:=ag (fun o=>(br w.heap.size w).alloc (nlq _) o);obtain ⟨ao,cl,rfl,-,-,F⟩:=hv;cases ao with
 | none=>
   have ak:l= []:=by
    cases l with
    | nil=>rfl
    | cons x l=>obtain ⟨b,off,cs,e,-⟩:=F 0 (by simp);cases e
   subst ak;have I:zs= []:=List.eq_nil_of_length_eq_zero (by simpa using D);subst I;clear F L J E D;go_enter func163,ntmps163;go_wp2_with fail;go_ret;exact ⟨br _ _,_,[],rfl,rfl,(fun z V=>by cases V),World.ownsRow_nil _ _ _ _⟩
 | some ad=>
   cases l with
   | nil=>
     have I:zs= []:=List.eq_nil_of_length_eq_zero (by simpa using D);subst I;have HE:=ag (Fl w 125 3);clear F L J E D;go_enter func163,ntmps163;go_wp2_with (at_builtin;refine Dp _ rfl _ _ 126 rfl 125 iI underlying126 aa (some ⟨w.heap.size,0,none⟩) 0 0 rfl (nlq _) (Or.inr ⟨_,rfl⟩) (some ad) cl rfl ?_);go_ret;exact ⟨W.o _,_,[],rfl,rfl,(fun z V=>by cases V),HE.o⟩
   | cons x l0=>
     generalize hL:x::l0=l at*;have ac:0<l.length:=by rw [<-hL];simp
     clear hL;obtain ⟨b,off,cs,e,-,hb,-⟩:=F 0 ac;cases e;have HC:=ag (L b off _ _ rfl);have ah:Hid ((zs.flatMap (·.1)).length=l.length*3):=by show _=_;rw [zjx fun z V=>(E z V).1,D]
     have H1:Hid (∀u∈zs.flatMap (·.1),u.oneCell'=true):=fun u O=>by obtain ⟨z,V,O⟩:=List.mem_flatMap.1 O;exact oneRF (E z V).2 u O
     have aj:=ag D;have G:0<0+l.length:=by omega
     have X:Hid (0+l.length<=maxLen/\(0+l.length)*40<=140737488355328):=(by have hl:=Y.o;exact ⟨by unfold maxLen;omega,by omega⟩);clear F L J E D;go_enter func163,ntmps163;go_wp2_with (at_builtin;refine wpList_append_grows _ rfl _ _ 126 rfl 125 iI (.agg #[.string ⟨#[]⟩,.i 0,.string ⟨#[]⟩]) 3 40 underlying126 aa al an ap rfl (by decide) (some ⟨w.heap.size,0,none⟩) 0 0 [] rfl (fun e=>by cases e) (by simp) (fun _ _ j u O=>by simp at O) ⟨b,off,none⟩ l.length cl (zs.flatMap (·.1)) rfl ah.o (fun j u O=>by rw [ua];exact (World.cell?_alloc_past _ _ _ hb).trans (by have:=HC.o j u O;rwa [ua]at this)) H1.o G X.o.1 X.o.2 ?_;intro v9 w9 A N;have Z:Hid (w9.ownsRow w.heap.size 125 3 v9 zs.length (zs.flatMap (·.1))):=(by have h:=Ah A (B':=w.heap.size) (by simp);rw [Nat.zero_add,List.nil_append,<-aj.o]at h;exact h);have af:Hid (Bl w w9):=(W.o _).grown N (by simp) (fun q e=>by cases e);obtain ⟨g9,c9,e9,-⟩:=A.form G;subst e9;have ai:Hid (w9.ownsRow w.heap.size 125 3 (.slice (some ⟨g9,0,none⟩) l.length c9) zs.length (zs.flatMap (·.1))):=(by have h:=Z.o;rwa [Nat.zero_add]at h);clear A N Z);go_ret;exact ⟨af.o,_,zs,rfl,HM.o,HR.o,ai.o⟩
theorem C6:(prog.info? 159).map (fun i=>(i.zero,i.size,i.bytes))=some (some (.agg #[.string ⟨#[]⟩,.bool false,.nl,.i 0,.string ⟨#[]⟩,.i 0,.i 0,.string ⟨#[]⟩,.nl]),9,128):=by kernel_rfl
theorem De (c:Nat) (w:World):(binOp BinOp.eql 160 (.slice none 0 c) (.nl)).run prog w=.ok (.bool true) w:=by kernel_rfl
theorem Dk (a:Addr) (n c:Nat) (w:World):(binOp BinOp.eql 160 (.slice (some a) n c) (.nl)).run prog w=.ok (.bool false) w:=by kernel_rfl
theorem nilGM:prog.eqGuardType prog.depth 160=false:=by kernel_rfl
theorem zj2 (w:World) (M:Nat->Prop) (v:Value) (l:List d9) (hv:SL 9 RM M w v l) (hl:l.length<=100000):
 Calls prog 213 #[v] w fun r w'=>Bl w w'/\∃(v':Value) (zs:List (List Value×d9)),r=.returned v'/\zs.map (·.2)=l/\(∀z∈zs,z.1.length=9/\RM M w z.1 z.2)/\w'.ownsRow w.heap.size 159 9 v' zs.length (zs.flatMap (·.1)):=by
 obtain ⟨iI,aa,al,an,ap⟩:=info_parts C6;have au:=De;have aw:=Dk;have av:=nilGM;obtain ⟨zs,J,E,L⟩:=yd (by decide) hv;have D:zs.length=l.length:=by rw [<-J,List.length_map]
 have Y:=ag hl;clear hl;have HM:=ag J;have HR:=ag E;have W:=ag (fun o=>(br w.heap.size w).alloc (nlq _) o);obtain ⟨ao,cl,rfl,-,-,F⟩:=hv;cases ao with
 | none=>
   have ak:l= []:=by
    cases l with
    | nil=>rfl
    | cons x l=>obtain ⟨b,off,cs,e,-⟩:=F 0 (by simp);cases e
   subst ak;have I:zs= []:=List.eq_nil_of_length_eq_zero (by simpa using D);subst I;clear F L J E D;go_enter func213,ntmps213;go_wp2_with fail;go_ret;exact ⟨br _ _,_,[],rfl,rfl,(fun z V=>by cases V),World.ownsRow_nil _ _ _ _⟩
 | some ad=>
   cases l with
   | nil=>
     have I:zs= []:=List.eq_nil_of_length_eq_zero (by simpa using D);subst I;have HE:=ag (Fl w 159 9);clear F L J E D;go_enter func213,ntmps213;go_wp2_with (at_builtin;refine Dp _ rfl _ _ 160 rfl 159 iI underlying160 aa (some ⟨w.heap.size,0,none⟩) 0 0 rfl (nlq _) (Or.inr ⟨_,rfl⟩) (some ad) cl rfl ?_);go_ret;exact ⟨W.o _,_,[],rfl,rfl,(fun z V=>by cases V),HE.o⟩
   | cons x l0=>
     generalize hL:x::l0=l at*;have ac:0<l.length:=by rw [<-hL];simp
     clear hL;obtain ⟨b,off,cs,e,-,hb,-⟩:=F 0 ac;cases e;have HC:=ag (L b off _ _ rfl);have ah:Hid ((zs.flatMap (·.1)).length=l.length*9):=by show _=_;rw [zjx fun z V=>(E z V).1,D]
     have H1:Hid (∀u∈zs.flatMap (·.1),u.oneCell'=true):=fun u O=>by obtain ⟨z,V,O⟩:=List.mem_flatMap.1 O;exact oneRM (E z V).2 u O
     have aj:=ag D;have G:0<0+l.length:=by omega
     have X:Hid (0+l.length<=maxLen/\(0+l.length)*128<=140737488355328):=(by have hl:=Y.o;exact ⟨by unfold maxLen;omega,by omega⟩);clear F L J E D;go_enter func213,ntmps213;go_wp2_with (at_builtin;refine wpList_append_grows _ rfl _ _ 160 rfl 159 iI (.agg #[.string ⟨#[]⟩,.bool false,.nl,.i 0,.string ⟨#[]⟩,.i 0,.i 0,.string ⟨#[]⟩,.nl]) 9 128 underlying160 aa al an ap rfl (by decide) (some ⟨w.heap.size,0,none⟩) 0 0 [] rfl (fun e=>by cases e) (by simp) (fun _ _ j u O=>by simp at O) ⟨b,off,none⟩ l.length cl (zs.flatMap (·.1)) rfl ah.o (fun j u O=>by rw [ua];exact (World.cell?_alloc_past _ _ _ hb).trans (by have:=HC.o j u O;rwa [ua]at this)) H1.o G X.o.1 X.o.2 ?_;intro v9 w9 A N;have Z:Hid (w9.ownsRow w.heap.size 159 9 v9 zs.length (zs.flatMap (·.1))):=(by have h:=Ah A (B':=w.heap.size) (by simp);rw [Nat.zero_add,List.nil_append,<-aj.o]at h;exact h);have af:Hid (Bl w w9):=(W.o _).grown N (by simp) (fun q e=>by cases e);obtain ⟨g9,c9,e9,-⟩:=A.form G;subst e9;have ai:Hid (w9.ownsRow w.heap.size 159 9 (.slice (some ⟨g9,0,none⟩) l.length c9) zs.length (zs.flatMap (·.1))):=(by have h:=Z.o;rwa [Nat.zero_add]at h);clear A N Z);go_ret;exact ⟨af.o,_,zs,rfl,HM.o,HR.o,ai.o⟩
theorem C2:(prog.info? 162).map (fun i=>(i.zero,i.size,i.bytes))=some (some (.agg #[.string ⟨#[]⟩,.string ⟨#[]⟩,.nl,.nl]),4,80):=by kernel_rfl
theorem C9 (c:Nat) (w:World):(binOp BinOp.eql 31 (.slice none 0 c) (.nl)).run prog w=.ok (.bool true) w:=by kernel_rfl
theorem Df (a:Addr) (n c:Nat) (w:World):(binOp BinOp.eql 31 (.slice (some a) n c) (.nl)).run prog w=.ok (.bool false) w:=by kernel_rfl
theorem nilGC:prog.eqGuardType prog.depth 31=false:=by kernel_rfl
theorem zj3 (w:World) (M:Nat->Prop) (v:Value) (l:List aq) (hv:SL 4 RC M w v l) (hl:l.length<=100000):
 Calls prog 162 #[v] w fun r w'=>Bl w w'/\∃(v':Value) (zs:List (List Value×aq)),r=.returned v'/\zs.map (·.2)=l/\(∀z∈zs,z.1.length=4/\RC M w z.1 z.2)/\w'.ownsRow w.heap.size 162 4 v' zs.length (zs.flatMap (·.1)):=by
 obtain ⟨iI,aa,al,an,ap⟩:=info_parts C2;have au:=C9;have aw:=Df;have av:=nilGC;obtain ⟨zs,J,E,L⟩:=yd (by decide) hv;have D:zs.length=l.length:=by rw [<-J,List.length_map]
 have Y:=ag hl;clear hl;have HM:=ag J;have HR:=ag E;have W:=ag (fun o=>(br w.heap.size w).alloc (nlq _) o);obtain ⟨ao,cl,rfl,-,-,F⟩:=hv;cases ao with
 | none=>
   have ak:l= []:=by
    cases l with
    | nil=>rfl
    | cons x l=>obtain ⟨b,off,cs,e,-⟩:=F 0 (by simp);cases e
   subst ak;have I:zs= []:=List.eq_nil_of_length_eq_zero (by simpa using D);subst I;clear F L J E D;go_enter func162,ntmps162;go_wp2_with fail;go_ret;exact ⟨br _ _,_,[],rfl,rfl,(fun z V=>by cases V),World.ownsRow_nil _ _ _ _⟩
 | some ad=>
   cases l with
   | nil=>
     have I:zs= []:=List.eq_nil_of_length_eq_zero (by simpa using D);subst I;have HE:=ag (Fl w 162 4);clear F L J E D;go_enter func162,ntmps162;go_wp2_with (at_builtin;refine Dp _ rfl _ _ 31 rfl 162 iI underlying31 aa (some ⟨w.heap.size,0,none⟩) 0 0 rfl (nlq _) (Or.inr ⟨_,rfl⟩) (some ad) cl rfl ?_);go_ret;exact ⟨W.o _,_,[],rfl,rfl,(fun z V=>by cases V),HE.o⟩
   | cons x l0=>
     generalize hL:x::l0=l at*;have ac:0<l.length:=by rw [<-hL];simp
     clear hL;obtain ⟨b,off,cs,e,-,hb,-⟩:=F 0 ac;cases e;have HC:=ag (L b off _ _ rfl);have ah:Hid ((zs.flatMap (·.1)).length=l.length*4):=by show _=_;rw [zjx fun z V=>(E z V).1,D]
     have H1:Hid (∀u∈zs.flatMap (·.1),u.oneCell'=true):=fun u O=>by obtain ⟨z,V,O⟩:=List.mem_flatMap.1 O;exact oneRC (E z V).2 u O
     have aj:=ag D;have G:0<0+l.length:=by omega
     have X:Hid (0+l.length<=maxLen/\(0+l.length)*80<=140737488355328):=(by have hl:=Y.o;exact ⟨by unfold maxLen;omega,by omega⟩);clear F L J E D;go_enter func162,ntmps162;go_wp2_with (at_builtin;refine wpList_append_grows _ rfl _ _ 31 rfl 162 iI (.agg #[.string ⟨#[]⟩,.string ⟨#[]⟩,.nl,.nl]) 4 80 underlying31 aa al an ap rfl (by decide) (some ⟨w.heap.size,0,none⟩) 0 0 [] rfl (fun e=>by cases e) (by simp) (fun _ _ j u O=>by simp at O) ⟨b,off,none⟩ l.length cl (zs.flatMap (·.1)) rfl ah.o (fun j u O=>by rw [ua];exact (World.cell?_alloc_past _ _ _ hb).trans (by have:=HC.o j u O;rwa [ua]at this)) H1.o G X.o.1 X.o.2 ?_;intro v9 w9 A N;have Z:Hid (w9.ownsRow w.heap.size 162 4 v9 zs.length (zs.flatMap (·.1))):=(by have h:=Ah A (B':=w.heap.size) (by simp);rw [Nat.zero_add,List.nil_append,<-aj.o]at h;exact h);have af:Hid (Bl w w9):=(W.o _).grown N (by simp) (fun q e=>by cases e);obtain ⟨g9,c9,e9,-⟩:=A.form G;subst e9;have ai:Hid (w9.ownsRow w.heap.size 162 4 (.slice (some ⟨g9,0,none⟩) l.length c9) zs.length (zs.flatMap (·.1))):=(by have h:=Z.o;rwa [Nat.zero_add]at h);clear A N Z);go_ret;exact ⟨af.o,_,zs,rfl,HM.o,HR.o,ai.o⟩
theorem zj4 {α:Type} {n:Nat} :∀(zs:List (List Value×α)) (k j:Nat) (v:Value),(∀z∈zs,z.1.length=n)->(hk:k<zs.length)->j<n->(zs.flatMap (·.1)).set (k*n+j) v=(zs.set k (zs[k].1.set j v,zs[k].2)).flatMap (·.1)
 | [],k,j,v,_,hk,_=>by simp at hk
 | x::zs,0,j,v,h,_,hj=>by have A:=h x (List.mem_cons_self ..);simp [A,hj]
 | x::zs,k+1,j,v,h,hk,hj=>by
   have A:=h x (List.mem_cons_self ..);have D:k<zs.length:=by simpa using hk
   have I:=zj4 zs k j v (fun z G=>h z (List.mem_cons_of_mem _ G)) D hj;have E:¬(k+1)*n+j<x.1.length:=by rw [A,Nat.add_mul];omega
   have F:(k+1)*n+j - x.1.length=k*n+j:=by rw [A,Nat.add_mul];omega
   simp only [List.flatMap_cons,List.set_append,E,if_false,F,I,p3q,p6q]
theorem zj5 (w:World) (M:Nat->Prop) (v:Value) (l:List fm) (L:SL 2 RK M w v l) (G:l.length<=100000):
 Calls prog 214 #[v] w fun r w'=>Bl w w'/\∃A,r=.returned A/\SL 2 RK (MT w.heap.size [123] w') w' A l:=
 (zjz w M v l L G).mono fun _ w' ⟨F,A,zs,J,D,E,I⟩=>⟨F,A,J,by
  rw [<-D];exact vz (T:=[123]) I E (by simp) (by have E:zs.length=l.length:=(by rw [<-D,List.length_map]);unfold maxLen;omega)⟩
theorem zj6 (w:World) (M:Nat->Prop) (v:Value) (l:List iz) (L:SL 4 RH M w v l) (G:l.length<=100000):
 Calls prog 215 #[v] w fun r w'=>Bl w w'/\∃A,r=.returned A/\SL 4 RH (MT w.heap.size [248] w') w' A l:=
 (zj0 w M v l L G).mono fun _ w' ⟨F,A,zs,J,D,E,I⟩=>⟨F,A,J,by
  rw [<-D];exact vz (T:=[248]) I E (by simp) (by have E:zs.length=l.length:=(by rw [<-D,List.length_map]);unfold maxLen;omega)⟩
theorem zj7 (w:World) (M:Nat->Prop) (v:Value) (l:List bq) (L:SL 3 RF M w v l) (G:l.length<=100000):
 Calls prog 163 #[v] w fun r w'=>Bl w w'/\∃A,r=.returned A/\SL 3 RF (MT w.heap.size [125] w') w' A l:=
 (zj1 w M v l L G).mono fun _ w' ⟨F,A,zs,J,D,E,I⟩=>⟨F,A,J,by
  rw [<-D];exact vz (T:=[125]) I E (by simp) (by have E:zs.length=l.length:=(by rw [<-D,List.length_map]);unfold maxLen;omega)⟩
theorem zj8 (w:World) (B:Nat) (v:Value) (l:List d9) (hv:SL 9 RM (· <B) w v l) (hB:B<=w.heap.size) (hl:l.length<=100000) (hf:∀x∈l,x.args.length<=100000/\x.hands.length<=100000):
 Calls prog 164 #[v] w fun r w'=>Bl w w'/\∃v',r=.returned v'/\SL 9 RM (MT w.heap.size [159,123,248] w') w' v' l:=by
 have HV:=ag hv;have az:=ag (zj2 w (· <B) v l hv hl);have ai:=ag hl;have HF:=ag hf;obtain ⟨ao,ca,rfl,-⟩:=hv;clear hl hf;go_enter func164,ntmps164;go_wp2_with (go_at_call 213;refine az.o.mono ?_;rintro r w1 ⟨be,v',bx,rfl,J,bm,D⟩;have O:=ag be;have bc:=ag J;have al:=ag bm;have bn:bx.length=l.length:=(by rw [<-J,List.length_map]);rw [bn]at D;have Y:=ag D;obtain ⟨a0,c0,e0⟩:∃a0 c0,v'=.slice a0 l.length c0:=(by rcases D.2 with ⟨e,h0⟩ | ⟨g,cap,V,e,-⟩;(exact ⟨none,0,by rw [e,h0]⟩);(exact ⟨_,_,e⟩));subst e0;clear be J bm D);clear az;go_loopw [9] (fun i wr=>∃(k:Nat) (zs:List (List Value×d9)),k<=l.length/\i=.i k/\Hid (zs.map (·.2)=l/\(∀z∈zs,z.1.length=9)/\(∀(j:Nat) (h:j<zs.length),j<k->RM (MT w.heap.size [123,248] wr) wr zs[j].1 zs[j].2)/\(∀(j:Nat) (h:j<zs.length),k<=j->RM (· <B) w zs[j].1 zs[j].2)/\wr.ownsRow w.heap.size 159 9 (.slice a0 l.length c0) l.length (zs.flatMap (·.1))/\Bl w wr)) (fun i _=>l.length - (intOf i).toNat)
 case atStart=>exact ⟨0,bx,n0q _,rfl,bc.o,(fun z hz=>(al.o z hz).1),(fun j h hj=>by omega),(fun j h _=>(al.o _ (gm h)).2),Y.o,O.o⟩
 case round=>
  clear bc al Y O;obtain ⟨k,zs,hk,rfl,HI⟩:=hrel;obtain ⟨J,G,E,F,D,au⟩:=HI.o;have cf:zs.length=l.length:=by rw [<-J,List.length_map]
  have cc:w.heap.size<=wr.heap.size:=au.size;by_cases b7:k<l.length
  ·have I:k<zs.length:=by omega
   obtain ⟨g,cap,V,eg,bg,aw,b2,b3,b4,b5⟩:∃g cap V,Value.slice a0 l.length c0=.slice (some ⟨g,0,none⟩) l.length cap/\w.heap.size<=g/\wr.heap[g]? =some (.cells V 159 (0,0))/\l.length<=cap/\cap<=maxLen/\V.size=cap*9/\V.toList.take (l.length*9)=zs.flatMap (·.1):=by
    rcases D.2 with ⟨e,h0⟩ | h
    ·omega
    exact h
   obtain ⟨rfl,rfl⟩:a0=some ⟨g,0,none⟩/\c0=cap:=by injection eg with h1 h2 h3;exact ⟨h1,h3⟩
   have ay:zs[k].2=l[k]:=by have:=List.getElem_map (f:=fun z:List Value×d9=>z.2) (l:=zs) (i:=k) (h:=by simpa using I);rw [<-this];congr 1
   have bl:=F k I (nlq _);rw [ay]at bl;obtain ⟨va,vh,av,s1,s2,bi⟩:=bl;have A:∀j u,zs[k].1[j]? =some u->wr.cell? ⟨g,k*9+j,none⟩=some u:=fun j u hu=>by
    have hj:j<9:=by have:=(List.getElem?_eq_some_iff.1 hu).1;rw [G _ (gm I)]at this;exact this
    have:=D.cells (g:=g) rfl (k*9+j) u (by rw [A5 (n:=9) (fun z:List Value×d9=>z.1) zs k j G I hj];exact hu);rwa [ua,Nat.zero_add]at this
   rw [av]at A;have q0:wr.cell? ⟨g,k*9,none⟩=some (.string l[k].name):=A 0 _ rfl;have q1:wr.cell? ⟨g,k*9+1,none⟩=some (.bool l[k].static):=A 1 _ rfl;have q2:wr.cell? ⟨g,k*9+2,none⟩=some (va):=A 2 _ rfl;have q3:wr.cell? ⟨g,k*9+3,none⟩=some (.i l[k].ret.kind):=A 3 _ rfl;have q4:wr.cell? ⟨g,k*9+4,none⟩=some (.string l[k].ret.de):=A 4 _ rfl;have q5:wr.cell? ⟨g,k*9+5,none⟩=some (.i l[k].stack):=A 5 _ rfl;have q6:wr.cell? ⟨g,k*9+6,none⟩=some (.i l[k].locals):=A 6 _ rfl;have q7:wr.cell? ⟨g,k*9+7,none⟩=some (.string l[k].code):=A 7 _ rfl;have q8:wr.cell? ⟨g,k*9+8,none⟩=some (vh):=A 8 _ rfl;have ax:g<wr.heap.size:=bz aw;have a5:=ag s1;have a6:=ag s2;obtain ⟨o1,d1,rfl,-⟩:=s1;obtain ⟨o2,d2,rfl,-⟩:=s2;have bf:=HF.o l[k] (gm b7);have aj:=ag bf;have a2:=ag av;have Y:=ag D;have a1:=ag aw;have a3:=ag ay;have a7:=ag bi;have cl:(0:Int)<=k:=by omega
   have cm:(k:Int)<l.length:=by omega
   clear bf A av D aw b2 b3 b4 b5 E F G J ay eg bi;have cn:wr.heap.size≠g:=by omega
   have an:Bl w (wr.alloc (.cells #[.string l[k].name,.bool l[k].static,.slice o1 l[k].args.length d1,.i l[k].ret.kind,.string l[k].ret.de,.i l[k].stack,.i l[k].locals,.string l[k].code,.slice o2 l[k].hands.length d2] 159)):=au.alloc cc _;have O:=ag an;have b1:=ag (zj5 (wr.alloc (.cells #[.string l[k].name,.bool l[k].static,.slice o1 l[k].args.length d1,.i l[k].ret.kind,.string l[k].ret.de,.i l[k].stack,.i l[k].locals,.string l[k].code,.slice o2 l[k].hands.length d2] 159)) (· <B) _ _ (a5.o.keptK (Kp.below (an.mono hB))) aj.o.1);clear an;go_wp2_with fail;refine b1.o.mono ?_;rintro r X ⟨L,v1,rfl,bu⟩;have aa:=ag L;have a8:=ag bu;obtain ⟨p1,e1,rfl,-⟩:=bu;have ad:X.heap[g]? =some (.cells V 159 (0,0)):=((L.block g (by simp;omega)).trans ((Below.heap_alloc _ _ _ ax).trans a1.o));have m2:X.cell? ⟨g,k*9+2,none⟩=some (.slice o1 l[k].args.length d1):=((L.cell (p:=⟨g,k*9+2,none⟩) (by simp;omega)).trans ((World.cell?_alloc_past _ _ _ ax).trans q2));have z2:X.frozen? ⟨g,k*9+2,none⟩=false:=pj ad _;have y2:X.cell? ⟨wr.heap.size,8,none⟩=some (.slice o2 l[k].hands.length d2):=((L.cell (p:=⟨wr.heap.size,8,none⟩) (by simp)).trans (by simp [go_sem]));have ci:g<X.heap.size:=bz ad;have ch:wr.heap.size<X.heap.size:=(by have:=L.size;simp at this;omega);have x2:X.cell? ⟨g,k*9+8,none⟩=some (.slice o2 l[k].hands.length d2):=((L.cell (p:=⟨g,k*9+8,none⟩) (by simp;omega)).trans ((World.cell?_alloc_past _ _ _ ax).trans q8));have ak:=ag ad;clear L ad;go_wp2_with fail;have ap:Bl w (X.setCell ⟨g,k*9+2,none⟩ (.slice p1 l[k].args.length e1)):=(O.o.trans (aa.o.mono O.o.size)).setCell bg _;have ac:=ag ap;have af:=rr (j:=k*9+2) ak.o (.slice p1 l[k].args.length e1);have x3:(X.setCell ⟨g,k*9+2,none⟩ (.slice p1 l[k].args.length e1)).cell? ⟨g,k*9+8,none⟩=some (.slice o2 l[k].hands.length d2):=(World.cell?_setCell_other _ _ _ _ (by simp)).trans x2;have bb:Hid (Stp w.heap.size [123,248] X (X.setCell ⟨g,k*9+2,none⟩ (.slice p1 l[k].args.length e1))):=Stp.set ak.o (by decide) _ _;have a4:=ag (A7 (zbh (Y.o.alloc _) aa.o) (k*9+2) (.slice p1 l[k].args.length e1));clear m2 z2 y2 ch x2 ci ak;clear q0 q1 q2 q3 q4 q5 q6 q7 q8;generalize hw3:X.setCell ⟨g,k*9+2,none⟩ (.slice p1 l[k].args.length e1)=w3 at*;clear hw3;refine (zj6 w3 (· <B) _ _ (a6.o.keptH (Kp.below (ap.mono hB))) aj.o.2).mono ?_;rintro r Z ⟨W,v2,rfl,bv⟩;have a9:=ag bv;obtain ⟨p2,e2,rfl,-⟩:=bv;have ah:=(W.block g (bz af)).trans af;have m4:Z.cell? ⟨g,k*9+8,none⟩=some (.slice o2 l[k].hands.length d2):=(W.cell (p:=⟨g,k*9+8,none⟩) (bz af)).trans x3;have z4:Z.frozen? ⟨g,k*9+8,none⟩=false:=pj ah _;have cr:g<Z.heap.size:=bz ah;have N:Hid (∃zs':List (List Value×d9),zs'.map (·.2)=l/\(∀z∈zs',z.1.length=9)/\(∀(j:Nat) (h:j<zs'.length),j<k+1->RM (MT w.heap.size [123,248] (Z.setCell ⟨g,k*9+8,none⟩ (.slice p2 l[k].hands.length e2))) (Z.setCell ⟨g,k*9+8,none⟩ (.slice p2 l[k].hands.length e2)) zs'[j].1 zs'[j].2)/\(∀(j:Nat) (h:j<zs'.length),k+1<=j->RM (· <B) w zs'[j].1 zs'[j].2)/\(Z.setCell ⟨g,k*9+8,none⟩ (.slice p2 l[k].hands.length e2)).ownsRow w.heap.size 159 9 (.slice (some ⟨g,0,none⟩) l.length c0) l.length (zs'.flatMap (·.1))/\Bl w (Z.setCell ⟨g,k*9+8,none⟩ (.slice p2 l[k].hands.length e2))):=by
    obtain ⟨J,G,E,F,-,-⟩:=HI.o;have bs:Stp w.heap.size [123,248] Z (Z.setCell ⟨g,k*9+8,none⟩ (.slice p2 l[k].hands.length e2)):=Stp.set ah (by decide) _ _;have ck:Stp w.heap.size [123,248] w3 Z:=Stp.below W;have cj:Stp w.heap.size [123,248] wr X:=(Stp.alloc (Stp.refl _ _ _) _).trans (Stp.below aa.o);have bo:=(bb.o.trans ck).trans bs;have bh:=A7 (zbh a4.o W) (k*9+8) (.slice p2 l[k].hands.length e2);have ce:∀z∈zs.set k (zs[k].1.set 2 (.slice p1 l[k].args.length e1),zs[k].2),z.1.length=9:=fun z hz=>by
     rcases List.mem_or_eq_of_mem_set hz with h | h
     ·exact G z h
     rw [h,List.length_set];exact G _ (gm I)
    rw [zj4 zs k 2 _ G I (by decide),zj4 _ k 8 _ ce (by rw [List.length_set];exact I) (by decide),List.set_set,List.getElem_set_self]at bh;refine ⟨zs.set k ((zs[k].1.set 2 (.slice p1 l[k].args.length e1)).set 8 (.slice p2 l[k].hands.length e2),zs[k].2),?_,?_,?_,?_,bh,(ac.o.trans (W.mono ac.o.size)).setCell bg _⟩
    ·rw [List.map_set];refine (congrArg (fun x=>(zs.map (·.2)).set k x) (List.getElem_map (f:=fun z:List Value×d9=>z.2) (h:=by simpa using I)).symm).trans ?_;rw [List.set_getElem_self,J]
    ·intro z hz;rcases List.mem_or_eq_of_mem_set hz with h | h
     ·exact G z h
     rw [h,List.length_set,List.length_set];exact G _ (gm I)
    ·intro j h hj;have h':j<zs.length:=by simpa using h
     by_cases b6:j=k
     ·subst b6;rw [List.getElem_set_self,a2.o,a3.o];exact ⟨_,_,rfl,(a8.o.monoK (fun _ hk=>hk.more (T':=[123,248]) O.o.size (fun _ ht=>by simp at ht;simp [ht]))).stpK bo,(a9.o.monoH (fun _ hk=>hk.more (T':=[123,248]) ac.o.size (fun _ ht=>by simp at ht;simp [ht]))).stpH bs,a7.o⟩
     rw [List.getElem_set_ne (by omega)];exact ((E j h' (by omega)).stp cj).stp bo
    intro j h hj;have h':j<zs.length:=by simpa using h
    rw [List.getElem_set_ne (by omega)];exact F j h' (by omega)
   clear ac bb a4 a8 a9 a5 a6 aj a2 Y a1 a3 a7 af ah x3 W ap aa HI;have cp:l.length<=9223372036854775807:=by have:=ai.o;omega
   go_wp2_with fail;go_roundw
   case rel=>exact ⟨k+1,N.o.choose,by omega,by go_num,N.o.choose_spec⟩
   case measure=>simp [intOf];omega
  have co:k=l.length:=by omega
  have N:Hid (SL 9 RM (MT w.heap.size [159,123,248] wr) wr (.slice a0 l.length c0) l):=by
   have:=vz (R:=RM) (T:=[159,123,248]) (zs:=zs) (n:=9) (by rw [cf];exact D) (fun z hz=>⟨G z hz,by
    obtain ⟨j,hj,rfl⟩:=List.mem_iff_getElem.1 hz;exact (E j hj (by omega)).mono fun _ hk=>hk.more (nlq _) (fun _ ht=>List.mem_cons_of_mem _ ht)⟩) (by simp) (by have:=ai.o;unfold maxLen;omega)
   rw [J]at this;exact this
  have b0:=ag au;clear D E F G HI;go_wp2_with fail;go_ret;exact ⟨b0.o,_,rfl,N.o⟩
theorem zj9 (w:World) (B:Nat) (v:Value) (l:List aq) (hv:SL 4 RC (· <B) w v l) (hB:B<=w.heap.size) (hl:l.length<=100000) (hf:∀x∈l,x.fields.length<=100000/\x.be.length<=100000/\∀m∈x.be,m.args.length<=100000/\m.hands.length<=100000):
 Calls prog 102 #[v] w fun r w'=>Bl w w'/\∃v',r=.returned v'/\SL 4 RC (MT w.heap.size [162,125,159,123,248] w') w' v' l:=by
 have HV:=ag hv;have az:=ag (zj3 w (· <B) v l hv hl);have ak:=ag hl;have HF:=ag hf;obtain ⟨ao,ca,rfl,-⟩:=hv;clear hl hf;go_enter func102,ntmps102;go_wp2_with (go_at_call 162;refine az.o.mono ?_;rintro r w1 ⟨bf,v',b1,rfl,J,bn,A⟩;have O:=ag bf;have bc:=ag J;have an:=ag bn;have bo:b1.length=l.length:=(by rw [<-J,List.length_map]);rw [bo]at A;have Y:=ag A;obtain ⟨a0,c0,e0⟩:∃a0 c0,v'=.slice a0 l.length c0:=(by rcases A.2 with ⟨e,h0⟩ | ⟨g,cap,V,e,-⟩;(exact ⟨none,0,by rw [e,h0]⟩);(exact ⟨_,_,e⟩));subst e0;clear bf J bn A);clear az;go_loopw [9] (fun i wr=>∃(k:Nat) (zs:List (List Value×aq)),k<=l.length/\i=.i k/\Hid (zs.map (·.2)=l/\(∀z∈zs,z.1.length=4)/\(∀(j:Nat) (h:j<zs.length),j<k->RC (MT w.heap.size [125,159,123,248] wr) wr zs[j].1 zs[j].2)/\(∀(j:Nat) (h:j<zs.length),k<=j->RC (· <B) w zs[j].1 zs[j].2)/\wr.ownsRow w.heap.size 162 4 (.slice a0 l.length c0) l.length (zs.flatMap (·.1))/\Bl w wr)) (fun i _=>l.length - (intOf i).toNat)
 case atStart=>exact ⟨0,b1,n0q _,rfl,bc.o,(fun z hz=>(an.o z hz).1),(fun j h hj=>by omega),(fun j h _=>(an.o _ (gm h)).2),Y.o,O.o⟩
 case round=>
  clear bc an Y O;obtain ⟨k,zs,hk,rfl,HI⟩:=hrel;obtain ⟨J,G,E,F,A,au⟩:=HI.o;have ci:zs.length=l.length:=by rw [<-J,List.length_map]
  have cf:w.heap.size<=wr.heap.size:=au.size;by_cases ce:k<l.length
  ·have I:k<zs.length:=by omega
   obtain ⟨g,cap,V,eg,bh,aw,b4,b5,b6,b7⟩:∃g cap V,Value.slice a0 l.length c0=.slice (some ⟨g,0,none⟩) l.length cap/\w.heap.size<=g/\wr.heap[g]? =some (.cells V 162 (0,0))/\l.length<=cap/\cap<=maxLen/\V.size=cap*4/\V.toList.take (l.length*4)=zs.flatMap (·.1):=by
    rcases A.2 with ⟨e,h0⟩ | h
    ·omega
    exact h
   obtain ⟨rfl,rfl⟩:a0=some ⟨g,0,none⟩/\c0=cap:=by injection eg with h1 h2 h3;exact ⟨h1,h3⟩
   have ay:zs[k].2=l[k]:=by have:=List.getElem_map (f:=fun z:List Value×aq=>z.2) (l:=zs) (i:=k) (h:=by simpa using I);rw [<-this];congr 1
   have bm:=F k I (nlq _);rw [ay]at bm;obtain ⟨va,vh,av,s1,s2,bl⟩:=bm;have D:∀j u,zs[k].1[j]? =some u->wr.cell? ⟨g,k*4+j,none⟩=some u:=fun j u hu=>by
    have hj:j<4:=by have:=(List.getElem?_eq_some_iff.1 hu).1;rw [G _ (gm I)]at this;exact this
    have:=A.cells (g:=g) rfl (k*4+j) u (by rw [A5 (n:=4) (fun z:List Value×aq=>z.1) zs k j G I hj];exact hu);rwa [ua,Nat.zero_add]at this
   rw [av]at D;have q0:wr.cell? ⟨g,k*4,none⟩=some (.string l[k].name):=D 0 _ rfl;have q1:wr.cell? ⟨g,k*4+1,none⟩=some (.string l[k].bv):=D 1 _ rfl;have q2:wr.cell? ⟨g,k*4+2,none⟩=some (va):=D 2 _ rfl;have q3:wr.cell? ⟨g,k*4+3,none⟩=some (vh):=D 3 _ rfl;have ax:g<wr.heap.size:=bz aw;have a5:=ag s1;have a6:=ag s2;obtain ⟨o1,d1,rfl,-⟩:=s1;obtain ⟨o2,d2,rfl,-⟩:=s2;have bg:=HF.o l[k] (gm ce);have ad:=ag bg;have a2:=ag av;have Y:=ag A;have a1:=ag aw;have a3:=ag ay;have a7:=ag bl;have cn:(0:Int)<=k:=by omega
   have co:(k:Int)<l.length:=by omega
   clear bg D av A aw b4 b5 b6 b7 E F G J ay eg bl;have cp:wr.heap.size≠g:=by omega
   have ap:Bl w (wr.alloc (.cells #[.string l[k].name,.string l[k].bv,.slice o1 l[k].fields.length d1,.slice o2 l[k].be.length d2] 162)):=au.alloc cf _;have O:=ag ap;have b3:=ag (zj7 (wr.alloc (.cells #[.string l[k].name,.string l[k].bv,.slice o1 l[k].fields.length d1,.slice o2 l[k].be.length d2] 162)) (· <B) _ _ (a5.o.keptF (Kp.below (ap.mono hB))) ad.o.1);clear ap;go_wp2_with fail;refine b3.o.mono ?_;rintro r X ⟨L,v1,rfl,bx⟩;have aa:=ag L;have a8:=ag bx;obtain ⟨p1,e1,rfl,-⟩:=bx;have ah:X.heap[g]? =some (.cells V 162 (0,0)):=((L.block g (by simp;omega)).trans ((Below.heap_alloc _ _ _ ax).trans a1.o));have m2:X.cell? ⟨g,k*4+2,none⟩=some (.slice o1 l[k].fields.length d1):=((L.cell (p:=⟨g,k*4+2,none⟩) (by simp;omega)).trans ((World.cell?_alloc_past _ _ _ ax).trans q2));have z2:X.frozen? ⟨g,k*4+2,none⟩=false:=pj ah _;have y2:X.cell? ⟨wr.heap.size,3,none⟩=some (.slice o2 l[k].be.length d2):=((L.cell (p:=⟨wr.heap.size,3,none⟩) (by simp)).trans (by simp [go_sem]));have ck:g<X.heap.size:=bz ah;have cj:wr.heap.size<X.heap.size:=(by have:=L.size;simp at this;omega);have x2:X.cell? ⟨g,k*4+3,none⟩=some (.slice o2 l[k].be.length d2):=((L.cell (p:=⟨g,k*4+3,none⟩) (by simp;omega)).trans ((World.cell?_alloc_past _ _ _ ax).trans q3));have al:=ag ah;clear L ah;go_wp2_with fail;have af:Bl w (X.setCell ⟨g,k*4+2,none⟩ (.slice p1 l[k].fields.length e1)):=(O.o.trans (aa.o.mono O.o.size)).setCell bh _;have ac:=ag af;have ai:=rr (j:=k*4+2) al.o (.slice p1 l[k].fields.length e1);have x3:(X.setCell ⟨g,k*4+2,none⟩ (.slice p1 l[k].fields.length e1)).cell? ⟨g,k*4+3,none⟩=some (.slice o2 l[k].be.length d2):=(World.cell?_setCell_other _ _ _ _ (by simp)).trans x2;have bb:Hid (Stp w.heap.size [125,159,123,248] X (X.setCell ⟨g,k*4+2,none⟩ (.slice p1 l[k].fields.length e1))):=Stp.set al.o (by decide) _ _;have a4:=ag (A7 (zbh (Y.o.alloc _) aa.o) (k*4+2) (.slice p1 l[k].fields.length e1));clear m2 z2 y2 cj x2 ck al;clear q0 q1 q2 q3;generalize hw3:X.setCell ⟨g,k*4+2,none⟩ (.slice p1 l[k].fields.length e1)=w3 at*;clear hw3;refine (zj8 w3 B _ _ (a6.o.keptM (Kp.below (af.mono hB))) (lt3 hB af.size) ad.o.2.1 ad.o.2.2).mono ?_;rintro r Z ⟨W,v2,rfl,b0⟩;have a9:=ag b0;obtain ⟨p2,e2,rfl,-⟩:=b0;have aj:=(W.block g (bz ai)).trans ai;have m4:Z.cell? ⟨g,k*4+3,none⟩=some (.slice o2 l[k].be.length d2):=(W.cell (p:=⟨g,k*4+3,none⟩) (bz ai)).trans x3;have z4:Z.frozen? ⟨g,k*4+3,none⟩=false:=pj aj _;have ct:g<Z.heap.size:=bz aj;have N:Hid (∃zs':List (List Value×aq),zs'.map (·.2)=l/\(∀z∈zs',z.1.length=4)/\(∀(j:Nat) (h:j<zs'.length),j<k+1->RC (MT w.heap.size [125,159,123,248] (Z.setCell ⟨g,k*4+3,none⟩ (.slice p2 l[k].be.length e2))) (Z.setCell ⟨g,k*4+3,none⟩ (.slice p2 l[k].be.length e2)) zs'[j].1 zs'[j].2)/\(∀(j:Nat) (h:j<zs'.length),k+1<=j->RC (· <B) w zs'[j].1 zs'[j].2)/\(Z.setCell ⟨g,k*4+3,none⟩ (.slice p2 l[k].be.length e2)).ownsRow w.heap.size 162 4 (.slice (some ⟨g,0,none⟩) l.length c0) l.length (zs'.flatMap (·.1))/\Bl w (Z.setCell ⟨g,k*4+3,none⟩ (.slice p2 l[k].be.length e2))):=by
    obtain ⟨J,G,E,F,-,-⟩:=HI.o;have bu:Stp w.heap.size [125,159,123,248] Z (Z.setCell ⟨g,k*4+3,none⟩ (.slice p2 l[k].be.length e2)):=Stp.set aj (by decide) _ _;have cm:Stp w.heap.size [125,159,123,248] w3 Z:=Stp.below W;have cl:Stp w.heap.size [125,159,123,248] wr X:=(Stp.alloc (Stp.refl _ _ _) _).trans (Stp.below aa.o);have bs:=(bb.o.trans cm).trans bu;have bi:=A7 (zbh a4.o W) (k*4+3) (.slice p2 l[k].be.length e2);have ch:∀z∈zs.set k (zs[k].1.set 2 (.slice p1 l[k].fields.length e1),zs[k].2),z.1.length=4:=fun z hz=>by
     rcases List.mem_or_eq_of_mem_set hz with h | h
     ·exact G z h
     rw [h,List.length_set];exact G _ (gm I)
    rw [zj4 zs k 2 _ G I (by decide),zj4 _ k 3 _ ch (by rw [List.length_set];exact I) (by decide),List.set_set,List.getElem_set_self]at bi;refine ⟨zs.set k ((zs[k].1.set 2 (.slice p1 l[k].fields.length e1)).set 3 (.slice p2 l[k].be.length e2),zs[k].2),?_,?_,?_,?_,bi,(ac.o.trans (W.mono ac.o.size)).setCell bh _⟩
    ·rw [List.map_set];refine (congrArg (fun x=>(zs.map (·.2)).set k x) (List.getElem_map (f:=fun z:List Value×aq=>z.2) (h:=by simpa using I)).symm).trans ?_;rw [List.set_getElem_self,J]
    ·intro z hz;rcases List.mem_or_eq_of_mem_set hz with h | h
     ·exact G z h
     rw [h,List.length_set,List.length_set];exact G _ (gm I)
    ·intro j h hj;have h':j<zs.length:=by simpa using h
     by_cases cc:j=k
     ·subst cc;rw [List.getElem_set_self,a2.o,a3.o];exact ⟨_,_,rfl,(a8.o.monoF (fun _ hk=>hk.more (T':=[125,159,123,248]) O.o.size (fun _ ht=>by simp at ht;simp [ht]))).stpF bs,(a9.o.monoM (fun _ hk=>hk.more (T':=[125,159,123,248]) ac.o.size (fun _ ht=>by simp at ht;simp [ht]))).stpM bu,a7.o⟩
     rw [List.getElem_set_ne (by omega)];exact ((E j h' (by omega)).stp cl).stp bs
    intro j h hj;have h':j<zs.length:=by simpa using h
    rw [List.getElem_set_ne (by omega)];exact F j h' (by omega)
   clear ac bb a4 a8 a9 a5 a6 ad a2 Y a1 a3 a7 ai aj x3 W af aa HI;have cs:l.length<=9223372036854775807:=by have:=ak.o;omega
   go_wp2_with fail;go_roundw
   case rel=>exact ⟨k+1,N.o.choose,by omega,by go_num,N.o.choose_spec⟩
   case measure=>simp [intOf];omega
  have cr:k=l.length:=by omega
  have N:Hid (SL 4 RC (MT w.heap.size [162,125,159,123,248] wr) wr (.slice a0 l.length c0) l):=by
   have:=vz (R:=RC) (T:=[162,125,159,123,248]) (zs:=zs) (n:=4) (by rw [ci];exact A) (fun z hz=>⟨G z hz,by
    obtain ⟨j,hj,rfl⟩:=List.mem_iff_getElem.1 hz;exact (E j hj (by omega)).mono fun _ hk=>hk.more (nlq _) (fun _ ht=>List.mem_cons_of_mem _ ht)⟩) (by simp) (by have:=ak.o;unfold maxLen;omega)
   rw [J]at this;exact this
  have b2:=ag au;clear A E F G HI;go_wp2_with fail;go_ret;exact ⟨b2.o,_,rfl,N.o⟩
end Go.Proofs.YtjdnmblggdobgaaGreat
