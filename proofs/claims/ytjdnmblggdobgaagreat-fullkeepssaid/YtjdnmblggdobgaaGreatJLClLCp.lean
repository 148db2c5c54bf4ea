import Derived.Test.YtjdnmblggdobgaaGreatJLNoneLSaD
set_option maxHeartbeats 4000000
set_option maxRecDepth 100000
namespace Go.Proofs.YtjdnmblggdobgaaGreat
open Go.RowKit
theorem SL_zs {α:Type} {n:Nat} {R:(Nat->Prop)->World->List Value->α->Prop} {M:Nat->Prop} {w:World} {v:Value} {l:List α} (hn:0<n) (h:SL n R M w v l):
 ∃zs:List (List Value×α),zs.map (·.2)=l/\(∀z∈zs,z.1.length=n/\R M w z.1 z.2)/\∀b off len cap,v=.slice (some ⟨b,off,none⟩) len cap->∀j u,(zs.flatMap (·.1))[j]? =some u->w.cell? ((⟨b,off,none⟩:Addr).add j)=some u:=by
 obtain ⟨ao,cap,hv,hc,hm,Z⟩:=h
 let cs:Fin l.length->List Value:=fun k=>Classical.choose (Classical.choose_spec (Classical.choose_spec (Z k.1 k.2)))
 have F:∀k:Fin l.length,∃b off,ao=some ⟨b,off,none⟩/\M b/\b<w.heap.size/\(cs k).length=n/\(∀j,j<n->w.cell? ⟨b,off+k.1*n+j,none⟩=(cs k)[j]?)/\R M w (cs k) l[k.1]:=fun k=>
  ⟨_,_,Classical.choose_spec (Classical.choose_spec (Classical.choose_spec (Z k.1 k.2)))⟩
 let zs:List (List Value×α):=List.ofFn fun k:Fin l.length=>(cs k,l[k.1])
 have V:zs.length=l.length:=by simp [zs]
 have E:∀(k:Nat) (h:k<zs.length),zs[k]=(cs ⟨k,by omega⟩,l[k]'(by omega)):=fun k h=>by simp [zs]
 have D:∀z∈zs,z.1.length=n/\R M w z.1 z.2:=fun z I=>by obtain ⟨k,N,rfl⟩:=List.mem_iff_getElem.1 I;rw [E k N];obtain ⟨b,off,-,-,-,h1,-,X⟩:=F ⟨k,by omega⟩;exact ⟨h1,X⟩
 refine ⟨zs,?_,D,?_⟩
 ·refine List.ext_getElem (by simp [V]) fun k h1 X=>?_;rw [List.getElem_map,E k (by simpa using h1)]
 intro b off len W A j u O;have L:∀zs:List (List Value×α),(∀z∈zs,z.1.length=n)->(zs.flatMap (·.1)).length=zs.length*n:=fun zs=>by
  induction zs with
  | nil=>intro _;simp
  | cons x zs ih=>
    intro Y;rw [List.flatMap_cons,List.length_append,ih (fun y hy=>Y y (by simp [hy])),Y x (by simp),List.length_cons,Nat.add_mul];omega
 have hj:j<zs.length*n:=by rw [<-L zs fun z I=>(D z I).1];exact (List.getElem?_eq_some_iff.1 O).1
 have hq:j / n<zs.length:=Nat.div_lt_of_lt_mul (by rw [Nat.mul_comm];exact hj);have hr:j % n<n:=Nat.mod_lt _ hn;have G:j / n*n+j % n=j:=by rw [Nat.mul_comm];exact Nat.div_add_mod j n
 rw [<-G,ze3 (n:=n) (fun z:List Value×α=>z.1) zs (j / n) (j % n) (fun z I=>(D z I).1) hq hr,E _ hq]at O;obtain ⟨b',aa,e,-,-,-,J,-⟩:=F ⟨j / n,by omega⟩;rw [hv]at A;rw [e]at A;cases A;have:=J (j % n) hr;rw [zg1,<-G,<-Nat.add_assoc];exact this.trans O
theorem zjx {α:Type} {zs:List (List Value×α)} {n:Nat} (h:∀z∈zs,z.1.length=n):(zs.flatMap (·.1)).length=zs.length*n:=by
 induction zs with
 | nil=>simp
 | cons x zs ih=>
   rw [List.flatMap_cons,List.length_append,ih (fun y u=>h y (by simp [u])),h x (by simp),List.length_cons,Nat.add_mul];omega
theorem oneSL {α:Type} {n:Nat} {R:(Nat->Prop)->World->List Value->α->Prop} {M:Nat->Prop} {w:World} {v:Value} {l:List α} (h:SL n R M w v l):v.oneCell'=true:=by obtain ⟨u,c,rfl,-⟩:=h;rfl
theorem oneRK {M:Nat->Prop} {w:World} {A:List Value} {x:ew} (h:RK M w A x):∀u∈A,u.oneCell'=true:=by rw [h.1];intro u D;simp at D;rcases D with rfl | rfl<;>rfl
theorem oneRF {M:Nat->Prop} {w:World} {A:List Value} {x:bo} (h:RF M w A x):∀u∈A,u.oneCell'=true:=by rw [h.1];intro u D;simp at D;rcases D with rfl | rfl | rfl<;>rfl
theorem oneRH {M:Nat->Prop} {w:World} {A:List Value} {x:ii} (h:RH M w A x):∀u∈A,u.oneCell'=true:=by rw [h.1];intro u D;simp at D;rcases D with rfl | rfl | rfl | rfl<;>rfl
theorem oneRM {M:Nat->Prop} {w:World} {A:List Value} {x:dx} (h:RM M w A x):∀u∈A,u.oneCell'=true:=by obtain ⟨G,I,rfl,E,F,-⟩:=h;intro u D;simp at D;rcases D with rfl | rfl | rfl | rfl | rfl | rfl | rfl | rfl | rfl<;>first | rfl | exact oneSL E | exact oneSL F
theorem oneRC {M:Nat->Prop} {w:World} {A:List Value} {x:am} (h:RC M w A x):∀u∈A,u.oneCell'=true:=by obtain ⟨G,I,rfl,E,F,-⟩:=h;intro u D;simp at D;rcases D with rfl | rfl | rfl | rfl<;>first | rfl | exact oneSL E | exact oneSL F
theorem zjy (w:World) (e n:Nat):(w.alloc (.cells #[] e)).ownsRow w.heap.size e n (.slice (some ⟨w.heap.size,0,none⟩) 0 0) 0 []:=
 ⟨by simp,Or.inr ⟨w.heap.size,0,#[],rfl,nlq _,heap_alloc_new w _,nlq _,by unfold maxLen;omega,by simp,by simp⟩⟩
theorem Tryz.infoClK:(Tryz.prog.info? 123).map (fun i=>(i.zero,i.size,i.bytes))=some (some (.agg #[.int .i64 0,.string ⟨#[]⟩]),2,24):=by kernel_rfl
theorem nilEqlK (c:Nat) (w:World):(binOp BinOp.eql 156 (.slice none 0 c) (.slice none 0 0)).run Tryz.prog w=.ok (.bool true) w:=by kernel_rfl
theorem nilNotK (a:Addr) (n c:Nat) (w:World):(binOp BinOp.eql 156 (.slice (some a) n c) (.slice none 0 0)).run Tryz.prog w=.ok (.bool false) w:=by kernel_rfl
theorem nilGK:Tryz.prog.eqGuardType Tryz.prog.depth 156=false:=by kernel_rfl
theorem zjz (w:World) (M:Nat->Prop) (v:Value) (l:List ew) (hv:SL 2 RK M w v l) (hl:l.length<=100000):
 Calls Tryz.prog 214 #[v] w fun r w'=>Below w.heap.size w w'/\∃(v':Value) (zs:List (List Value×ew)),r=.returned v'/\zs.map (·.2)=l/\(∀z∈zs,z.1.length=2/\RK M w z.1 z.2)/\w'.ownsRow w.heap.size 123 2 v' zs.length (zs.flatMap (·.1)):=by
 obtain ⟨iI,aa,ak,al,an⟩:=info_parts Tryz.infoClK;have ap:=nilEqlK;have ar:=nilNotK;have aq:=nilGK;obtain ⟨zs,J,E,L⟩:=SL_zs (by decide) hv;have D:zs.length=l.length:=by rw [<-J,List.length_map]
 have Y:=ag hl;clear hl;have HM:=ag J;have HR:=ag E;have W:=ag (fun o=>(br w.heap.size w).alloc (nlq _) o);obtain ⟨ao,cl,rfl,-,-,F⟩:=hv;cases ao with
 | none=>
   have aj:l= []:=by
    cases l with
    | nil=>rfl
    | cons x l=>obtain ⟨b,off,cs,e,-⟩:=F 0 (by simp);cases e
   subst aj;have I:zs= []:=List.eq_nil_of_length_eq_zero (by simpa using D);subst I;clear F L J E D;go_enter Tryz.func214,Tryz.ntmps214;go_wp2_with fail;go_ret;exact ⟨br _ _,_,[],rfl,rfl,(fun z V=>by cases V),World.ownsRow_nil _ _ _ _⟩
 | some ad=>
   cases l with
   | nil=>
     have I:zs= []:=List.eq_nil_of_length_eq_zero (by simpa using D);subst I;have HE:=ag (zjy w 123 2);clear F L J E D;go_enter Tryz.func214,Tryz.ntmps214;go_wp2_with (at_builtin;refine zf9 _ rfl _ _ 156 rfl 123 iI Tryz.underlying156 aa (some ⟨w.heap.size,0,none⟩) 0 0 rfl (nlq _) (Or.inr ⟨_,rfl⟩) (some ad) cl rfl ?_);go_ret;exact ⟨W.o _,_,[],rfl,rfl,(fun z V=>by cases V),HE.o⟩
   | cons x l0=>
     generalize hL:x::l0=l at*;have ac:0<l.length:=by rw [<-hL];simp
     clear hL;obtain ⟨b,off,cs,e,-,hb,-⟩:=F 0 ac;cases e;have HC:=ag (L b off _ _ rfl);have af:Hid ((zs.flatMap (·.1)).length=l.length*2):=by show _=_;rw [zjx fun z V=>(E z V).1,D]
     have H1:Hid (∀u∈zs.flatMap (·.1),u.oneCell'=true):=fun u O=>by obtain ⟨z,V,O⟩:=List.mem_flatMap.1 O;exact oneRK (E z V).2 u O
     have ai:=ag D;have G:0<0+l.length:=by omega
     have X:Hid (0+l.length<=maxLen/\(0+l.length)*24<=140737488355328):=(by have hl:=Y.o;exact ⟨by unfold maxLen;omega,by omega⟩);clear F L J E D;go_enter Tryz.func214,Tryz.ntmps214;go_wp2_with (at_builtin;refine wpList_append_grows _ rfl _ _ 156 rfl 123 iI (.agg #[.int .i64 0,.string ⟨#[]⟩]) 2 24 Tryz.underlying156 aa ak al an rfl (by decide) (some ⟨w.heap.size,0,none⟩) 0 0 [] rfl (fun e=>by cases e) (by simp) (fun _ _ j u O=>by simp at O) ⟨b,off,none⟩ l.length cl (zs.flatMap (·.1)) rfl af.o (fun j u O=>by rw [zg1];exact (World.cell?_alloc_past _ _ _ hb).trans (by have:=HC.o j u O;rwa [zg1]at this)) H1.o G X.o.1 X.o.2 ?_;intro v9 w9 A N;have Z:Hid (w9.ownsRow w.heap.size 123 2 v9 zs.length (zs.flatMap (·.1))):=(by have h:=zbi A (B':=w.heap.size) (by simp);rw [Nat.zero_add,List.nil_append,<-ai.o]at h;exact h);have ae:Hid (Below w.heap.size w w9):=(W.o _).grown N (by simp) (fun q e=>by cases e);obtain ⟨g9,c9,e9,-⟩:=A.form G;subst e9;have ah:Hid (w9.ownsRow w.heap.size 123 2 (.slice (some ⟨g9,0,none⟩) l.length c9) zs.length (zs.flatMap (·.1))):=(by have h:=Z.o;rwa [Nat.zero_add]at h);clear A N Z);go_ret;exact ⟨ae.o,_,zs,rfl,HM.o,HR.o,ah.o⟩
theorem Tryz.infoClH:(Tryz.prog.info? 248).map (fun i=>(i.zero,i.size,i.bytes))=some (some (.agg #[.int .i64 0,.int .i64 0,.int .i64 0,.string ⟨#[]⟩]),4,40):=by kernel_rfl
theorem nilEqlH (c:Nat) (w:World):(binOp BinOp.eql 157 (.slice none 0 c) (.slice none 0 0)).run Tryz.prog w=.ok (.bool true) w:=by kernel_rfl
theorem nilNotH (a:Addr) (n c:Nat) (w:World):(binOp BinOp.eql 157 (.slice (some a) n c) (.slice none 0 0)).run Tryz.prog w=.ok (.bool false) w:=by kernel_rfl
theorem nilGH:Tryz.prog.eqGuardType Tryz.prog.depth 157=false:=by kernel_rfl
theorem zj0 (w:World) (M:Nat->Prop) (v:Value) (l:List ii) (hv:SL 4 RH M w v l) (hl:l.length<=100000):
 Calls Tryz.prog 215 #[v] w fun r w'=>Below w.heap.size w w'/\∃(v':Value) (zs:List (List Value×ii)),r=.returned v'/\zs.map (·.2)=l/\(∀z∈zs,z.1.length=4/\RH M w z.1 z.2)/\w'.ownsRow w.heap.size 248 4 v' zs.length (zs.flatMap (·.1)):=by
 obtain ⟨iI,aa,ak,al,an⟩:=info_parts Tryz.infoClH;have ap:=nilEqlH;have ar:=nilNotH;have aq:=nilGH;obtain ⟨zs,J,E,L⟩:=SL_zs (by decide) hv;have D:zs.length=l.length:=by rw [<-J,List.length_map]
 have Y:=ag hl;clear hl;have HM:=ag J;have HR:=ag E;have W:=ag (fun o=>(br w.heap.size w).alloc (nlq _) o);obtain ⟨ao,cl,rfl,-,-,F⟩:=hv;cases ao with
 | none=>
   have aj:l= []:=by
    cases l with
    | nil=>rfl
    | cons x l=>obtain ⟨b,off,cs,e,-⟩:=F 0 (by simp);cases e
   subst aj;have I:zs= []:=List.eq_nil_of_length_eq_zero (by simpa using D);subst I;clear F L J E D;go_enter Tryz.func215,Tryz.ntmps215;go_wp2_with fail;go_ret;exact ⟨br _ _,_,[],rfl,rfl,(fun z V=>by cases V),World.ownsRow_nil _ _ _ _⟩
 | some ad=>
   cases l with
   | nil=>
     have I:zs= []:=List.eq_nil_of_length_eq_zero (by simpa using D);subst I;have HE:=ag (zjy w 248 4);clear F L J E D;go_enter Tryz.func215,Tryz.ntmps215;go_wp2_with (at_builtin;refine zf9 _ rfl _ _ 157 rfl 248 iI Tryz.underlying157 aa (some ⟨w.heap.size,0,none⟩) 0 0 rfl (nlq _) (Or.inr ⟨_,rfl⟩) (some ad) cl rfl ?_);go_ret;exact ⟨W.o _,_,[],rfl,rfl,(fun z V=>by cases V),HE.o⟩
   | cons x l0=>
     generalize hL:x::l0=l at*;have ac:0<l.length:=by rw [<-hL];simp
     clear hL;obtain ⟨b,off,cs,e,-,hb,-⟩:=F 0 ac;cases e;have HC:=ag (L b off _ _ rfl);have af:Hid ((zs.flatMap (·.1)).length=l.length*4):=by show _=_;rw [zjx fun z V=>(E z V).1,D]
     have H1:Hid (∀u∈zs.flatMap (·.1),u.oneCell'=true):=fun u O=>by obtain ⟨z,V,O⟩:=List.mem_flatMap.1 O;exact oneRH (E z V).2 u O
     have ai:=ag D;have G:0<0+l.length:=by omega
     have X:Hid (0+l.length<=maxLen/\(0+l.length)*40<=140737488355328):=(by have hl:=Y.o;exact ⟨by unfold maxLen;omega,by omega⟩);clear F L J E D;go_enter Tryz.func215,Tryz.ntmps215;go_wp2_with (at_builtin;refine wpList_append_grows _ rfl _ _ 157 rfl 248 iI (.agg #[.int .i64 0,.int .i64 0,.int .i64 0,.string ⟨#[]⟩]) 4 40 Tryz.underlying157 aa ak al an rfl (by decide) (some ⟨w.heap.size,0,none⟩) 0 0 [] rfl (fun e=>by cases e) (by simp) (fun _ _ j u O=>by simp at O) ⟨b,off,none⟩ l.length cl (zs.flatMap (·.1)) rfl af.o (fun j u O=>by rw [zg1];exact (World.cell?_alloc_past _ _ _ hb).trans (by have:=HC.o j u O;rwa [zg1]at this)) H1.o G X.o.1 X.o.2 ?_;intro v9 w9 A N;have Z:Hid (w9.ownsRow w.heap.size 248 4 v9 zs.length (zs.flatMap (·.1))):=(by have h:=zbi A (B':=w.heap.size) (by simp);rw [Nat.zero_add,List.nil_append,<-ai.o]at h;exact h);have ae:Hid (Below w.heap.size w w9):=(W.o _).grown N (by simp) (fun q e=>by cases e);obtain ⟨g9,c9,e9,-⟩:=A.form G;subst e9;have ah:Hid (w9.ownsRow w.heap.size 248 4 (.slice (some ⟨g9,0,none⟩) l.length c9) zs.length (zs.flatMap (·.1))):=(by have h:=Z.o;rwa [Nat.zero_add]at h);clear A N Z);go_ret;exact ⟨ae.o,_,zs,rfl,HM.o,HR.o,ah.o⟩
theorem Tryz.infoClF:(Tryz.prog.info? 125).map (fun i=>(i.zero,i.size,i.bytes))=some (some (.agg #[.string ⟨#[]⟩,.int .i64 0,.string ⟨#[]⟩]),3,40):=by kernel_rfl
theorem nilEqlF (c:Nat) (w:World):(binOp BinOp.eql 126 (.slice none 0 c) (.slice none 0 0)).run Tryz.prog w=.ok (.bool true) w:=by kernel_rfl
theorem nilNotF (a:Addr) (n c:Nat) (w:World):(binOp BinOp.eql 126 (.slice (some a) n c) (.slice none 0 0)).run Tryz.prog w=.ok (.bool false) w:=by kernel_rfl
theorem nilGF:Tryz.prog.eqGuardType Tryz.prog.depth 126=false:=by kernel_rfl
theorem zj1 (w:World) (M:Nat->Prop) (v:Value) (l:List bo) (hv:SL 3 RF M w v l) (hl:l.length<=100000):
 Calls Tryz.prog 163 #[v] w fun r w'=>Below w.heap.size w w'/\∃(v':Value) (zs:List (List Value×bo)),r=.returned v'/\zs.map (·.2)=l/\(∀z∈zs,z.1.length=3/\RF M w z.1 z.2)/\w'.ownsRow w.heap.size 125 3 v' zs.length (zs.flatMap (·.1)):=by
 obtain ⟨iI,aa,ak,al,an⟩:=info_parts Tryz.infoClF;have ap:=nilEqlF;have ar:=nilNotF;have aq:=nilGF;obtain ⟨zs,J,E,L⟩:=SL_zs (by decide) hv;have D:zs.length=l.length:=by rw [<-J,List.length_map]
 have Y:=ag hl;clear hl;have HM:=ag J;have HR:=ag E;have W:=ag (fun o=>(br w.heap.size w).alloc (nlq _) o);obtain ⟨ao,cl,rfl,-,-,F⟩:=hv;cases ao with
 | none=>
   have aj:l= []:=by
    cases l with
    | nil=>rfl
    | cons x l=>obtain ⟨b,off,cs,e,-⟩:=F 0 (by simp);cases e
   subst aj;have I:zs= []:=List.eq_nil_of_length_eq_zero (by simpa using D);subst I;clear F L J E D;go_enter Tryz.func163,Tryz.ntmps163;go_wp2_with fail;go_ret;exact ⟨br _ _,_,[],rfl,rfl,(fun z V=>by cases V),World.ownsRow_nil _ _ _ _⟩
 | some ad=>
   cases l with
   | nil=>
     have I:zs= []:=List.eq_nil_of_length_eq_zero (by simpa using D);subst I;have HE:=ag (zjy w 125 3);clear F L J E D;go_enter Tryz.func163,Tryz.ntmps163;go_wp2_with (at_builtin;refine zf9 _ rfl _ _ 126 rfl 125 iI Tryz.underlying126 aa (some ⟨w.heap.size,0,none⟩) 0 0 rfl (nlq _) (Or.inr ⟨_,rfl⟩) (some ad) cl rfl ?_);go_ret;exact ⟨W.o _,_,[],rfl,rfl,(fun z V=>by cases V),HE.o⟩
   | cons x l0=>
     generalize hL:x::l0=l at*;have ac:0<l.length:=by rw [<-hL];simp
     clear hL;obtain ⟨b,off,cs,e,-,hb,-⟩:=F 0 ac;cases e;have HC:=ag (L b off _ _ rfl);have af:Hid ((zs.flatMap (·.1)).length=l.length*3):=by show _=_;rw [zjx fun z V=>(E z V).1,D]
     have H1:Hid (∀u∈zs.flatMap (·.1),u.oneCell'=true):=fun u O=>by obtain ⟨z,V,O⟩:=List.mem_flatMap.1 O;exact oneRF (E z V).2 u O
     have ai:=ag D;have G:0<0+l.length:=by omega
     have X:Hid (0+l.length<=maxLen/\(0+l.length)*40<=140737488355328):=(by have hl:=Y.o;exact ⟨by unfold maxLen;omega,by omega⟩);clear F L J E D;go_enter Tryz.func163,Tryz.ntmps163;go_wp2_with (at_builtin;refine wpList_append_grows _ rfl _ _ 126 rfl 125 iI (.agg #[.string ⟨#[]⟩,.int .i64 0,.string ⟨#[]⟩]) 3 40 Tryz.underlying126 aa ak al an rfl (by decide) (some ⟨w.heap.size,0,none⟩) 0 0 [] rfl (fun e=>by cases e) (by simp) (fun _ _ j u O=>by simp at O) ⟨b,off,none⟩ l.length cl (zs.flatMap (·.1)) rfl af.o (fun j u O=>by rw [zg1];exact (World.cell?_alloc_past _ _ _ hb).trans (by have:=HC.o j u O;rwa [zg1]at this)) H1.o G X.o.1 X.o.2 ?_;intro v9 w9 A N;have Z:Hid (w9.ownsRow w.heap.size 125 3 v9 zs.length (zs.flatMap (·.1))):=(by have h:=zbi A (B':=w.heap.size) (by simp);rw [Nat.zero_add,List.nil_append,<-ai.o]at h;exact h);have ae:Hid (Below w.heap.size w w9):=(W.o _).grown N (by simp) (fun q e=>by cases e);obtain ⟨g9,c9,e9,-⟩:=A.form G;subst e9;have ah:Hid (w9.ownsRow w.heap.size 125 3 (.slice (some ⟨g9,0,none⟩) l.length c9) zs.length (zs.flatMap (·.1))):=(by have h:=Z.o;rwa [Nat.zero_add]at h);clear A N Z);go_ret;exact ⟨ae.o,_,zs,rfl,HM.o,HR.o,ah.o⟩
theorem Tryz.infoClM:(Tryz.prog.info? 159).map (fun i=>(i.zero,i.size,i.bytes))=some (some (.agg #[.string ⟨#[]⟩,.bool false,.slice none 0 0,.int .i64 0,.string ⟨#[]⟩,.int .i64 0,.int .i64 0,.string ⟨#[]⟩,.slice none 0 0]),9,128):=by kernel_rfl
theorem nilEqlM (c:Nat) (w:World):(binOp BinOp.eql 160 (.slice none 0 c) (.slice none 0 0)).run Tryz.prog w=.ok (.bool true) w:=by kernel_rfl
theorem nilNotM (a:Addr) (n c:Nat) (w:World):(binOp BinOp.eql 160 (.slice (some a) n c) (.slice none 0 0)).run Tryz.prog w=.ok (.bool false) w:=by kernel_rfl
theorem nilGM:Tryz.prog.eqGuardType Tryz.prog.depth 160=false:=by kernel_rfl
theorem zj2 (w:World) (M:Nat->Prop) (v:Value) (l:List dx) (hv:SL 9 RM M w v l) (hl:l.length<=100000):
 Calls Tryz.prog 213 #[v] w fun r w'=>Below w.heap.size w w'/\∃(v':Value) (zs:List (List Value×dx)),r=.returned v'/\zs.map (·.2)=l/\(∀z∈zs,z.1.length=9/\RM M w z.1 z.2)/\w'.ownsRow w.heap.size 159 9 v' zs.length (zs.flatMap (·.1)):=by
 obtain ⟨iI,aa,ak,al,an⟩:=info_parts Tryz.infoClM;have ap:=nilEqlM;have ar:=nilNotM;have aq:=nilGM;obtain ⟨zs,J,E,L⟩:=SL_zs (by decide) hv;have D:zs.length=l.length:=by rw [<-J,List.length_map]
 have Y:=ag hl;clear hl;have HM:=ag J;have HR:=ag E;have W:=ag (fun o=>(br w.heap.size w).alloc (nlq _) o);obtain ⟨ao,cl,rfl,-,-,F⟩:=hv;cases ao with
 | none=>
   have aj:l= []:=by
    cases l with
    | nil=>rfl
    | cons x l=>obtain ⟨b,off,cs,e,-⟩:=F 0 (by simp);cases e
   subst aj;have I:zs= []:=List.eq_nil_of_length_eq_zero (by simpa using D);subst I;clear F L J E D;go_enter Tryz.func213,Tryz.ntmps213;go_wp2_with fail;go_ret;exact ⟨br _ _,_,[],rfl,rfl,(fun z V=>by cases V),World.ownsRow_nil _ _ _ _⟩
 | some ad=>
   cases l with
   | nil=>
     have I:zs= []:=List.eq_nil_of_length_eq_zero (by simpa using D);subst I;have HE:=ag (zjy w 159 9);clear F L J E D;go_enter Tryz.func213,Tryz.ntmps213;go_wp2_with (at_builtin;refine zf9 _ rfl _ _ 160 rfl 159 iI Tryz.underlying160 aa (some ⟨w.heap.size,0,none⟩) 0 0 rfl (nlq _) (Or.inr ⟨_,rfl⟩) (some ad) cl rfl ?_);go_ret;exact ⟨W.o _,_,[],rfl,rfl,(fun z V=>by cases V),HE.o⟩
   | cons x l0=>
     generalize hL:x::l0=l at*;have ac:0<l.length:=by rw [<-hL];simp
     clear hL;obtain ⟨b,off,cs,e,-,hb,-⟩:=F 0 ac;cases e;have HC:=ag (L b off _ _ rfl);have af:Hid ((zs.flatMap (·.1)).length=l.length*9):=by show _=_;rw [zjx fun z V=>(E z V).1,D]
     have H1:Hid (∀u∈zs.flatMap (·.1),u.oneCell'=true):=fun u O=>by obtain ⟨z,V,O⟩:=List.mem_flatMap.1 O;exact oneRM (E z V).2 u O
     have ai:=ag D;have G:0<0+l.length:=by omega
     have X:Hid (0+l.length<=maxLen/\(0+l.length)*128<=140737488355328):=(by have hl:=Y.o;exact ⟨by unfold maxLen;omega,by omega⟩);clear F L J E D;go_enter Tryz.func213,Tryz.ntmps213;go_wp2_with (at_builtin;refine wpList_append_grows _ rfl _ _ 160 rfl 159 iI (.agg #[.string ⟨#[]⟩,.bool false,.slice none 0 0,.int .i64 0,.string ⟨#[]⟩,.int .i64 0,.int .i64 0,.string ⟨#[]⟩,.slice none 0 0]) 9 128 Tryz.underlying160 aa ak al an rfl (by decide) (some ⟨w.heap.size,0,none⟩) 0 0 [] rfl (fun e=>by cases e) (by simp) (fun _ _ j u O=>by simp at O) ⟨b,off,none⟩ l.length cl (zs.flatMap (·.1)) rfl af.o (fun j u O=>by rw [zg1];exact (World.cell?_alloc_past _ _ _ hb).trans (by have:=HC.o j u O;rwa [zg1]at this)) H1.o G X.o.1 X.o.2 ?_;intro v9 w9 A N;have Z:Hid (w9.ownsRow w.heap.size 159 9 v9 zs.length (zs.flatMap (·.1))):=(by have h:=zbi A (B':=w.heap.size) (by simp);rw [Nat.zero_add,List.nil_append,<-ai.o]at h;exact h);have ae:Hid (Below w.heap.size w w9):=(W.o _).grown N (by simp) (fun q e=>by cases e);obtain ⟨g9,c9,e9,-⟩:=A.form G;subst e9;have ah:Hid (w9.ownsRow w.heap.size 159 9 (.slice (some ⟨g9,0,none⟩) l.length c9) zs.length (zs.flatMap (·.1))):=(by have h:=Z.o;rwa [Nat.zero_add]at h);clear A N Z);go_ret;exact ⟨ae.o,_,zs,rfl,HM.o,HR.o,ah.o⟩
theorem Tryz.infoClC:(Tryz.prog.info? 162).map (fun i=>(i.zero,i.size,i.bytes))=some (some (.agg #[.string ⟨#[]⟩,.string ⟨#[]⟩,.slice none 0 0,.slice none 0 0]),4,80):=by kernel_rfl
theorem nilEqlC (c:Nat) (w:World):(binOp BinOp.eql 31 (.slice none 0 c) (.slice none 0 0)).run Tryz.prog w=.ok (.bool true) w:=by kernel_rfl
theorem nilNotC (a:Addr) (n c:Nat) (w:World):(binOp BinOp.eql 31 (.slice (some a) n c) (.slice none 0 0)).run Tryz.prog w=.ok (.bool false) w:=by kernel_rfl
theorem nilGC:Tryz.prog.eqGuardType Tryz.prog.depth 31=false:=by kernel_rfl
theorem zj3 (w:World) (M:Nat->Prop) (v:Value) (l:List am) (hv:SL 4 RC M w v l) (hl:l.length<=100000):
 Calls Tryz.prog 162 #[v] w fun r w'=>Below w.heap.size w w'/\∃(v':Value) (zs:List (List Value×am)),r=.returned v'/\zs.map (·.2)=l/\(∀z∈zs,z.1.length=4/\RC M w z.1 z.2)/\w'.ownsRow w.heap.size 162 4 v' zs.length (zs.flatMap (·.1)):=by
 obtain ⟨iI,aa,ak,al,an⟩:=info_parts Tryz.infoClC;have ap:=nilEqlC;have ar:=nilNotC;have aq:=nilGC;obtain ⟨zs,J,E,L⟩:=SL_zs (by decide) hv;have D:zs.length=l.length:=by rw [<-J,List.length_map]
 have Y:=ag hl;clear hl;have HM:=ag J;have HR:=ag E;have W:=ag (fun o=>(br w.heap.size w).alloc (nlq _) o);obtain ⟨ao,cl,rfl,-,-,F⟩:=hv;cases ao with
 | none=>
   have aj:l= []:=by
    cases l with
    | nil=>rfl
    | cons x l=>obtain ⟨b,off,cs,e,-⟩:=F 0 (by simp);cases e
   subst aj;have I:zs= []:=List.eq_nil_of_length_eq_zero (by simpa using D);subst I;clear F L J E D;go_enter Tryz.func162,Tryz.ntmps162;go_wp2_with fail;go_ret;exact ⟨br _ _,_,[],rfl,rfl,(fun z V=>by cases V),World.ownsRow_nil _ _ _ _⟩
 | some ad=>
   cases l with
   | nil=>
     have I:zs= []:=List.eq_nil_of_length_eq_zero (by simpa using D);subst I;have HE:=ag (zjy w 162 4);clear F L J E D;go_enter Tryz.func162,Tryz.ntmps162;go_wp2_with (at_builtin;refine zf9 _ rfl _ _ 31 rfl 162 iI Tryz.underlying31 aa (some ⟨w.heap.size,0,none⟩) 0 0 rfl (nlq _) (Or.inr ⟨_,rfl⟩) (some ad) cl rfl ?_);go_ret;exact ⟨W.o _,_,[],rfl,rfl,(fun z V=>by cases V),HE.o⟩
   | cons x l0=>
     generalize hL:x::l0=l at*;have ac:0<l.length:=by rw [<-hL];simp
     clear hL;obtain ⟨b,off,cs,e,-,hb,-⟩:=F 0 ac;cases e;have HC:=ag (L b off _ _ rfl);have af:Hid ((zs.flatMap (·.1)).length=l.length*4):=by show _=_;rw [zjx fun z V=>(E z V).1,D]
     have H1:Hid (∀u∈zs.flatMap (·.1),u.oneCell'=true):=fun u O=>by obtain ⟨z,V,O⟩:=List.mem_flatMap.1 O;exact oneRC (E z V).2 u O
     have ai:=ag D;have G:0<0+l.length:=by omega
     have X:Hid (0+l.length<=maxLen/\(0+l.length)*80<=140737488355328):=(by have hl:=Y.o;exact ⟨by unfold maxLen;omega,by omega⟩);clear F L J E D;go_enter Tryz.func162,Tryz.ntmps162;go_wp2_with (at_builtin;refine wpList_append_grows _ rfl _ _ 31 rfl 162 iI (.agg #[.string ⟨#[]⟩,.string ⟨#[]⟩,.slice none 0 0,.slice none 0 0]) 4 80 Tryz.underlying31 aa ak al an rfl (by decide) (some ⟨w.heap.size,0,none⟩) 0 0 [] rfl (fun e=>by cases e) (by simp) (fun _ _ j u O=>by simp at O) ⟨b,off,none⟩ l.length cl (zs.flatMap (·.1)) rfl af.o (fun j u O=>by rw [zg1];exact (World.cell?_alloc_past _ _ _ hb).trans (by have:=HC.o j u O;rwa [zg1]at this)) H1.o G X.o.1 X.o.2 ?_;intro v9 w9 A N;have Z:Hid (w9.ownsRow w.heap.size 162 4 v9 zs.length (zs.flatMap (·.1))):=(by have h:=zbi A (B':=w.heap.size) (by simp);rw [Nat.zero_add,List.nil_append,<-ai.o]at h;exact h);have ae:Hid (Below w.heap.size w w9):=(W.o _).grown N (by simp) (fun q e=>by cases e);obtain ⟨g9,c9,e9,-⟩:=A.form G;subst e9;have ah:Hid (w9.ownsRow w.heap.size 162 4 (.slice (some ⟨g9,0,none⟩) l.length c9) zs.length (zs.flatMap (·.1))):=(by have h:=Z.o;rwa [Nat.zero_add]at h);clear A N Z);go_ret;exact ⟨ae.o,_,zs,rfl,HM.o,HR.o,ah.o⟩
theorem zj4 {α:Type} {n:Nat} :∀(zs:List (List Value×α)) (k j:Nat) (v:Value),(∀z∈zs,z.1.length=n)->(hk:k<zs.length)->j<n->(zs.flatMap (·.1)).set (k*n+j) v=(zs.set k (zs[k].1.set j v,zs[k].2)).flatMap (·.1)
 | [],k,j,v,_,hk,_=>by simp at hk
 | x::zs,0,j,v,h,_,hj=>by have u:=h x (List.mem_cons_self ..);simp [u,hj]
 | x::zs,k+1,j,v,h,hk,hj=>by
   have u:=h x (List.mem_cons_self ..);have A:k<zs.length:=by simpa using hk
   have G:=zj4 zs k j v (fun z F=>h z (List.mem_cons_of_mem _ F)) A hj;have D:¬(k+1)*n+j<x.1.length:=by rw [u,Nat.add_mul];omega
   have E:(k+1)*n+j - x.1.length=k*n+j:=by rw [u,Nat.add_mul];omega
   simp only [List.flatMap_cons,List.set_append,D,if_false,E,G,p3q,p6q]
theorem zj5 (w:World) (M:Nat->Prop) (v:Value) (l:List ew) (J:SL 2 RK M w v l) (F:l.length<=100000):
 Calls Tryz.prog 214 #[v] w fun r w'=>Below w.heap.size w w'/\∃u,r=.returned u/\SL 2 RK (MT w.heap.size [123] w') w' u l:=
 (zjz w M v l J F).mono fun _ w' ⟨E,u,zs,I,A,D,G⟩=>⟨E,u,I,by
  rw [<-A];exact ze4 (T:=[123]) G D (by simp) (by have D:zs.length=l.length:=(by rw [<-A,List.length_map]);unfold maxLen;omega)⟩
theorem zj6 (w:World) (M:Nat->Prop) (v:Value) (l:List ii) (J:SL 4 RH M w v l) (F:l.length<=100000):
 Calls Tryz.prog 215 #[v] w fun r w'=>Below w.heap.size w w'/\∃u,r=.returned u/\SL 4 RH (MT w.heap.size [248] w') w' u l:=
 (zj0 w M v l J F).mono fun _ w' ⟨E,u,zs,I,A,D,G⟩=>⟨E,u,I,by
  rw [<-A];exact ze4 (T:=[248]) G D (by simp) (by have D:zs.length=l.length:=(by rw [<-A,List.length_map]);unfold maxLen;omega)⟩
theorem zj7 (w:World) (M:Nat->Prop) (v:Value) (l:List bo) (J:SL 3 RF M w v l) (F:l.length<=100000):
 Calls Tryz.prog 163 #[v] w fun r w'=>Below w.heap.size w w'/\∃u,r=.returned u/\SL 3 RF (MT w.heap.size [125] w') w' u l:=
 (zj1 w M v l J F).mono fun _ w' ⟨E,u,zs,I,A,D,G⟩=>⟨E,u,I,by
  rw [<-A];exact ze4 (T:=[125]) G D (by simp) (by have D:zs.length=l.length:=(by rw [<-A,List.length_map]);unfold maxLen;omega)⟩
theorem zj8 (w:World) (B:Nat) (v:Value) (l:List dx) (hv:SL 9 RM (· <B) w v l) (hB:B<=w.heap.size) (hl:l.length<=100000) (hf:∀x∈l,x.args.length<=100000/\x.hands.length<=100000):
 Calls Tryz.prog 164 #[v] w fun r w'=>Below w.heap.size w w'/\∃v',r=.returned v'/\SL 9 RM (MT w.heap.size [159,123,248] w') w' v' l:=by
 have HV:=ag hv;have aw:=ag (zj2 w (· <B) v l hv hl);have ah:=ag hl;have HF:=ag hf;obtain ⟨ao,ca,rfl,-⟩:=hv;clear hl hf;go_enter Tryz.func164,Tryz.ntmps164;go_wp2_with (go_at_call 213;refine aw.o.mono ?_;rintro r w1 ⟨a9,v',bs,rfl,J,bi,D⟩;have O:=ag a9;have a8:=ag J;have ak:=ag bi;have bk:bs.length=l.length:=(by rw [<-J,List.length_map]);rw [bk]at D;have Y:=ag D;obtain ⟨a0,c0,e0⟩:∃a0 c0,v'=.slice a0 l.length c0:=(by rcases D.2 with ⟨e,h0⟩ | ⟨g,cap,V,e,-⟩;(exact ⟨none,0,by rw [e,h0]⟩);(exact ⟨_,_,e⟩));subst e0;clear a9 J bi D);clear aw;go_loopw [9] (fun i wr=>∃(k:Nat) (zs:List (List Value×dx)),k<=l.length/\i=.int .i64 k/\Hid (zs.map (·.2)=l/\(∀z∈zs,z.1.length=9)/\(∀(j:Nat) (h:j<zs.length),j<k->RM (MT w.heap.size [123,248] wr) wr zs[j].1 zs[j].2)/\(∀(j:Nat) (h:j<zs.length),k<=j->RM (· <B) w zs[j].1 zs[j].2)/\wr.ownsRow w.heap.size 159 9 (.slice a0 l.length c0) l.length (zs.flatMap (·.1))/\Below w.heap.size w wr)) (fun i _=>l.length - (intOf i).toNat)
 case atStart=>exact ⟨0,bs,n0q _,rfl,a8.o,(fun z hz=>(ak.o z hz).1),(fun j h hj=>by omega),(fun j h _=>(ak.o _ (gm h)).2),Y.o,O.o⟩
 case round=>
  clear a8 ak Y O;obtain ⟨k,zs,hk,rfl,HI⟩:=hrel;obtain ⟨J,G,E,F,D,ap⟩:=HI.o;have cc:zs.length=l.length:=by rw [<-J,List.length_map]
  have b6:w.heap.size<=wr.heap.size:=ap.size;by_cases b5:k<l.length
  ·have I:k<zs.length:=by omega
   obtain ⟨g,cap,V,eg,bc,ar,b0,b1,b2,b3⟩:∃g cap V,Value.slice a0 l.length c0=.slice (some ⟨g,0,none⟩) l.length cap/\w.heap.size<=g/\wr.heap[g]? =some (.cells V 159 (0,0))/\l.length<=cap/\cap<=maxLen/\V.size=cap*9/\V.toList.take (l.length*9)=zs.flatMap (·.1):=by
    rcases D.2 with ⟨e,h0⟩ | h
    ·omega
    exact h
   obtain ⟨rfl,rfl⟩:a0=some ⟨g,0,none⟩/\c0=cap:=by injection eg with h1 h2 h3;exact ⟨h1,h3⟩
   have av:zs[k].2=l[k]:=by have:=List.getElem_map (f:=fun z:List Value×dx=>z.2) (l:=zs) (i:=k) (h:=by simpa using I);rw [<-this];congr 1
   have bh:=F k I (nlq _);rw [av]at bh;obtain ⟨va,vh,aq,s1,s2,bg⟩:=bh;have A:∀j u,zs[k].1[j]? =some u->wr.cell? ⟨g,k*9+j,none⟩=some u:=fun j u hu=>by
    have hj:j<9:=by have:=(List.getElem?_eq_some_iff.1 hu).1;rw [G _ (gm I)]at this;exact this
    have:=D.cells (g:=g) rfl (k*9+j) u (by rw [ze3 (n:=9) (fun z:List Value×dx=>z.1) zs k j G I hj];exact hu);rwa [zg1,Nat.zero_add]at this
   rw [aq]at A;have q0:wr.cell? ⟨g,k*9,none⟩=some (.string l[k].name):=A 0 _ rfl;have q1:wr.cell? ⟨g,k*9+1,none⟩=some (.bool l[k].static):=A 1 _ rfl;have q2:wr.cell? ⟨g,k*9+2,none⟩=some (va):=A 2 _ rfl;have q3:wr.cell? ⟨g,k*9+3,none⟩=some (.int .i64 l[k].ret.kind):=A 3 _ rfl;have q4:wr.cell? ⟨g,k*9+4,none⟩=some (.string l[k].ret.da):=A 4 _ rfl;have q5:wr.cell? ⟨g,k*9+5,none⟩=some (.int .i64 l[k].stack):=A 5 _ rfl;have q6:wr.cell? ⟨g,k*9+6,none⟩=some (.int .i64 l[k].locals):=A 6 _ rfl;have q7:wr.cell? ⟨g,k*9+7,none⟩=some (.string l[k].code):=A 7 _ rfl;have q8:wr.cell? ⟨g,k*9+8,none⟩=some (vh):=A 8 _ rfl;have au:g<wr.heap.size:=bz ar;have a2:=ag s1;have a3:=ag s2;obtain ⟨o1,d1,rfl,-⟩:=s1;obtain ⟨o2,d2,rfl,-⟩:=s2;have bb:=HF.o l[k] (gm b5);have ai:=ag bb;have ay:=ag aq;have Y:=ag D;have ax:=ag ar;have az:=ag av;have a4:=ag bg;have cj:(0:Int)<=k:=by omega
   have cl:(k:Int)<l.length:=by omega
   clear bb A aq D ar b0 b1 b2 b3 E F G J av eg bg;have cm:wr.heap.size≠g:=by omega
   have al:Below w.heap.size w (wr.alloc (.cells #[.string l[k].name,.bool l[k].static,.slice o1 l[k].args.length d1,.int .i64 l[k].ret.kind,.string l[k].ret.da,.int .i64 l[k].stack,.int .i64 l[k].locals,.string l[k].code,.slice o2 l[k].hands.length d2] 159)):=ap.alloc b6 _;have O:=ag al;have bx:=ag (zj5 (wr.alloc (.cells #[.string l[k].name,.bool l[k].static,.slice o1 l[k].args.length d1,.int .i64 l[k].ret.kind,.string l[k].ret.da,.int .i64 l[k].stack,.int .i64 l[k].locals,.string l[k].code,.slice o2 l[k].hands.length d2] 159)) (· <B) _ _ (a2.o.keptK (Kp.below (al.mono hB))) ai.o.1);clear al;go_wp2_with fail;refine bx.o.mono ?_;rintro r X ⟨L,v1,rfl,bn⟩;have aa:=ag L;have a5:=ag bn;obtain ⟨p1,e1,rfl,-⟩:=bn;have ad:X.heap[g]? =some (.cells V 159 (0,0)):=((L.block g (by simp;omega)).trans ((Below.heap_alloc _ _ _ au).trans ax.o));have m2:X.cell? ⟨g,k*9+2,none⟩=some (.slice o1 l[k].args.length d1):=((L.cell (p:=⟨g,k*9+2,none⟩) (by simp;omega)).trans ((World.cell?_alloc_past _ _ _ au).trans q2));have z2:X.frozen? ⟨g,k*9+2,none⟩=false:=nu ad _;have y2:X.cell? ⟨wr.heap.size,8,none⟩=some (.slice o2 l[k].hands.length d2):=((L.cell (p:=⟨wr.heap.size,8,none⟩) (by simp)).trans (by simp [go_sem]));have cf:g<X.heap.size:=bz ad;have ce:wr.heap.size<X.heap.size:=(by have:=L.size;simp at this;omega);have x2:X.cell? ⟨g,k*9+8,none⟩=some (.slice o2 l[k].hands.length d2):=((L.cell (p:=⟨g,k*9+8,none⟩) (by simp;omega)).trans ((World.cell?_alloc_past _ _ _ au).trans q8));have aj:=ag ad;clear L ad;go_wp2_with fail;have an:Below w.heap.size w (X.setCell ⟨g,k*9+2,none⟩ (.slice p1 l[k].args.length e1)):=(O.o.trans (aa.o.mono O.o.size)).setCell bc _;have ac:=ag an;have ae:=zg6 (j:=k*9+2) aj.o (.slice p1 l[k].args.length e1);have x3:(X.setCell ⟨g,k*9+2,none⟩ (.slice p1 l[k].args.length e1)).cell? ⟨g,k*9+8,none⟩=some (.slice o2 l[k].hands.length d2):=(World.cell?_setCell_other _ _ _ _ (by simp)).trans x2;have a7:Hid (Stp w.heap.size [123,248] X (X.setCell ⟨g,k*9+2,none⟩ (.slice p1 l[k].args.length e1))):=Stp.set aj.o (by decide) _ _;have a1:=ag (zg7 (zbh (Y.o.alloc _) aa.o) (k*9+2) (.slice p1 l[k].args.length e1));clear m2 z2 y2 ce x2 cf aj;clear q0 q1 q2 q3 q4 q5 q6 q7 q8;generalize hw3:X.setCell ⟨g,k*9+2,none⟩ (.slice p1 l[k].args.length e1)=w3 at*;clear hw3;refine (zj6 w3 (· <B) _ _ (a3.o.keptH (Kp.below (an.mono hB))) ai.o.2).mono ?_;rintro r Z ⟨W,v2,rfl,bq⟩;have a6:=ag bq;obtain ⟨p2,e2,rfl,-⟩:=bq;have af:=(W.block g (bz ae)).trans ae;have m4:Z.cell? ⟨g,k*9+8,none⟩=some (.slice o2 l[k].hands.length d2):=(W.cell (p:=⟨g,k*9+8,none⟩) (bz ae)).trans x3;have z4:Z.frozen? ⟨g,k*9+8,none⟩=false:=nu af _;have cp:g<Z.heap.size:=bz af;have N:Hid (∃zs':List (List Value×dx),zs'.map (·.2)=l/\(∀z∈zs',z.1.length=9)/\(∀(j:Nat) (h:j<zs'.length),j<k+1->RM (MT w.heap.size [123,248] (Z.setCell ⟨g,k*9+8,none⟩ (.slice p2 l[k].hands.length e2))) (Z.setCell ⟨g,k*9+8,none⟩ (.slice p2 l[k].hands.length e2)) zs'[j].1 zs'[j].2)/\(∀(j:Nat) (h:j<zs'.length),k+1<=j->RM (· <B) w zs'[j].1 zs'[j].2)/\(Z.setCell ⟨g,k*9+8,none⟩ (.slice p2 l[k].hands.length e2)).ownsRow w.heap.size 159 9 (.slice (some ⟨g,0,none⟩) l.length c0) l.length (zs'.flatMap (·.1))/\Below w.heap.size w (Z.setCell ⟨g,k*9+8,none⟩ (.slice p2 l[k].hands.length e2))):=by
    obtain ⟨J,G,E,F,-,-⟩:=HI.o;have bm:Stp w.heap.size [123,248] Z (Z.setCell ⟨g,k*9+8,none⟩ (.slice p2 l[k].hands.length e2)):=Stp.set af (by decide) _ _;have ci:Stp w.heap.size [123,248] w3 Z:=Stp.below W;have ch:Stp w.heap.size [123,248] wr X:=(Stp.alloc (Stp.refl _ _ _) _).trans (Stp.below aa.o);have bl:=(a7.o.trans ci).trans bm;have bf:=zg7 (zbh a1.o W) (k*9+8) (.slice p2 l[k].hands.length e2);have b7:∀z∈zs.set k (zs[k].1.set 2 (.slice p1 l[k].args.length e1),zs[k].2),z.1.length=9:=fun z hz=>by
     rcases List.mem_or_eq_of_mem_set hz with h | h
     ·exact G z h
     rw [h,List.length_set];exact G _ (gm I)
    rw [zj4 zs k 2 _ G I (by decide),zj4 _ k 8 _ b7 (by rw [List.length_set];exact I) (by decide),List.set_set,List.getElem_set_self]at bf;refine ⟨zs.set k ((zs[k].1.set 2 (.slice p1 l[k].args.length e1)).set 8 (.slice p2 l[k].hands.length e2),zs[k].2),?_,?_,?_,?_,bf,(ac.o.trans (W.mono ac.o.size)).setCell bc _⟩
    ·rw [List.map_set];refine (congrArg (fun x=>(zs.map (·.2)).set k x) (List.getElem_map (f:=fun z:List Value×dx=>z.2) (h:=by simpa using I)).symm).trans ?_;rw [List.set_getElem_self,J]
    ·intro z hz;rcases List.mem_or_eq_of_mem_set hz with h | h
     ·exact G z h
     rw [h,List.length_set,List.length_set];exact G _ (gm I)
    ·intro j h hj;have h':j<zs.length:=by simpa using h
     by_cases b4:j=k
     ·subst b4;rw [List.getElem_set_self,ay.o,az.o];exact ⟨_,_,rfl,(a5.o.monoK (fun _ hk=>hk.more (T':=[123,248]) O.o.size (fun _ ht=>by simp at ht;simp [ht]))).stpK bl,(a6.o.monoH (fun _ hk=>hk.more (T':=[123,248]) ac.o.size (fun _ ht=>by simp at ht;simp [ht]))).stpH bm,a4.o⟩
     rw [List.getElem_set_ne (by omega)];exact ((E j h' (by omega)).stp ch).stp bl
    intro j h hj;have h':j<zs.length:=by simpa using h
    rw [List.getElem_set_ne (by omega)];exact F j h' (by omega)
   clear ac a7 a1 a5 a6 a2 a3 ai ay Y ax az a4 ae af x3 W an aa HI;have co:l.length<=9223372036854775807:=by have:=ah.o;omega
   go_wp2_with fail;go_roundw
   case rel=>exact ⟨k+1,N.o.choose,by omega,by go_num,N.o.choose_spec⟩
   case measure=>simp [intOf];omega
  have cn:k=l.length:=by omega
  have N:Hid (SL 9 RM (MT w.heap.size [159,123,248] wr) wr (.slice a0 l.length c0) l):=by
   have:=ze4 (R:=RM) (T:=[159,123,248]) (zs:=zs) (n:=9) (by rw [cc];exact D) (fun z hz=>⟨G z hz,by
    obtain ⟨j,hj,rfl⟩:=List.mem_iff_getElem.1 hz;exact (E j hj (by omega)).mono fun _ hk=>hk.more (nlq _) (fun _ ht=>List.mem_cons_of_mem _ ht)⟩) (by simp) (by have:=ah.o;unfold maxLen;omega)
   rw [J]at this;exact this
  have bu:=ag ap;clear D E F G HI;go_wp2_with fail;go_ret;exact ⟨bu.o,_,rfl,N.o⟩
theorem zj9 (w:World) (B:Nat) (v:Value) (l:List am) (hv:SL 4 RC (· <B) w v l) (hB:B<=w.heap.size) (hl:l.length<=100000) (hf:∀x∈l,x.fields.length<=100000/\x.ar.length<=100000/\∀m∈x.ar,m.args.length<=100000/\m.hands.length<=100000):
 Calls Tryz.prog 102 #[v] w fun r w'=>Below w.heap.size w w'/\∃v',r=.returned v'/\SL 4 RC (MT w.heap.size [162,125,159,123,248] w') w' v' l:=by
 have HV:=ag hv;have ax:=ag (zj3 w (· <B) v l hv hl);have aj:=ag hl;have HF:=ag hf;obtain ⟨ao,ca,rfl,-⟩:=hv;clear hl hf;go_enter Tryz.func102,Tryz.ntmps102;go_wp2_with (go_at_call 162;refine ax.o.mono ?_;rintro r w1 ⟨bb,v',bx,rfl,J,bk,A⟩;have O:=ag bb;have a9:=ag J;have al:=ag bk;have bl:bx.length=l.length:=(by rw [<-J,List.length_map]);rw [bl]at A;have Y:=ag A;obtain ⟨a0,c0,e0⟩:∃a0 c0,v'=.slice a0 l.length c0:=(by rcases A.2 with ⟨e,h0⟩ | ⟨g,cap,V,e,-⟩;(exact ⟨none,0,by rw [e,h0]⟩);(exact ⟨_,_,e⟩));subst e0;clear bb J bk A);clear ax;go_loopw [9] (fun i wr=>∃(k:Nat) (zs:List (List Value×am)),k<=l.length/\i=.int .i64 k/\Hid (zs.map (·.2)=l/\(∀z∈zs,z.1.length=4)/\(∀(j:Nat) (h:j<zs.length),j<k->RC (MT w.heap.size [125,159,123,248] wr) wr zs[j].1 zs[j].2)/\(∀(j:Nat) (h:j<zs.length),k<=j->RC (· <B) w zs[j].1 zs[j].2)/\wr.ownsRow w.heap.size 162 4 (.slice a0 l.length c0) l.length (zs.flatMap (·.1))/\Below w.heap.size w wr)) (fun i _=>l.length - (intOf i).toNat)
 case atStart=>exact ⟨0,bx,n0q _,rfl,a9.o,(fun z hz=>(al.o z hz).1),(fun j h hj=>by omega),(fun j h _=>(al.o _ (gm h)).2),Y.o,O.o⟩
 case round=>
  clear a9 al Y O;obtain ⟨k,zs,hk,rfl,HI⟩:=hrel;obtain ⟨J,G,E,F,A,ap⟩:=HI.o;have cf:zs.length=l.length:=by rw [<-J,List.length_map]
  have cc:w.heap.size<=wr.heap.size:=ap.size;by_cases b7:k<l.length
  ·have I:k<zs.length:=by omega
   obtain ⟨g,cap,V,eg,bf,au,b2,b3,b4,b5⟩:∃g cap V,Value.slice a0 l.length c0=.slice (some ⟨g,0,none⟩) l.length cap/\w.heap.size<=g/\wr.heap[g]? =some (.cells V 162 (0,0))/\l.length<=cap/\cap<=maxLen/\V.size=cap*4/\V.toList.take (l.length*4)=zs.flatMap (·.1):=by
    rcases A.2 with ⟨e,h0⟩ | h
    ·omega
    exact h
   obtain ⟨rfl,rfl⟩:a0=some ⟨g,0,none⟩/\c0=cap:=by injection eg with h1 h2 h3;exact ⟨h1,h3⟩
   have aw:zs[k].2=l[k]:=by have:=List.getElem_map (f:=fun z:List Value×am=>z.2) (l:=zs) (i:=k) (h:=by simpa using I);rw [<-this];congr 1
   have bi:=F k I (nlq _);rw [aw]at bi;obtain ⟨va,vh,aq,s1,s2,bh⟩:=bi;have D:∀j u,zs[k].1[j]? =some u->wr.cell? ⟨g,k*4+j,none⟩=some u:=fun j u hu=>by
    have hj:j<4:=by have:=(List.getElem?_eq_some_iff.1 hu).1;rw [G _ (gm I)]at this;exact this
    have:=A.cells (g:=g) rfl (k*4+j) u (by rw [ze3 (n:=4) (fun z:List Value×am=>z.1) zs k j G I hj];exact hu);rwa [zg1,Nat.zero_add]at this
   rw [aq]at D;have q0:wr.cell? ⟨g,k*4,none⟩=some (.string l[k].name):=D 0 _ rfl;have q1:wr.cell? ⟨g,k*4+1,none⟩=some (.string l[k].bq):=D 1 _ rfl;have q2:wr.cell? ⟨g,k*4+2,none⟩=some (va):=D 2 _ rfl;have q3:wr.cell? ⟨g,k*4+3,none⟩=some (vh):=D 3 _ rfl;have av:g<wr.heap.size:=bz au;have a3:=ag s1;have a4:=ag s2;obtain ⟨o1,d1,rfl,-⟩:=s1;obtain ⟨o2,d2,rfl,-⟩:=s2;have bc:=HF.o l[k] (gm b7);have ad:=ag bc;have az:=ag aq;have Y:=ag A;have ay:=ag au;have a1:=ag aw;have a5:=ag bh;have cm:(0:Int)<=k:=by omega
   have cn:(k:Int)<l.length:=by omega
   clear bc D aq A au b2 b3 b4 b5 E F G J aw eg bh;have co:wr.heap.size≠g:=by omega
   have an:Below w.heap.size w (wr.alloc (.cells #[.string l[k].name,.string l[k].bq,.slice o1 l[k].fields.length d1,.slice o2 l[k].ar.length d2] 162)):=ap.alloc cc _;have O:=ag an;have b1:=ag (zj7 (wr.alloc (.cells #[.string l[k].name,.string l[k].bq,.slice o1 l[k].fields.length d1,.slice o2 l[k].ar.length d2] 162)) (· <B) _ _ (a3.o.keptF (Kp.below (an.mono hB))) ad.o.1);clear an;go_wp2_with fail;refine b1.o.mono ?_;rintro r X ⟨L,v1,rfl,bs⟩;have aa:=ag L;have a6:=ag bs;obtain ⟨p1,e1,rfl,-⟩:=bs;have af:X.heap[g]? =some (.cells V 162 (0,0)):=((L.block g (by simp;omega)).trans ((Below.heap_alloc _ _ _ av).trans ay.o));have m2:X.cell? ⟨g,k*4+2,none⟩=some (.slice o1 l[k].fields.length d1):=((L.cell (p:=⟨g,k*4+2,none⟩) (by simp;omega)).trans ((World.cell?_alloc_past _ _ _ av).trans q2));have z2:X.frozen? ⟨g,k*4+2,none⟩=false:=nu af _;have y2:X.cell? ⟨wr.heap.size,3,none⟩=some (.slice o2 l[k].ar.length d2):=((L.cell (p:=⟨wr.heap.size,3,none⟩) (by simp)).trans (by simp [go_sem]));have ci:g<X.heap.size:=bz af;have ch:wr.heap.size<X.heap.size:=(by have:=L.size;simp at this;omega);have x2:X.cell? ⟨g,k*4+3,none⟩=some (.slice o2 l[k].ar.length d2):=((L.cell (p:=⟨g,k*4+3,none⟩) (by simp;omega)).trans ((World.cell?_alloc_past _ _ _ av).trans q3));have ak:=ag af;clear L af;go_wp2_with fail;have ae:Below w.heap.size w (X.setCell ⟨g,k*4+2,none⟩ (.slice p1 l[k].fields.length e1)):=(O.o.trans (aa.o.mono O.o.size)).setCell bf _;have ac:=ag ae;have ah:=zg6 (j:=k*4+2) ak.o (.slice p1 l[k].fields.length e1);have x3:(X.setCell ⟨g,k*4+2,none⟩ (.slice p1 l[k].fields.length e1)).cell? ⟨g,k*4+3,none⟩=some (.slice o2 l[k].ar.length d2):=(World.cell?_setCell_other _ _ _ _ (by simp)).trans x2;have a8:Hid (Stp w.heap.size [125,159,123,248] X (X.setCell ⟨g,k*4+2,none⟩ (.slice p1 l[k].fields.length e1))):=Stp.set ak.o (by decide) _ _;have a2:=ag (zg7 (zbh (Y.o.alloc _) aa.o) (k*4+2) (.slice p1 l[k].fields.length e1));clear m2 z2 y2 ch x2 ci ak;clear q0 q1 q2 q3;generalize hw3:X.setCell ⟨g,k*4+2,none⟩ (.slice p1 l[k].fields.length e1)=w3 at*;clear hw3;refine (zj8 w3 B _ _ (a4.o.keptM (Kp.below (ae.mono hB))) (lt3 hB ae.size) ad.o.2.1 ad.o.2.2).mono ?_;rintro r Z ⟨W,v2,rfl,bu⟩;have a7:=ag bu;obtain ⟨p2,e2,rfl,-⟩:=bu;have ai:=(W.block g (bz ah)).trans ah;have m4:Z.cell? ⟨g,k*4+3,none⟩=some (.slice o2 l[k].ar.length d2):=(W.cell (p:=⟨g,k*4+3,none⟩) (bz ah)).trans x3;have z4:Z.frozen? ⟨g,k*4+3,none⟩=false:=nu ai _;have cs:g<Z.heap.size:=bz ai;have N:Hid (∃zs':List (List Value×am),zs'.map (·.2)=l/\(∀z∈zs',z.1.length=4)/\(∀(j:Nat) (h:j<zs'.length),j<k+1->RC (MT w.heap.size [125,159,123,248] (Z.setCell ⟨g,k*4+3,none⟩ (.slice p2 l[k].ar.length e2))) (Z.setCell ⟨g,k*4+3,none⟩ (.slice p2 l[k].ar.length e2)) zs'[j].1 zs'[j].2)/\(∀(j:Nat) (h:j<zs'.length),k+1<=j->RC (· <B) w zs'[j].1 zs'[j].2)/\(Z.setCell ⟨g,k*4+3,none⟩ (.slice p2 l[k].ar.length e2)).ownsRow w.heap.size 162 4 (.slice (some ⟨g,0,none⟩) l.length c0) l.length (zs'.flatMap (·.1))/\Below w.heap.size w (Z.setCell ⟨g,k*4+3,none⟩ (.slice p2 l[k].ar.length e2))):=by
    obtain ⟨J,G,E,F,-,-⟩:=HI.o;have bn:Stp w.heap.size [125,159,123,248] Z (Z.setCell ⟨g,k*4+3,none⟩ (.slice p2 l[k].ar.length e2)):=Stp.set ai (by decide) _ _;have cl:Stp w.heap.size [125,159,123,248] w3 Z:=Stp.below W;have cj:Stp w.heap.size [125,159,123,248] wr X:=(Stp.alloc (Stp.refl _ _ _) _).trans (Stp.below aa.o);have bm:=(a8.o.trans cl).trans bn;have bg:=zg7 (zbh a2.o W) (k*4+3) (.slice p2 l[k].ar.length e2);have ce:∀z∈zs.set k (zs[k].1.set 2 (.slice p1 l[k].fields.length e1),zs[k].2),z.1.length=4:=fun z hz=>by
     rcases List.mem_or_eq_of_mem_set hz with h | h
     ·exact G z h
     rw [h,List.length_set];exact G _ (gm I)
    rw [zj4 zs k 2 _ G I (by decide),zj4 _ k 3 _ ce (by rw [List.length_set];exact I) (by decide),List.set_set,List.getElem_set_self]at bg;refine ⟨zs.set k ((zs[k].1.set 2 (.slice p1 l[k].fields.length e1)).set 3 (.slice p2 l[k].ar.length e2),zs[k].2),?_,?_,?_,?_,bg,(ac.o.trans (W.mono ac.o.size)).setCell bf _⟩
    ·rw [List.map_set];refine (congrArg (fun x=>(zs.map (·.2)).set k x) (List.getElem_map (f:=fun z:List Value×am=>z.2) (h:=by simpa using I)).symm).trans ?_;rw [List.set_getElem_self,J]
    ·intro z hz;rcases List.mem_or_eq_of_mem_set hz with h | h
     ·exact G z h
     rw [h,List.length_set,List.length_set];exact G _ (gm I)
    ·intro j h hj;have h':j<zs.length:=by simpa using h
     by_cases b6:j=k
     ·subst b6;rw [List.getElem_set_self,az.o,a1.o];exact ⟨_,_,rfl,(a6.o.monoF (fun _ hk=>hk.more (T':=[125,159,123,248]) O.o.size (fun _ ht=>by simp at ht;simp [ht]))).stpF bm,(a7.o.monoM (fun _ hk=>hk.more (T':=[125,159,123,248]) ac.o.size (fun _ ht=>by simp at ht;simp [ht]))).stpM bn,a5.o⟩
     rw [List.getElem_set_ne (by omega)];exact ((E j h' (by omega)).stp cj).stp bm
    intro j h hj;have h':j<zs.length:=by simpa using h
    rw [List.getElem_set_ne (by omega)];exact F j h' (by omega)
   clear ac a8 a2 a6 a7 a3 a4 ad az Y ay a1 a5 ah ai x3 W ae aa HI;have cr:l.length<=9223372036854775807:=by have:=aj.o;omega
   go_wp2_with fail;go_roundw
   case rel=>exact ⟨k+1,N.o.choose,by omega,by go_num,N.o.choose_spec⟩
   case measure=>simp [intOf];omega
  have cp:k=l.length:=by omega
  have N:Hid (SL 4 RC (MT w.heap.size [162,125,159,123,248] wr) wr (.slice a0 l.length c0) l):=by
   have:=ze4 (R:=RC) (T:=[162,125,159,123,248]) (zs:=zs) (n:=4) (by rw [cf];exact A) (fun z hz=>⟨G z hz,by
    obtain ⟨j,hj,rfl⟩:=List.mem_iff_getElem.1 hz;exact (E j hj (by omega)).mono fun _ hk=>hk.more (nlq _) (fun _ ht=>List.mem_cons_of_mem _ ht)⟩) (by simp) (by have:=aj.o;unfold maxLen;omega)
   rw [J]at this;exact this
  have b0:=ag ap;clear A E F G HI;go_wp2_with fail;go_ret;exact ⟨b0.o,_,rfl,N.o⟩
end Go.Proofs.YtjdnmblggdobgaaGreat
