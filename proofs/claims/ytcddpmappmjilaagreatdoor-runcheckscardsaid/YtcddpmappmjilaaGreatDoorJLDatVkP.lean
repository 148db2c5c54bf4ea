import Derived.Test.YtcddpmappmjilaaGreatDoorJPlainMem
namespace Go.Proofs.YtcddpmappmjilaaGreatDoor
open Go.RowKit
structure TargD where
 cls:Int
 meth:Int
def cls0:ClassD:=⟨⟨#[]⟩,⟨#[]⟩,[],[]⟩
def clsAt (l:List ClassD) (n:Nat):ClassD:=l[n]?.getD cls0
theorem clsAt_eq {l:List ClassD} {n:Nat} (h:n<l.length):clsAt l n=l[n]:=by simp [clsAt,h]
def num (l:List ClassD) (name:ByteArray):Int:=l.zipIdx.foldl (fun acc p=>if p.1.name=name then (p.2:Int) else acc) (-1)
theorem num_nil (name:ByteArray):num [] name= -1:=rfl
theorem num_snoc (l:List ClassD) (c:ClassD) (name:ByteArray):num (l++ [c]) name=if c.name=name then (l.length:Int) else num l name:=by
 unfold num
 rw [List.zipIdx_append,List.foldl_append]
 simp
theorem snoc_ind {α:Type} {P:List α->Prop} (h0:P []) (h1:∀l x,P l->P (l++ [x])) (l:List α):P l:=by
 have h:∀r:List α,P r.reverse:=fun r=>by
  induction r with
  | nil=>exact h0
  | cons x r ih=>rw [List.reverse_cons];exact h1 _ _ ih
 have:=h l.reverse
 rwa [List.reverse_reverse]at this
theorem num_le (l:List ClassD) (name:ByteArray): -1<=num l name/\num l name<l.length:=by
 induction l using snoc_ind with
 | h0=>rw [num_nil];simp
 | h1 l c ih=>
   rw [num_snoc,List.length_append]
   split<;>simp<;>omega
def supAt (l:List ClassD) (n:Nat):Int:=num l (clsAt l n).super
def climb (l:List ClassD):Nat->Int->List Nat
 | 0,_=>[]
 | f+1,n=>if 0<=n then n.toNat::climb l f (supAt l n.toNat) else []
def lineOf (l:List ClassD) (n:Nat):List Nat:=(climb l (l.length+1) n).reverse
def fieldsOf (l:List ClassD) (n:Nat):List FieldD:=(lineOf l n).flatMap fun k=>(clsAt l k).fields
def idxS (l:List ByteArray) (s:ByteArray):Int:=match l.findIdx? (fun x=>decide (x=s))with | some i=>i | none=>-1
def tabStep (acc:List ByteArray×List TargD) (x:ByteArray×TargD):List ByteArray×List TargD:=
 if 0<=idxS acc.1 x.1 then (acc.1,acc.2.set (idxS acc.1 x.1).toNat x.2) else (acc.1++ [x.1],acc.2++ [x.2])
def ownT (l:List ClassD) (n:Nat):List (ByteArray×TargD):=(clsAt l n).meths.zipIdx.map fun p=>(p.1.name,⟨n,p.2⟩)
def tableOf (l:List ClassD) (n:Nat):List ByteArray×List TargD:=((lineOf l n).flatMap (ownT l)).foldl tabStep ([],[])
def namesOf (l:List ClassD) (n:Nat):List ByteArray:=(tableOf l n).1
def targetsOf (l:List ClassD) (n:Nat):List TargD:=(tableOf l n).2
def topName:ByteArray:=⟨#[79,98,106,101,99,116]⟩
def errName:ByteArray:=⟨#[69,114,114,111,114]⟩
def hasC (l:List ClassD) (s:ByteArray):Bool:=decide (0<=num l s)
def knowsK (l:List ClassD) (k:KindD):Bool:=decide (k.cls=(⟨#[]⟩:ByteArray))||hasC l k.cls
def knowsM (l:List ClassD) (m:MethD):Bool:=m.args.all (knowsK l)&&knowsK l m.ret&&m.hands.all (fun h=>hasC l h.cls)
def sameK (a b:KindD):Bool:=decide (a.kind=b.kind)&&decide (a.cls=b.cls)
def differF (p:Bool×List ByteArray) (x:ByteArray):Bool×List ByteArray:=(p.1&&p.2.all (fun y=>!decide (x=y)),p.2++ [x])
def differB (l:List ByteArray):Bool:=(l.foldl differF (true,[])).1
theorem differ_snd (l:List ByteArray):(l.foldl differF (true,[])).2=l:=by
 induction l using snoc_ind with
 | h0=>rfl
 | h1 l x ih=>rw [List.foldl_append];show (l.foldl differF (true,[])).2++ [x]=_;rw [ih]
theorem differB_snoc (l:List ByteArray) (x:ByteArray):differB (l++ [x])=(differB l&&l.all (fun y=>!decide (x=y))):=by
 unfold differB
 rw [List.foldl_append]
 show ((l.foldl differF (true,[])).1&&(l.foldl differF (true,[])).2.all _)=_
 rw [differ_snd]
theorem bytes_eq {s t:ByteArray} (h:s.data.toList=t.data.toList):s=t:=by
 cases s
 cases t
 congr
 exact Array.toList_inj.1 h
theorem hasC_mem (l:List ClassD) (s:ByteArray):decide (0<=num l s)=l.any (fun c=>decide (s=c.name)):=by
 induction l using snoc_ind with
 | h0=>rfl
 | h1 l c ih=>
   rw [num_snoc,List.any_append,<-ih]
   by_cases h:c.name=s
   ·
    simp [h]
   rw [if_neg h]
   simp [Ne.symm h]
theorem differ_names_snoc (l:List ClassD) (c:ClassD):differB ((l++ [c]).map (·.name))=(differB (l.map (·.name))&& !decide (0<=num l c.name)):=by
 rw [List.map_append,List.map_cons,List.map_nil,differB_snoc,hasC_mem,List.all_map,List.not_any_eq_all_not]
 rfl
def askNames (l:List ClassD):Bool:=differB (l.map (·.name))
def askTop (l:List ClassD):Bool:=hasC l topName&&hasC l errName
def askUpper (l:List ClassD):Bool:=l.all fun c=>(decide (c.name=topName))==(decide (c.super=(⟨#[]⟩:ByteArray)))
def askSupers (l:List ClassD):Bool:=l.all fun c=>decide (c.super=(⟨#[]⟩:ByteArray))||hasC l c.super
def askNone (l:List ClassD):Bool:=(List.range l.length).all fun i=>decide ((lineOf l i).length<=l.length)
def askError (l:List ClassD):Bool:=
 decide (supAt l (num l errName).toNat=num l topName)&&(match fieldsOf l (num l errName).toNat with | []=>false | f::_=>sameK f.kind ⟨1,⟨#[]⟩⟩)
def askTold (l:List ClassD):Bool:=l.all fun c=>(c.fields.all fun f=>knowsK l f.kind)&&c.meths.all (knowsM l)
def askParts (l:List ClassD):Bool:=((List.range l.length).all fun i=>differB ((fieldsOf l i).map (·.name)))&&l.all fun c=>differB (c.meths.map (·.name))
def askFew (l:List ClassD):Bool:=((List.range l.length).all fun i=>decide ((fieldsOf l i).length<=12))&&((List.range l.length).all fun i=>decide ((namesOf l i).length<=16))
end Go.Proofs.YtcddpmappmjilaaGreatDoor
namespace Go.Proofs.YtcddpmappmjilaaGreatDoor
structure Lin (K:ByteArray->Prop) (top:ByteArray) (L:ByteArray->List ByteArray):Prop where
 kt:K top
 up:∀a,K a->(a=top/\L a= [a])\/∃s,K s/\L a=a::L s
theorem Lin.self {K:ByteArray->Prop} {top:ByteArray} {L:ByteArray->List ByteArray} (h:Lin K top L) {a:ByteArray} (ha:K a):a∈L a:=by
 rcases h.up a ha with ⟨-,e⟩ | ⟨s,-,e⟩<;>rw [e]<;>simp
theorem Lin.ind {K:ByteArray->Prop} {top:ByteArray} {L:ByteArray->List ByteArray} (h:Lin K top L) (P:ByteArray->Prop) (h0:L top= [top]->P top) (h1:∀a s,K a->K s->L a=a::L s->P s->P a):∀a,K a->P a:=by
 have key:∀n a,K a->(L a).length=n->P a:=by
  intro n
  induction n using Nat.strongRecOn with
  | _ n ih=>
    intro a ha hn
    rcases h.up a ha with ⟨e0,e⟩ | ⟨s,hs,e⟩
    ·
     subst e0
     exact h0 e
    exact h1 a s ha hs e (ih (L s).length (by rw [<-hn,e];simp) s hs rfl)
 exact fun a ha=>key _ a ha rfl
theorem Lin.known {K:ByteArray->Prop} {top:ByteArray} {L:ByteArray->List ByteArray} (h:Lin K top L):∀a,K a->∀b∈L a,K b:=
 h.ind _ (fun e b hb=>by rw [e]at hb;simp at hb;rw [hb];exact h.kt) (fun a s ha _ e ih b hb=>by
  rw [e]at hb
  rcases List.mem_cons.1 hb with rfl | hb
  ·
   exact ha
  exact ih b hb)
theorem Lin.trans {K:ByteArray->Prop} {top:ByteArray} {L:ByteArray->List ByteArray} (h:Lin K top L) {b c:ByteArray} (hc:c∈L b):∀a,K a->b∈L a->c∈L a:=
 h.ind _ (fun e hb=>by rw [e]at hb;simp at hb;rw [<-hb];exact hc) (fun a s _ _ e ih hb=>by
  rw [e]at hb
  rcases List.mem_cons.1 hb with rfl | hb
  ·
   exact hc
  rw [e];exact List.mem_cons_of_mem _ (ih hb))
theorem Lin.tops {K:ByteArray->Prop} {top:ByteArray} {L:ByteArray->List ByteArray} (h:Lin K top L):∀a,K a->top∈L a:=
 h.ind _ (fun e=>by rw [e];simp) (fun a s _ _ e ih=>by rw [e];exact List.mem_cons_of_mem _ ih)
def abvN (la lb:List ByteArray) (d:ByteArray):ByteArray:=(la.find? fun x=>lb.any fun y=>decide (y=x)).getD d
theorem Lin.abv {K:ByteArray->Prop} {top:ByteArray} {L:ByteArray->List ByteArray} (h:Lin K top L) {lb:List ByteArray} (hb:top∈lb) (d:ByteArray):
 ∀a,K a->abvN (L a) lb d∈L a/\abvN (L a) lb d∈lb/\∀c,c∈L a->c∈lb->c∈L (abvN (L a) lb d):=
 h.ind _ (fun e=>by
  rw [show abvN (L top) lb d=top by rw [abvN,e,List.find?_cons_of_pos (by simpa using hb)];rfl]
  exact ⟨by rw [e];simp,hb,fun c hc _=>hc⟩) (fun a s ha _ e ih=>by
  by_cases hx:a∈lb
  ·
   rw [show abvN (L a) lb d=a by rw [abvN,e,List.find?_cons_of_pos (by simpa using hx)];rfl]
   exact ⟨h.self ha,hx,fun c hc _=>hc⟩
  rw [show abvN (L a) lb d=abvN (L s) lb d by rw [abvN,e,List.find?_cons_of_neg (by simpa using hx)];rfl]
  refine ⟨by rw [e];exact List.mem_cons_of_mem _ ih.1,ih.2.1,fun c hc hcb=>?_⟩
  rw [e]at hc
  rcases List.mem_cons.1 hc with rfl | hc
  ·
   exact absurd hcb hx
  exact ih.2.2 c hc hcb)
def noNm:ByteArray:=⟨#[]⟩
def numK:KindD:=⟨1,noNm⟩
def rowK:KindD:=⟨2,noNm⟩
def nulK:KindD:=⟨5,noNm⟩
def anyK:KindD:=⟨6,noNm⟩
def GdK (K:ByteArray->Prop) (a:KindD):Prop:=((a.kind=3\/a.kind=4)/\K a.cls)\/a=numK\/a=rowK\/a=nulK\/a=anyK
def FitK (top:ByteArray) (L:ByteArray->List ByteArray) (a b:KindD):Prop:=
 a=b\/b=anyK\/(a=nulK/\b≠numK)\/(a≠nulK/\b=⟨3,top⟩/\a≠numK/\a≠anyK)\/(a≠nulK/\b≠⟨3,top⟩/\a.kind=3/\b.kind=3/\b.cls∈L a.cls)
theorem numK_kind {a:KindD} (h:a=numK):a.kind=1:=by rw [h];rfl
theorem rowK_kind {a:KindD} (h:a=rowK):a.kind=2:=by rw [h];rfl
theorem nulK_kind {a:KindD} (h:a=nulK):a.kind=5:=by rw [h];rfl
theorem anyK_kind {a:KindD} (h:a=anyK):a.kind=6:=by rw [h];rfl
section
variable {K:ByteArray->Prop} {top:ByteArray} {L:ByteArray->List ByteArray}
theorem FitK.trans (h:Lin K top L) {a b c:KindD} (ha:GdK K a) (hb:GdK K b) (h1:FitK top L a b) (h2:FitK top L b c):FitK top L a c:=by
 rcases h1 with rfl | rfl | ⟨ea,nb⟩ | ⟨na,rfl,n1,n2⟩ | ⟨na,nb,ka,kb,hm⟩
 ·
  exact h2
 ·
  rcases h2 with rfl | rfl | ⟨e,-⟩ | ⟨-,-,-,n⟩ | ⟨-,-,k,-⟩
  ·
   exact Or.inr (Or.inl rfl)
  ·
   exact Or.inr (Or.inl rfl)
  ·
   exact absurd (nulK_kind e) (by decide)
  ·
   exact absurd rfl n
  exact absurd k (by decide)
 ·
  rcases h2 with rfl | rfl | ⟨-,n⟩ | ⟨-,rfl,-,-⟩ | ⟨-,-,-,kc,-⟩
  ·
   exact Or.inr (Or.inr (Or.inl ⟨ea,nb⟩))
  ·
   exact Or.inr (Or.inl rfl)
  ·
   exact Or.inr (Or.inr (Or.inl ⟨ea,n⟩))
  ·
   exact Or.inr (Or.inr (Or.inl ⟨ea,fun e=>absurd (numK_kind e) (by show ¬(3:Int)=1;decide)⟩))
  exact Or.inr (Or.inr (Or.inl ⟨ea,fun e=>absurd (numK_kind e) (by omega)⟩))
 ·
  rcases h2 with rfl | rfl | ⟨e,-⟩ | ⟨-,rfl,-,-⟩ | ⟨-,nc,-,kc,hc⟩
  ·
   exact Or.inr (Or.inr (Or.inr (Or.inl ⟨na,rfl,n1,n2⟩)))
  ·
   exact Or.inr (Or.inl rfl)
  ·
   exact absurd (nulK_kind e) (by show ¬(3:Int)=5;decide)
  ·
   exact Or.inr (Or.inr (Or.inr (Or.inl ⟨na,rfl,n1,n2⟩)))
  exfalso
  rcases h.up top h.kt with ⟨-,e⟩ | ⟨s,hs,e⟩
  ·
   rw [e]at hc
   exact nc (by cases c;simp at hc kc;rw [hc,kc])
  have key:∀x,K x->(L top).length<=(L x).length:=h.ind _ (fun _=>Nat.le_refl _) (fun x y _ _ e ih=>by rw [e];simp;omega)
  have h1:=key s hs
  have h2:=congrArg List.length e
  simp at h2
  omega
 rcases h2 with rfl | rfl | ⟨e,-⟩ | ⟨-,rfl,-,-⟩ | ⟨-,nc,-,kc,hc⟩
 ·
  exact Or.inr (Or.inr (Or.inr (Or.inr ⟨na,nb,ka,kb,hm⟩)))
 ·
  exact Or.inr (Or.inl rfl)
 ·
  exact absurd (nulK_kind e) (by omega)
 ·
  exact Or.inr (Or.inr (Or.inr (Or.inl ⟨na,rfl,fun e=>absurd (numK_kind e) (by omega),fun e=>absurd (anyK_kind e) (by omega)⟩)))
 have hka:K a.cls:=by
  rcases ha with ⟨-,h⟩ | e | e | e | e
  ·
   exact h
  ·
   exact absurd (numK_kind e) (by omega)
  ·
   exact absurd (rowK_kind e) (by omega)
  ·
   exact absurd (nulK_kind e) (by omega)
  exact absurd (anyK_kind e) (by omega)
 exact Or.inr (Or.inr (Or.inr (Or.inr ⟨na,nc,ka,kc,h.trans hc _ hka hm⟩)))
theorem GdK.cls {a':KindD} (ha:GdK K a') (h:a'.kind=3):K a'.cls:=by
 rcases ha with ⟨-,h⟩ | e | e | e | e
 ·
  exact h
 ·
  exact absurd (numK_kind e) (by omega)
 ·
  exact absurd (rowK_kind e) (by omega)
 ·
  exact absurd (nulK_kind e) (by omega)
 exact absurd (anyK_kind e) (by omega)
end
theorem eqK_iff {a b:KindD} :sameK a b=true↔a=b:=by
 cases a;cases b
 simp [sameK]
theorem eqK_not {a b:KindD} :sameK a b=false↔a≠b:=by rw [<-Bool.not_eq_true,eqK_iff]
def inL (l:List ByteArray) (x:ByteArray):Bool:=l.any fun y=>decide (y=x)
theorem inL_iff {l:List ByteArray} {x:ByteArray} :inL l x=true↔x∈l:=by simp [inL]
def fitB (top:ByteArray) (L:ByteArray->List ByteArray) (a b:KindD):Bool:=
 if sameK a b||sameK b anyK then true else if sameK a nulK then !sameK b numK else if sameK b ⟨3,top⟩ then (!sameK a numK&& !sameK a anyK) else (decide (a.kind=3)&&decide (b.kind=3)&&inL (L a.cls) b.cls)
def joinB (top:ByteArray) (L:ByteArray->List ByteArray) (a b:KindD):KindD:=
 if fitB top L b a then a else if fitB top L a b then b else if decide (a.kind=3)&&decide (b.kind=3) then ⟨3,abvN (L a.cls) (L b.cls) a.cls⟩ else if (!sameK a numK&& !sameK a anyK)&&(!sameK b numK&& !sameK b anyK) then ⟨3,top⟩ else anyK
section
variable {K:ByteArray->Prop} {top:ByteArray} {L:ByteArray->List ByteArray} {a b c:KindD}
theorem fitB_iff:fitB top L a b=true↔FitK top L a b:=by
 unfold fitB FitK
 split
 ·
  rename_i h
  simp only [Bool.or_eq_true,eqK_iff]at h
  exact ⟨fun _=>h.elim Or.inl fun h=>Or.inr (Or.inl h),fun _=>rfl⟩
 rename_i h
 simp only [Bool.or_eq_true,eqK_iff,not_or]at h
 obtain ⟨h1,h2⟩:=h
 split
 ·
  rename_i h3
  rw [eqK_iff]at h3
  rw [Bool.not_eq_true',eqK_not]
  refine ⟨fun h=>Or.inr (Or.inr (Or.inl ⟨h3,h⟩)),?_⟩
  rintro (h | h | ⟨-,h⟩ | ⟨h,-⟩ | ⟨h,-⟩)
  ·
   exact absurd h h1
  ·
   exact absurd h h2
  ·
   exact h
  ·
   exact absurd h3 h
  exact absurd h3 h
 rename_i h3
 rw [eqK_iff]at h3
 split
 ·
  rename_i h4
  rw [eqK_iff]at h4
  rw [Bool.and_eq_true,Bool.not_eq_true',Bool.not_eq_true',eqK_not,eqK_not]
  refine ⟨fun h=>Or.inr (Or.inr (Or.inr (Or.inl ⟨h3,h4,h.1,h.2⟩))),?_⟩
  rintro (h | h | ⟨h,-⟩ | ⟨-,-,h,h'⟩ | ⟨-,h,-⟩)
  ·
   exact absurd h h1
  ·
   exact absurd h h2
  ·
   exact absurd h h3
  ·
   exact ⟨h,h'⟩
  exact absurd h4 h
 rename_i h4
 rw [eqK_iff]at h4
 rw [Bool.and_eq_true,Bool.and_eq_true,decide_eq_true_iff,decide_eq_true_iff,inL_iff]
 refine ⟨fun h=>Or.inr (Or.inr (Or.inr (Or.inr ⟨h3,h4,h.1.1,h.1.2,h.2⟩))),?_⟩
 rintro (h | h | ⟨h,-⟩ | ⟨-,h,-⟩ | ⟨-,-,k1,k2,h⟩)
 ·
  exact absurd h h1
 ·
  exact absurd h h2
 ·
  exact absurd h h3
 ·
  exact absurd h h4
 exact ⟨⟨k1,k2⟩,h⟩
theorem joinB_spec (h:Lin K top L) (ha:GdK K a) (hb:GdK K b):GdK K (joinB top L a b)/\FitK top L a (joinB top L a b)/\FitK top L b (joinB top L a b)/\∀c,GdK K c->FitK top L a c->FitK top L b c->FitK top L (joinB top L a b) c:=by
 unfold joinB
 split
 ·
  rename_i h1
  exact ⟨ha,Or.inl rfl,fitB_iff.1 h1,fun _ _ h _=>h⟩
 rename_i h1
 rw [fitB_iff]at h1
 split
 ·
  rename_i h2
  exact ⟨hb,fitB_iff.1 h2,Or.inl rfl,fun _ _ _ h=>h⟩
 rename_i h2
 rw [fitB_iff]at h2
 have nab:a≠b:=fun e=>h2 (Or.inl e)
 have na:a≠anyK:=fun e=>h1 (Or.inr (Or.inl e))
 have nb:b≠anyK:=fun e=>h2 (Or.inr (Or.inl e))
 split
 ·
  rename_i h3
  rw [Bool.and_eq_true,decide_eq_true_iff,decide_eq_true_iff]at h3
  obtain ⟨k1,k2⟩:=h3
  have hta:=h.tops _ (hb.cls k2)
  obtain ⟨m1,m2,m3⟩:=h.abv hta a.cls _ (ha.cls k1)
  generalize abvN (L a.cls) (L b.cls) a.cls=j at*
  have hkj:=h.known _ (ha.cls k1) j m1
  have to:∀ {x:KindD},x.kind=3->j∈L x.cls->FitK top L x ⟨3,j⟩:=fun {x} kx hx=>by
   by_cases e:j=top
   ·
    exact Or.inr (Or.inr (Or.inr (Or.inl ⟨fun e=>absurd (nulK_kind e) (by omega),by rw [e],fun e=>absurd (numK_kind e) (by omega),fun e=>absurd (anyK_kind e) (by omega)⟩)))
   exact Or.inr (Or.inr (Or.inr (Or.inr ⟨fun e=>absurd (nulK_kind e) (by omega),fun e'=>e (by injection e'),kx,rfl,hx⟩)))
  refine ⟨Or.inl ⟨Or.inl rfl,hkj⟩,to k1 m1,to k2 m2,fun c hc hac hbc=>?_⟩
  rcases hac with rfl | rfl | ⟨e,-⟩ | ⟨-,rfl,-,-⟩ | ⟨-,nc,-,kc,hm⟩
  ·
   exact absurd hbc h1
  ·
   exact Or.inr (Or.inl rfl)
  ·
   exact absurd (nulK_kind e) (by omega)
  ·
   exact Or.inr (Or.inr (Or.inr (Or.inl ⟨fun e=>absurd (nulK_kind e) (by show ¬(3:Int)=5;decide),rfl,fun e=>absurd (numK_kind e) (by show ¬(3:Int)=1;decide),fun e=>absurd (anyK_kind e) (by show ¬(3:Int)=6;decide)⟩)))
  rcases hbc with rfl | rfl | ⟨e,-⟩ | ⟨-,e,-⟩ | ⟨-,-,-,-,hm'⟩
  ·
   exact absurd (Or.inr (Or.inr (Or.inr (Or.inr ⟨fun e=>absurd (nulK_kind e) (by omega),nc,k1,k2,hm⟩)))) h2
  ·
   exact Or.inr (Or.inl rfl)
  ·
   exact absurd (nulK_kind e) (by omega)
  ·
   exact absurd e nc
  exact Or.inr (Or.inr (Or.inr (Or.inr ⟨fun e=>absurd (nulK_kind e) (by show ¬(3:Int)=5;decide),nc,rfl,kc,m3 _ hm hm'⟩)))
 rename_i h3
 rw [Bool.and_eq_true,decide_eq_true_iff,decide_eq_true_iff]at h3
 split
 ·
  rename_i h4
  simp only [Bool.and_eq_true,Bool.not_eq_true',eqK_not]at h4
  obtain ⟨⟨n1,-⟩,n2,-⟩:=h4
  have to:∀ {x:KindD},x≠numK->x≠anyK->FitK top L x ⟨3,top⟩:=fun {x} h1 h2=>by
   by_cases e:x=nulK
   ·
    exact Or.inr (Or.inr (Or.inl ⟨e,fun e=>absurd (numK_kind e) (by show ¬(3:Int)=1;decide)⟩))
   exact Or.inr (Or.inr (Or.inr (Or.inl ⟨e,rfl,h1,h2⟩)))
  refine ⟨Or.inl ⟨Or.inl rfl,h.kt⟩,to n1 na,to n2 nb,fun c hc hac hbc=>?_⟩
  rcases hac with rfl | rfl | ⟨ea,nc⟩ | ⟨-,rfl,-,-⟩ | ⟨-,nc,k1,kc,hm⟩
  ·
   exact absurd hbc h1
  ·
   exact Or.inr (Or.inl rfl)
  ·
   exact absurd (Or.inr (Or.inr (Or.inl ⟨ea,n2⟩))) h2
  ·
   exact Or.inl rfl
  rcases hbc with rfl | rfl | ⟨eb,-⟩ | ⟨-,e,-⟩ | ⟨-,-,k2,-,-⟩
  ·
   exact absurd (Or.inr (Or.inr (Or.inr (Or.inr ⟨fun e=>absurd (nulK_kind e) (by omega),nc,k1,kc,hm⟩)))) h2
  ·
   exact Or.inr (Or.inl rfl)
  ·
   exact absurd (Or.inr (Or.inr (Or.inl ⟨eb,n1⟩))) h1
  ·
   exact absurd e nc
  exact absurd ⟨k1,k2⟩ h3
 rename_i h4
 simp only [Bool.and_eq_true,Bool.not_eq_true',eqK_not,not_and]at h4
 refine ⟨Or.inr (Or.inr (Or.inr (Or.inr rfl))),Or.inr (Or.inl rfl),Or.inr (Or.inl rfl),fun c hc hac hbc=>?_⟩
 by_cases ec:c=anyK
 ·
  exact Or.inr (Or.inl ec)
 exfalso
 by_cases en:a=numK
 ·
  rcases hac with rfl | e | ⟨e,-⟩ | ⟨-,-,n,-⟩ | ⟨-,-,k,-⟩
  ·
   exact h1 hbc
  ·
   exact ec e
  ·
   exact absurd ((numK_kind en).symm.trans (nulK_kind e)) (by decide)
  ·
   exact n en
  exact absurd ((numK_kind en).symm.trans k) (by decide)
 have en2:b=numK:=Classical.byContradiction fun n=>absurd nb (h4 ⟨en,na⟩ n)
 rcases hbc with rfl | e | ⟨e,-⟩ | ⟨-,-,n,-⟩ | ⟨-,-,k,-⟩
 ·
  exact h2 hac
 ·
  exact ec e
 ·
  exact absurd ((numK_kind en2).symm.trans (nulK_kind e)) (by decide)
 ·
  exact n en2
 exact absurd ((numK_kind en2).symm.trans k) (by decide)
end
end Go.Proofs.YtcddpmappmjilaaGreatDoor
