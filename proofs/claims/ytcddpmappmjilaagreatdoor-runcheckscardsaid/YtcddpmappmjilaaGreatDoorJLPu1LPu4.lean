import Derived.Test.YtcddpmappmjilaaGreatDoorJLRf3LCkD
import Derived.Test.YtcddpmappmjilaaGreatDoorFine
import Derived.Test.YtcddpmappmjilaaGreatDoorJLSaDRvE
namespace Go.Proofs.YtcddpmappmjilaaGreatDoor
open Go.RowKit
theorem firstAt_snoc (l:List ClassD) (c:ClassD) (s:ByteArray):firstAt (l++ [c]) s=if 0<=firstAt l s then firstAt l s else if c.name=s then (l.length:Int) else -1:=by
 by_cases h:∃(k:Nat) (hk:k<l.length),l[k].name=s
 ·
  have hx:∃k:Nat,(∃hk:k<l.length,l[k].name=s)/\∀j:Nat,j<k->¬ ∃hj:j<l.length,l[j].name=s:=by
   obtain ⟨k,hk⟩:=h
   induction k using Nat.strongRecOn with
   | _ k ih=>
     by_cases hm:∃j:Nat,j<k/\∃hj:j<l.length,l[j].name=s
     ·
      obtain ⟨j,hjk,hj⟩:=hm
      exact ih j hjk hj
     exact ⟨k,hk,fun j hj hh=>hm ⟨j,hj,hh⟩⟩
  obtain ⟨k,⟨hk,hs⟩,hb⟩:=hx
  have h1:firstAt l s=k:=firstAt_hit hk hs fun j hj hjk e=>hb j hjk ⟨hj,e⟩
  have hk':k<(l++ [c]).length:=by simp;omega
  have h2:firstAt (l++ [c]) s=k:=firstAt_hit hk' (by rw [List.getElem_append_left hk];exact hs) fun j hj hjk e=>hb j hjk ⟨by omega,by rwa [List.getElem_append_left (by omega)]at e⟩
  rw [h1,h2,if_pos (by omega)]
 have h1:firstAt l s= -1:=firstAt_none fun j hj e=>h ⟨j,hj,e⟩
 rw [h1,if_neg (by omega)]
 split
 ·
  rename_i hc
  have hk':l.length<(l++ [c]).length:=by simp
  exact firstAt_hit hk' (by simp [hc]) fun j hj hjk e=>h ⟨j,hjk,by rwa [List.getElem_append_left hjk]at e⟩
 rename_i hc
 refine firstAt_none fun j hj e=>?_
 by_cases hjl:j<l.length
 ·
  exact h ⟨j,hjl,by rwa [List.getElem_append_left hjl]at e⟩
 have:j=l.length:=by simp at hj;omega
 subst this
 simp at e
 exact hc e
theorem num_firstAt (l:List ClassD) (s:ByteArray):askNames l=true->num l s=firstAt l s:=by
 induction l using snoc_ind with
 | h0=>intro _;rfl
 | h1 l c ih=>
   intro h
   have h':differB (l.map (·.name))=true/\(!decide (0<=num l c.name))=true:=by
    have:askNames (l++ [c])=(differB (l.map (·.name))&& !decide (0<=num l c.name)):=differ_names_snoc l c
    rw [this,Bool.and_eq_true]at h
    exact h
   have ih':=ih h'.1
   rw [num_snoc,firstAt_snoc,<-ih']
   by_cases hc:c.name=s
   ·
    rw [if_pos hc]
    have hn:¬ 0<=num l s:=by
     have:=h'.2
     rw [hc]at this
     simpa using this
    rw [if_neg hn,if_pos hc]
   rw [if_neg hc,if_neg hc]
   split
   ·
    rfl
   have:=(num_le l s).1
   omega
theorem names_q1 (l:List ClassD):askNames l=allI l (q1 l):=by
 rw [Bool.eq_iff_iff]
 constructor
 ·
  intro h
  rw [allI,List.all_eq_true]
  intro i hi
  have hil:=List.mem_range.1 hi
  rw [q1,decide_eq_true_iff,clsAt_eq hil]
  refine firstAt_hit hil rfl fun j hj hji e=>?_
  have hp:(l.map (·.name)).Pairwise (· ≠ ·):=(differB_pw _).1 h
  rw [List.pairwise_iff_getElem]at hp
  exact hp j i (by simpa using hj) (by simpa using hil) hji (by simpa using e)
 intro h
 rw [allI,List.all_eq_true]at h
 refine diff_of (fun c:ClassD=>c.name) l fun i j hi hj hij e=>?_
 have h1:=h j (List.mem_range.2 hj)
 rw [q1,decide_eq_true_iff,clsAt_eq hj]at h1
 have h2:=h i (List.mem_range.2 hi)
 rw [q1,decide_eq_true_iff,clsAt_eq hi]at h2
 have:(i:Int)=j:=by rw [<-h1,<-h2];exact congrArg _ e
 omega
theorem top_q2 (l:List ClassD) (h:askNames l=true):askTop l=q2 l:=by
 rw [askTop,q2,hasC,hasC,num_firstAt l _ h,num_firstAt l _ h]
theorem all_q {l:List ClassD} {p:ClassD->Bool} {q:Nat->Bool} (h:∀(i:Nat) (hi:i<l.length),q i=p l[i]):l.all p=allI l q:=by
 rw [Bool.eq_iff_iff,allI,List.all_eq_true,List.all_eq_true]
 constructor
 ·
  intro hp i hi
  have hil:=List.mem_range.1 hi
  rw [h i hil]
  exact hp _ (List.getElem_mem hil)
 intro hq c hc
 obtain ⟨i,hi,rfl⟩:=List.getElem_of_mem hc
 rw [<-h i hi]
 exact hq i (List.mem_range.2 hi)
theorem upper_q3 (l:List ClassD):askUpper l=allI l (q3 l):=all_q fun i hi=>by
 rw [q3,clsAt_eq hi,upperB]
theorem supers_q4 (l:List ClassD) (h:askNames l=true):askSupers l=allI l (q4 l):=all_q fun i hi=>by
 rw [q4,clsAt_eq hi,hasC,num_firstAt l _ h]
theorem supAt_F (l:List ClassD) (h:askNames l=true) (n:Nat):supAt l n=supF l n:=num_firstAt l _ h
theorem toldK_knows (l:List ClassD) (h:askNames l=true) (k:KindD):toldK l k=knowsK l k:=by
 rw [toldK,knowsK,hasC,num_firstAt l _ h]
theorem toldM_knows (l:List ClassD) (h:askNames l=true) (m:MethD):toldM l m=knowsM l m:=by
 have e:toldK l=knowsK l:=funext fun k=>toldK_knows l h k
 have e2:(fun x:HandD=>decide (0<=firstAt l x.cls))=fun x=>hasC l x.cls:=funext fun x=>by rw [hasC,num_firstAt l _ h]
 rw [toldM,knowsM,e,e2]
theorem told_q7 (l:List ClassD) (h:askNames l=true):askTold l=allI l (q7 l):=all_q fun i hi=>by
 have e:(fun f:FieldD=>toldK l f.kind)=fun f=>knowsK l f.kind:=funext fun f=>toldK_knows l h f.kind
 have e2:toldM l=knowsM l:=funext fun m=>toldM_knows l h m
 rw [q7,clsAt_eq hi,e,e2]
end Go.Proofs.YtcddpmappmjilaaGreatDoor
namespace Go.Proofs.YtcddpmappmjilaaGreatDoor
open Go.RowKit
theorem pigeon:∀(m:Nat) (f:Nat->Nat),(∀k,k<=m->f k<m)->∃i j,i<j/\j<=m/\f i=f j
 | 0,f,h=>absurd (h 0 (Nat.le_refl _)) (by omega)
 | m+1,f,h=>by
   by_cases hx:∃i,i<=m/\f i=f (m+1)
   ·
    obtain ⟨i,hi,e⟩:=hx
    exact ⟨i,m+1,by omega,by omega,e⟩
   have hne:∀i,i<=m->f i≠f (m+1):=fun i hi e=>hx ⟨i,hi,e⟩
   have hv:=h (m+1) (Nat.le_refl _)
   obtain ⟨i,j,hij,hj,e⟩:=pigeon m (fun k=>if f (m+1)<f k then f k - 1 else f k) (fun k hk=>by
    have h1:=h k (by omega)
    have h2:=hne k hk
    show (if f (m+1)<f k then f k - 1 else f k)<m
    split<;>omega)
   refine ⟨i,j,hij,by omega,?_⟩
   have h2:=hne i (by omega)
   have h3:=hne j (by omega)
   split at e<;>split at e<;>omega
def upBy (l:List ClassD):Nat->Int->Int
 | 0,n=>n
 | k+1,n=>if 0<=n then upBy l k (supAt l n.toNat) else n
theorem upBy_neg (l:List ClassD) {n:Int} (h:¬ 0<=n):∀k,upBy l k n=n
 | 0=>rfl
 | k+1=>by rw [upBy,if_neg h]
theorem upBy_add (l:List ClassD):∀(a b:Nat) (n:Int),upBy l (a+b) n=upBy l b (upBy l a n)
 | 0,b,n=>by simp [upBy]
 | a+1,b,n=>by
   rw [show a+1+b=(a+b)+1 by omega,upBy,upBy]
   by_cases h:0<=n
   ·
    rw [if_pos h,if_pos h]
    exact upBy_add l a b _
   rw [if_neg h,if_neg h,upBy_neg l h]
theorem upBy_lt (l:List ClassD):∀(k:Nat) (n:Int),n<l.length->upBy l k n<l.length
 | 0,n,h=>h
 | k+1,n,h=>by
   rw [upBy]
   split
   ·
    exact upBy_lt l k _ (sup_bd l _).2
   exact h
theorem climb_full (l:List ClassD):∀(f:Nat) (n:Int),(climb l f n).length=f↔∀k,k<f->0<=upBy l k n
 | 0,n=>by simp [climb]
 | f+1,n=>by
   rw [climb]
   by_cases h:0<=n
   ·
    rw [if_pos h,List.length_cons]
    have ih:=climb_full l f (supAt l n.toNat)
    constructor
    ·
     intro e k hk
     cases k with
     | zero=>exact h
     | succ k=>
       rw [upBy,if_pos h]
       exact ih.1 (by omega) k (by omega)
    intro hh
    have:(climb l f (supAt l n.toNat)).length=f:=ih.2 fun k hk=>by
     have:=hh (k+1) (by omega)
     rwa [upBy,if_pos h]at this
    omega
   rw [if_neg h]
   constructor
   ·
    intro e
    simp at e
   intro hh
   exact absurd (hh 0 (by omega)) h
theorem climb_stop (l:List ClassD):∀(f:Nat) (n:Int),(climb l f n).length<f->climb l (f+1) n=climb l f n
 | 0,n,h=>by simp at h
 | f+1,n,h=>by
   by_cases h0:0<=n
   ·
    rw [climb,if_pos h0,List.length_cons]at h
    have e1:climb l (f+1+1) n=n.toNat::climb l (f+1) (supAt l n.toNat):=by rw [climb,if_pos h0]
    have e2:climb l (f+1) n=n.toNat::climb l f (supAt l n.toNat):=by rw [climb,if_pos h0]
    rw [e1,e2,climb_stop l f _ (by omega)]
   rw [climb_end h0,climb_end h0]
theorem upF_climb (l:List ClassD) (hn:askNames l=true):∀(r:Nat) (n:Int) (out:List Nat),r+out.length=l.length+1->(climb l (r+1) n).length<=r->upF l (r+2) n out=(climb l r n).reverse++out
 | 0,n,out,ho,h=>by
   rw [upF]
   by_cases h0:0<=n
   ·
    rw [climb,if_pos h0]at h
    simp at h
   rw [if_neg h0]
   simp [climb]
 | r+1,n,out,ho,h=>by
   rw [upF]
   by_cases h0:0<=n
   ·
    rw [if_pos h0,if_neg (by omega),<-supAt_F l hn,upF_climb l hn r _ _ (by simp;omega) (by rw [climb,if_pos h0,List.length_cons]at h;omega),climb,if_pos h0]
    simp
   rw [if_neg h0,climb,if_neg h0]
   simp
theorem line_up (l:List ClassD) (hn:askNames l=true) (n:Nat) (h:(lineOf l n).length<=l.length):upOf l n=lineOf l n:=by
 have h1:(climb l (l.length+1) n).length<=l.length:=by rwa [lineOf,List.length_reverse]at h
 have:=upF_climb l hn (l.length+1) n [] (by simp) (by rw [climb_stop l _ _ (by omega)];omega)
 rw [upOf,lineOf,this,List.append_nil]
theorem round_up (l:List ClassD) {n:Nat} (hn:n<l.length) (h:∀k,k<l.length+1->0<=upBy l k n):0<=upBy l (l.length+1) n:=by
 obtain ⟨i,j,hij,hj,e⟩:=pigeon l.length (fun k=>(upBy l k n).toNat) (fun k hk=>by
  have h1:=h k (by omega)
  have h2:=upBy_lt l k n (by omega)
  show (upBy l k n).toNat<l.length
  omega)
 have e':upBy l i n=upBy l j n:=by
  have h1:=h i (by omega)
  have h2:=h j (by omega)
  omega
 have h3:upBy l (l.length+1) n=upBy l (i+(l.length+1 - j)) n:=by
  rw [show l.length+1=j+(l.length+1 - j) by omega,upBy_add,<-e',<-upBy_add,show j+(l.length+1 - j)=l.length+1 by omega]
 rw [h3]
 exact h _ (by omega)
theorem upF_none (l:List ClassD) (hn:askNames l=true):∀(r:Nat) (n:Int) (out:List Nat),r+out.length=l.length+1->(∀k,k<=r->0<=upBy l k n)->upF l (r+2) n out= []
 | 0,n,out,ho,h=>by
   have h0:0<=n:=h 0 (by omega)
   rw [upF,if_pos h0,if_pos (by omega)]
 | r+1,n,out,ho,h=>by
   have h0:0<=n:=h 0 (by omega)
   rw [upF,if_pos h0,if_neg (by omega),<-supAt_F l hn]
   exact upF_none l hn r _ _ (by simp;omega) fun k hk=>by
    have:=h (k+1) (by omega)
    rwa [upBy,if_pos h0]at this
theorem line_long (l:List ClassD) (hn:askNames l=true) {n:Nat} (hnl:n<l.length) (h:¬(lineOf l n).length<=l.length):upOf l n= []:=by
 have h1:(climb l (l.length+1) n).length=l.length+1:=by
  have:=climb_len l (l.length+1) n
  rw [lineOf,List.length_reverse]at h
  omega
 have h2:=(climb_full l _ _).1 h1
 have h3:=round_up l hnl h2
 exact upF_none l hn (l.length+1) n [] (by simp) fun k hk=>by
  by_cases hk':k<l.length+1
  ·
   exact h2 k hk'
  have:k=l.length+1:=by omega
  subst this
  exact h3
theorem line_ne (l:List ClassD) (n:Nat):lineOf l n≠ []:=by
 rw [lineOf,climb,if_pos (by omega)]
 simp
theorem none_q5 (l:List ClassD) (hn:askNames l=true):askNone l=allI l (q5 l):=by
 rw [askNone,allI,Bool.eq_iff_iff,List.all_eq_true,List.all_eq_true]
 have key:∀i,i<l.length->(decide ((lineOf l i).length<=l.length)=true↔q5 l i=true):=fun i hi=>by
  rw [q5,decide_eq_true_iff,decide_eq_true_iff]
  constructor
  ·
   intro h
   rw [line_up l hn i h]
   exact List.length_pos_iff.2 (line_ne l i)
  intro h
  by_cases hh:(lineOf l i).length<=l.length
  ·
   exact hh
  rw [line_long l hn hi hh]at h
  simp at h
 constructor
 ·
  intro h i hi
  exact (key i (List.mem_range.1 hi)).1 (h i hi)
 intro h i hi
 exact (key i (List.mem_range.1 hi)).2 (h i hi)
end Go.Proofs.YtcddpmappmjilaaGreatDoor
namespace Go.Proofs.YtcddpmappmjilaaGreatDoor
open Go.RowKit
theorem up_line {l:List ClassD} (hn:askNames l=true) (h5:askNone l=true) {i:Nat} (hi:i<l.length):upOf l i=lineOf l i:=by
 rw [askNone,List.all_eq_true]at h5
 have:=h5 i (List.mem_range.2 hi)
 exact line_up l hn i (of_decide_eq_true this)
theorem allF_fields {l:List ClassD} (hn:askNames l=true) (h5:askNone l=true) {i:Nat} (hi:i<l.length):allF l i=fieldsOf l i:=by
 rw [allF,fieldsOf,up_line hn h5 hi]
theorem tabF_table {l:List ClassD} (hn:askNames l=true) (h5:askNone l=true) {i:Nat} (hi:i<l.length):tabF l i=tableOf l i:=by
 rw [tabF,tableOf,up_line hn h5 hi]
theorem firstAt_name {l:List ClassD} {s:ByteArray} (h:0<=firstAt l s):∃(n:Nat) (hn:n<l.length),firstAt l s=n/\l[n].name=s:=by
 unfold firstAt at h ⊢
 split at h
 ·
  rename_i i hi
  obtain ⟨h1,h2,_⟩:=List.findIdx?_eq_some_iff_getElem.1 hi
  exact ⟨i,h1,rfl,of_decide_eq_true h2⟩
 omega
theorem line_mem {l:List ClassD} {n:Nat} (hn:n<l.length) {f:FieldD} (hf:f∈fieldsOf l n):∃c∈l,f∈c.fields:=by
 rw [fieldsOf,List.mem_flatMap]at hf
 obtain ⟨k,hk,hf⟩:=hf
 have hkl:=line_lt hn k hk
 rw [clsAt_eq hkl]at hf
 exact ⟨_,List.getElem_mem hkl,hf⟩
theorem size_nil {s:ByteArray} (h:s.size=0):s=⟨#[]⟩:=by
 obtain ⟨⟨x⟩⟩:=s
 have:x.length=0:=h
 rw [List.eq_nil_of_length_eq_zero this]
theorem error_q6 {l:List ClassD} (hn:askNames l=true) (h5:askNone l=true) (ht:askTop l=true) (hfine:∀c∈l,FineC c):askError l=q6 l:=by
 have h2:=ht
 rw [top_q2 l hn,q2,Bool.and_eq_true,decide_eq_true_iff,decide_eq_true_iff]at h2
 obtain ⟨t,htl,e1,e2⟩:=firstAt_name h2.1
 obtain ⟨x,hxl,e3,e4⟩:=firstAt_name h2.2
 have ex:(firstAt l errName).toNat=x:=by rw [e3];rfl
 rw [askError,q6,num_firstAt l _ hn,num_firstAt l _ hn,ex,allF_fields hn h5 hxl]
 have hs:decide (supAt l x=firstAt l topName)=decide ((clsAt l x).super=topName):=by
  rw [Bool.eq_iff_iff,decide_eq_true_iff,decide_eq_true_iff,supAt,num_firstAt l _ hn]
  constructor
  ·
   intro e
   obtain ⟨m,hm,e5,e6⟩:=firstAt_name (l:=l) (s:=(clsAt l x).super) (by omega)
   have:m=t:=by omega
   subst this
   rw [<-e6,e2]
  intro e
  rw [e]
 rw [hs]
 cases hf:fieldsOf l x with
 | nil=>rfl
 | cons f fs=>
   show (_&&sameK f.kind ⟨1,⟨#[]⟩⟩)=(_&&decide (f.kind.kind=1))
   obtain ⟨c,hc,hfc⟩:=line_mem hxl (f:=f) (by rw [hf];simp)
   have hk:=((hfine c hc).2.2.2.1 f hfc).2
   have:sameK f.kind ⟨1,⟨#[]⟩⟩=decide (f.kind.kind=1):=by
    rw [sameK]
    by_cases h1:f.kind.kind=1
    ·
     have h3:=size_nil (hk.2.2.2 (by rw [h1];rfl))
     rw [h3]
     simp
    simp [h1]
   rw [this]
theorem parts_q8 {l:List ClassD} (hn:askNames l=true) (h5:askNone l=true):askParts l=allI l (q8 l):=by
 have h:(l.all fun c=>differB (c.meths.map (·.name)))=allI l fun i=>differB ((clsAt l i).meths.map (·.name)):=all_q fun i hi=>by rw [clsAt_eq hi]
 rw [askParts,h,allI,allI,Bool.eq_iff_iff,Bool.and_eq_true,List.all_eq_true,List.all_eq_true,List.all_eq_true]
 constructor
 ·
  rintro ⟨h1,h2⟩ i hi
  rw [q8,allF_fields hn h5 (List.mem_range.1 hi),Bool.and_eq_true]
  exact ⟨h1 i hi,h2 i hi⟩
 intro h1
 have h2:=fun i hi=>by
  have:=h1 i hi
  rwa [q8,allF_fields hn h5 (List.mem_range.1 hi),Bool.and_eq_true]at this
 exact ⟨fun i hi=>(h2 i hi).1,fun i hi=>(h2 i hi).2⟩
end Go.Proofs.YtcddpmappmjilaaGreatDoor
namespace Go.Proofs.YtcddpmappmjilaaGreatDoor
open Go.RowKit
theorem sameK_iff (a b:KindD):sameK a b=true↔a=b:=by
 cases a
 cases b
 simp [sameK]
theorem eqLK_iff:∀l m:List KindD,eqL sameK l m=true↔l=m
 | [],[]=>by simp [eqL]
 | [],_::_=>by simp [eqL]
 | _::_,[]=>by simp [eqL]
 | x::l,y::m=>by rw [eqL,Bool.and_eq_true,sameK_iff,eqLK_iff l m,List.cons.injEq]
def fits (x y:MethD):Bool:=!x.static&& !y.static&&sameK x.ret y.ret&&eqL sameK x.args y.args
theorem fits_iff (x y:MethD):fits x y=true↔x.static=false/\y.static=false/\x.ret=y.ret/\x.args=y.args:=by
 simp only [fits,Bool.and_eq_true,Bool.not_eq_true',sameK_iff,eqLK_iff]
 constructor
 ·
  rintro ⟨⟨⟨h1,h2⟩,h3⟩,h4⟩;exact ⟨h1,h2,h3,h4⟩
 rintro ⟨h1,h2,h3,h4⟩;exact ⟨⟨⟨h1,h2⟩,h3⟩,h4⟩
theorem fits_trans {x y z:MethD} (h:fits x z=true) (k:fits z y=true):fits x y=true:=by
 rw [fits_iff]at*
 exact ⟨h.1,k.2.1,h.2.2.1.trans k.2.2.1,h.2.2.2.trans k.2.2.2⟩
theorem fitM_iff (x y:MethD):fitM x y=true↔(x.name=y.name->fits x y=true):=by
 by_cases h:x.name=y.name
 ·
  simp only [fitM,h,decide_true,Bool.not_true,Bool.false_or,forall_const]
  rw [fits_iff]
  simp only [Bool.and_eq_true,Bool.not_eq_true',sameK_iff,eqLK_iff]
  constructor
  ·
   rintro ⟨⟨⟨h1,h2⟩,h3⟩,h4⟩;exact ⟨h1,h2,h4,h3⟩
  rintro ⟨h1,h2,h3,h4⟩;exact ⟨⟨⟨h1,h2⟩,h4⟩,h3⟩
 simp [fitM,h]
theorem idxS_get {l:List ByteArray} {s:ByteArray} (h:0<=idxS l s):∃(k:Nat) (hk:k<l.length),idxS l s=k/\l[k]=s:=by
 unfold idxS at h ⊢
 cases hf:l.findIdx? (fun x=>decide (x=s))with
 | none=>rw [hf]at h;simp at h
 | some k=>
   obtain ⟨hk,h1,-⟩:=List.findIdx?_eq_some_iff_getElem.1 hf
   exact ⟨k,hk,rfl,by simpa using h1⟩
theorem idxS_append (l:List ByteArray) (a s:ByteArray):idxS (l++ [a]) s=if 0<=idxS l s then idxS l s else if a=s then (l.length:Int) else -1:=by
 unfold idxS
 rw [List.findIdx?_append]
 cases hf:l.findIdx? (fun x=>decide (x=s))with
 | some k=>simp
 | none=>
   by_cases ha:a=s
   ·
    simp [ha,List.findIdx?_cons]
   simp [ha,List.findIdx?_cons]
def lookT (acc:List ByteArray×List TargD) (s:ByteArray):Option TargD:=if 0<=idxS acc.1 s then acc.2[(idxS acc.1 s).toNat]? else none
theorem lookT_step (acc:List ByteArray×List TargD) (x:ByteArray×TargD) (s:ByteArray) (h:acc.1.length=acc.2.length):lookT (tabStep acc x) s=if x.1=s then some x.2 else lookT acc s:=by
 unfold tabStep
 by_cases hx:0<=idxS acc.1 x.1
 ·
  rw [if_pos hx]
  obtain ⟨k,hk,e,hg⟩:=idxS_get hx
  unfold lookT
  by_cases hs:x.1=s
  ·
   rw [if_pos hs,<-hs,if_pos hx,e]
   simp only [Int.toNat_natCast]
   rw [List.getElem?_set_self (by omega)]
  rw [if_neg hs]
  by_cases h0:0<=idxS acc.1 s
  ·
   obtain ⟨k',hk',e',hg'⟩:=idxS_get h0
   rw [if_pos h0,if_pos h0,e,e']
   simp only [Int.toNat_natCast]
   rw [List.getElem?_set_ne]
   intro hkk
   subst hkk
   exact hs (hg.symm.trans hg')
  rw [if_neg h0,if_neg h0]
 rw [if_neg hx]
 unfold lookT
 rw [idxS_append]
 by_cases h0:0<=idxS acc.1 s
 ·
  obtain ⟨k',hk',e',hg'⟩:=idxS_get h0
  have hs:¬x.1=s:=fun e=>hx (by rw [e];exact h0)
  rw [if_pos h0,if_pos h0,e']
  have:(0:Int)<=(k':Int):=by omega
  simp only [this,if_true,Int.toNat_natCast]
  rw [List.getElem?_append_left (by omega),if_neg hs]
 by_cases hs:x.1=s
 ·
  rw [if_neg h0,if_pos hs,if_pos hs]
  have:(0:Int)<=(acc.1.length:Int):=by omega
  simp only [this,if_true,Int.toNat_natCast]
  rw [h,List.getElem?_append_right (Nat.le_refl _)]
  simp
 rw [if_neg h0,if_neg hs,if_neg hs,if_neg h0]
 simp
def lookF (P:List (ByteArray×TargD)) (s:ByteArray) (a:Option TargD):Option TargD:=P.foldl (fun a x=>if x.1=s then some x.2 else a) a
theorem tabStep_len (acc:List ByteArray×List TargD) (x:ByteArray×TargD) (h:acc.1.length=acc.2.length):(tabStep acc x).1.length=(tabStep acc x).2.length:=tab_len [x] acc h
theorem look_fold (s:ByteArray):∀(P:List (ByteArray×TargD)) (acc:List ByteArray×List TargD),acc.1.length=acc.2.length->lookT (P.foldl tabStep acc) s=lookF P s (lookT acc s)
 | [],_,_=>rfl
 | x::P,acc,h=>by
   rw [List.foldl_cons,look_fold s P _ (tabStep_len acc x h),lookT_step acc x s h]
   rfl
theorem lookF_cases (s:ByteArray) (P:List (ByteArray×TargD)) (a:Option TargD):(lookF P s a=a/\∀x∈P,x.1≠s)\/(∃t,lookF P s a=some t/\(s,t)∈P):=by
 induction P using snoc_ind with
 | h0=>exact Or.inl ⟨rfl,fun x hx=>by cases hx⟩
 | h1 P x ih=>
   have e:lookF (P++ [x]) s a=if x.1=s then some x.2 else lookF P s a:=by unfold lookF;rw [List.foldl_append];rfl
   rw [e]
   by_cases hx:x.1=s
   ·
    rw [if_pos hx]
    exact Or.inr ⟨x.2,rfl,List.mem_append_right _ (by rw [<-hx];simp)⟩
   rw [if_neg hx]
   rcases ih with ⟨h1,h2⟩ | ⟨t,h1,h2⟩
   ·
    refine Or.inl ⟨h1,fun y hy=>?_⟩
    rcases List.mem_append.1 hy with h | h
    ·
     exact h2 y h
    rw [List.mem_singleton.1 h];exact hx
   exact Or.inr ⟨t,h1,List.mem_append_left _ h2⟩
def lookC (l:List ClassD) (L:List Nat) (s:ByteArray):Option TargD:=lookF (L.flatMap (ownT l)) s none
theorem lookC_snoc (l:List ClassD) (L:List Nat) (u:Nat) (s:ByteArray):lookC l (L++ [u]) s=lookF (ownT l u) s (lookC l L s):=by
 unfold lookC lookF
 rw [List.flatMap_append,List.foldl_append]
 simp
theorem ownT_mem {l:List ClassD} {u:Nat} {s:ByteArray} {t:TargD} (h:(s,t)∈ownT l u):∃(j:Nat) (hj:j<(clsAt l u).meths.length),t=⟨u,j⟩/\(clsAt l u).meths[j].name=s:=by
 obtain ⟨p,hp,e⟩:=List.mem_map.1 h
 obtain ⟨x,j⟩:=p
 obtain ⟨h1,h2,h3⟩:=List.mem_zipIdx hp
 simp only [Prod.mk.injEq]at e
 refine ⟨j,by omega,e.2.symm,?_⟩
 rw [<-e.1,h3]
 simp
theorem ownT_has {l:List ClassD} {u:Nat} {y:MethD} (h:y∈(clsAt l u).meths):∃x∈ownT l u,x.1=y.name:=by
 obtain ⟨j,hj,e⟩:=List.mem_iff_getElem.1 h
 refine ⟨(y.name,⟨u,j⟩),?_,rfl⟩
 have hl:j<(ownT l u).length:=by rw [ownT_len];exact hj
 have:=ownT_get l u j hl hj
 rw [e]at this
 rw [<-this]
 exact List.getElem_mem hl
def oneName (c:ClassD):Prop:=∀y∈c.meths,∀z∈c.meths,y.name=z.name->y=z
theorem oneName_of {c:ClassD} (h:differB (c.meths.map (·.name))=true):oneName c:=by
 intro y hy z hz e
 rw [differB_pw,List.pairwise_map,List.pairwise_iff_getElem]at h
 obtain ⟨i,hi,rfl⟩:=List.mem_iff_getElem.1 hy
 obtain ⟨j,hj,rfl⟩:=List.mem_iff_getElem.1 hz
 rcases Nat.lt_trichotomy i j with hij | hij | hij
 ·
  exact absurd e (h i j hi hj hij)
 ·
  subst hij;rfl
 exact absurd e.symm (h j i hj hi hij)
def relU (l:List ClassD) (u c:Nat):Prop:=∀x∈(clsAt l c).meths,∀y∈(clsAt l u).meths,fitM x y=true
def lookOK (l:List ClassD) (L:List Nat) (x:MethD):Prop:=∀t,lookC l L x.name=some t->fits x (methAt l t)=true
theorem look_iff (l:List ClassD) (x:MethD) (L:List Nat):L.Pairwise (relU l)->(∀u∈L,oneName (clsAt l u))->(lookOK l L x↔∀u∈L,∀y∈(clsAt l u).meths,fitM x y=true):=by
 induction L using snoc_ind with
 | h0=>
   intro _ _
   refine ⟨fun _ u hu=>(by cases hu),fun _ t ht=>?_⟩
   simp [lookC,lookF]at ht
 | h1 L u ih=>
   intro hp hd
   rw [List.pairwise_append]at hp
   have ih':=ih hp.1 (fun v hv=>hd v (List.mem_append_left _ hv))
   have hdu:=hd u (by simp)
   rcases lookF_cases x.name (ownT l u) (lookC l L x.name)with ⟨e,hno⟩ | ⟨t,e,hm⟩
   ·
    have hl:lookOK l (L++ [u]) x↔lookOK l L x:=by unfold lookOK;rw [lookC_snoc,e]
    rw [hl,ih']
    constructor
    ·
     intro h v hv y hy
     rcases List.mem_append.1 hv with h1 | h1
     ·
      exact h v h1 y hy
     rw [List.mem_singleton.1 h1]at hy
     obtain ⟨z,hz,ez⟩:=ownT_has hy
     exact (fitM_iff x y).2 fun hn=>absurd (ez.trans hn.symm) (hno z hz)
    exact fun h v hv y hy=>h v (List.mem_append_left _ hv) y hy
   obtain ⟨j,hj,rfl,hz⟩:=ownT_mem hm
   have hl:lookOK l (L++ [u]) x↔fits x (clsAt l u).meths[j]=true:=by
    unfold lookOK
    rw [lookC_snoc,e]
    constructor
    ·
     intro h
     have:=h _ rfl
     rwa [methAt_eq hj]at this
    intro h t ht
    cases ht
    rw [methAt_eq hj]
    exact h
   rw [hl]
   constructor
   ·
    intro hf v hv y hy
    rw [fitM_iff]
    intro hn
    rcases List.mem_append.1 hv with h1 | h1
    ·
     have:=hp.2.2 v h1 u (by simp) _ (List.getElem_mem hj) y hy
     exact fits_trans hf ((fitM_iff _ _).1 this (hz.trans hn))
    rw [List.mem_singleton.1 h1]at hy
    rw [hdu y hy _ (List.getElem_mem hj) (hn.symm.trans hz.symm)]
    exact hf
   intro h
   exact (fitM_iff _ _).1 (h u (by simp) _ (List.getElem_mem hj)) hz.symm
theorem line_step {l:List ClassD} (h5:askNone l=true) {i n:Nat} (hi:i<l.length) (hs:supAt l i=n):lineOf l i=lineOf l n++ [i]/\n<l.length:=by
 have hn:n<l.length:=by have:=(num_le l (clsAt l i).super).2;have e:supAt l i=num l (clsAt l i).super:=rfl;omega
 have hlen:(lineOf l i).length<=l.length:=by simpa using List.all_eq_true.1 h5 i (List.mem_range.2 hi)
 have e1:climb l (l.length+1) i=i::climb l l.length n:=by
  rw [climb_go _ (by omega)]
  simp [hs]
 have h2:(climb l l.length n).length<l.length:=by
  rw [lineOf,e1]at hlen
  simp at hlen
  omega
 refine ⟨?_,hn⟩
 rw [lineOf,e1,lineOf,climb_stop l _ _ h2,List.reverse_cons]
theorem line_top {l:List ClassD} {i:Nat} (hs:supAt l i<0):lineOf l i= [i]:=by
 rw [lineOf,climb_go _ (by omega)]
 simp only [Int.toNat_natCast]
 rw [climb_end (by omega)]
 rfl
theorem standB_look (l:List ClassD) (n:Nat) (m:MethD):standB l n m=true↔lookOK l (lineOf l n) m:=by
 have e:lookC l (lineOf l n) m.name=lookT (tableOf l n) m.name:=by
  rw [tableOf,look_fold m.name _ ([],[]) rfl]
  rfl
 unfold lookOK
 rw [e]
 unfold standB lookT
 show (if idxS (tableOf l n).1 m.name<0 then true else _)=true↔_
 by_cases h:idxS (tableOf l n).1 m.name<0
 ·
  rw [if_pos h,if_neg (by omega)]
  simp
 rw [if_neg h,if_pos (by omega)]
 show (match (tableOf l n).2[(idxS (tableOf l n).1 m.name).toNat]? with | none=>true | some t=>!m.static&& !(methAt l t).static&&sameK m.ret (methAt l t).ret&&eqL sameK m.args (methAt l t).args)=true↔_
 cases (tableOf l n).2[(idxS (tableOf l n).1 m.name).toNat]? with
 | none=>simp
 | some t=>
   constructor
   ·
    intro h t' ht
    cases ht
    exact h
   intro h
   exact h t rfl
theorem same_q9 {l:List ClassD} (hn:askNames l=true) (h4:askSupers l=true) (h5:askNone l=true) (h8:askParts l=true) (hne:num l ⟨#[]⟩<0):askSame l=allI l (q9 l):=by
 have hd:∀u,u<l.length->oneName (clsAt l u):=fun u hu=>by
  rw [askParts,Bool.and_eq_true]at h8
  rw [clsAt_eq hu]
  exact oneName_of (List.all_eq_true.1 h8.2 _ (List.getElem_mem hu))
 have hsup:∀i (hi:i<l.length),((clsAt l i).super=⟨#[]⟩/\supAt l i<0)\/((clsAt l i).super≠⟨#[]⟩/\∃n:Nat,supAt l i=n):=fun i hi=>by
  by_cases h:(clsAt l i).super=⟨#[]⟩
  ·
   exact Or.inl ⟨h,by rw [supAt,h];exact hne⟩
  refine Or.inr ⟨h,?_⟩
  have h1:=List.all_eq_true.1 h4 l[i] (List.getElem_mem hi)
  rw [clsAt_eq hi]at h
  have h2:hasC l l[i].super=true:=by simpa [h]using h1
  have h3:0<=supAt l i:=by rw [supAt,clsAt_eq hi];simpa [hasC]using h2
  exact ⟨(supAt l i).toNat,by omega⟩
 have hq:∀i (hi:i<l.length),q9 l i=true↔∀u∈(lineOf l i).dropLast,relU l u i:=fun i hi=>by
  rw [q9,up_line hn h5 hi]
  simp only [List.all_eq_true,relU]
 rw [Bool.eq_iff_iff,askSame,allI,List.all_eq_true,List.all_eq_true]
 constructor
 ·
  intro h
  have hT:∀(i n:Nat) (_:i<l.length),supAt l i=n->∀m∈(clsAt l i).meths,lookOK l (lineOf l n) m:=fun i n hi hs m hm=>by
   have h1:=h i (List.mem_range.2 hi)
   rcases hsup i hi with ⟨_,h2⟩ | ⟨h2,_⟩
   ·
    omega
   rw [hs]at h1
   simp only [h2,decide_false,Bool.false_or,Int.toNat_natCast]at h1
   exact (standB_look l n m).1 (List.all_eq_true.1 h1 m hm)
  have hpw:∀(d i:Nat),i<l.length->(lineOf l i).length<=d->(lineOf l i).Pairwise (relU l):=by
   intro d
   induction d with
   | zero=>intro i _ hl;exact absurd (List.eq_nil_of_length_eq_zero (by omega)) (line_ne l i)
   | succ d ih=>
     intro i hi hl
     rcases hsup i hi with ⟨_,h2⟩ | ⟨_,n,hs⟩
     ·
      rw [line_top h2];exact List.pairwise_singleton _ _
     obtain ⟨e,hnl⟩:=line_step h5 hi hs
     have hp:=ih n hnl (by rw [e]at hl;simp at hl;omega)
     rw [e,List.pairwise_append]
     refine ⟨hp,List.pairwise_singleton _ _,fun u hu c hc=>?_⟩
     rw [List.mem_singleton.1 hc]
     intro x hx
     exact (look_iff l x _ hp (fun v hv=>hd v (line_lt hnl v hv))).1 (hT i n hi hs x hx) u hu
  intro i hi
  have hi':=List.mem_range.1 hi
  rw [hq i hi']
  rcases hsup i hi' with ⟨_,h2⟩ | ⟨_,n,hs⟩
  ·
   rw [line_top h2];intro u hu;cases hu
  obtain ⟨e,hnl⟩:=line_step h5 hi' hs
  have hp:=hpw _ i hi' (Nat.le_refl _)
  rw [e,List.pairwise_append]at hp
  rw [e,List.dropLast_concat]
  exact fun u hu=>hp.2.2 u hu i (by simp)
 intro h
 have hQ:∀(i n:Nat) (_:i<l.length),supAt l i=n->∀u∈lineOf l n,relU l u i:=fun i n hi hs=>by
  have:=(hq i hi).1 (h i (List.mem_range.2 hi))
  rwa [(line_step h5 hi hs).1,List.dropLast_concat]at this
 have hpw:∀(d i:Nat),i<l.length->(lineOf l i).length<=d->(lineOf l i).Pairwise (relU l):=by
  intro d
  induction d with
  | zero=>intro i _ hl;exact absurd (List.eq_nil_of_length_eq_zero (by omega)) (line_ne l i)
  | succ d ih=>
    intro i hi hl
    rcases hsup i hi with ⟨_,h2⟩ | ⟨_,n,hs⟩
    ·
     rw [line_top h2];exact List.pairwise_singleton _ _
    obtain ⟨e,hnl⟩:=line_step h5 hi hs
    have hp:=ih n hnl (by rw [e]at hl;simp at hl;omega)
    rw [e,List.pairwise_append]
    refine ⟨hp,List.pairwise_singleton _ _,fun u hu c hc=>?_⟩
    rw [List.mem_singleton.1 hc]
    exact hQ i n hi hs u hu
 intro i hi
 have hi':=List.mem_range.1 hi
 rcases hsup i hi' with ⟨h1,_⟩ | ⟨h1,n,hs⟩
 ·
  simp [h1]
 obtain ⟨e,hnl⟩:=line_step h5 hi' hs
 rw [hs]
 simp only [h1,decide_false,Bool.false_or,Int.toNat_natCast]
 rw [List.all_eq_true]
 intro m hm
 rw [standB_look,look_iff l m _ (hpw _ n hnl (Nat.le_refl _)) (fun v hv=>hd v (line_lt hnl v hv))]
 exact fun u hu y hy=>hQ i n hi' hs u hu m hm y hy
end Go.Proofs.YtcddpmappmjilaaGreatDoor
