import Derived.Test.YtjdnmblggdobgaaGreatJHsLHpT
import Derived.Test.YtjdnmblggdobgaaGreatJLLkLBas
namespace Go.Proofs.YtjdnmblggdobgaaGreat
open Go.RowKit Go.Maps
theorem zkd {g:Nat} {e:Int} {a:Bool} {l:List QD} (h:askRes (⟨g,e,a⟩::l)=0) (he:e≠0):a=true/\askRes l=0:=by
 rw [askRes]at h
 cases a with
 | true=>exact ⟨rfl,by simpa using h⟩
 | false=>exact absurd (by simpa using h) he
theorem zke {α:Type} {p:α->α->Bool} {l m:List α} (h:eqL p l m=true):l.length=m.length:=by
 by_cases e:l.length=m.length
 ·
  exact e
 rw [zd9 p l m e]at h
 cases h
theorem zkf {α:Type} {p:α->α->Bool} :∀ {l m:List α},eqL p l m=true->∀k (h1:k<l.length) (h2:k<m.length),p l[k] m[k]=true
 | [],_,_,k,h1,_=>absurd h1 (by simp)
 | x::l,[],h,k,_,h2=>absurd h2 (by simp)
 | x::l,y::m,h,0,_,_=>by rw [eqL,Bool.and_eq_true]at h;exact h.1
 | x::l,y::m,h,k+1,h1,h2=>by
   rw [eqL,Bool.and_eq_true]at h
   have:=zkf h.2 k (by simpa using h1) (by simpa using h2)
   simpa using this
theorem zkg {l:List ClassD} (h:tieRes l=0):checkL l=0/\askFew l=true:=by
 have hc:=zj9 h
 rw [tieRes,if_pos hc]at h
 obtain ⟨-,h⟩:=zkd h (by decide)
 obtain ⟨-,h⟩:=zkd h (by decide)
 obtain ⟨-,h⟩:=zkd h (by decide)
 obtain ⟨-,h⟩:=zkd h (by decide)
 obtain ⟨-,h⟩:=zkd h (by decide)
 obtain ⟨-,h⟩:=zkd h (by decide)
 obtain ⟨-,h⟩:=zkd h (by decide)
 obtain ⟨-,h⟩:=zkd h (by decide)
 obtain ⟨-,h⟩:=zkd h (by decide)
 obtain ⟨h,-⟩:=zkd h (by decide)
 exact ⟨hc,h⟩
structure Few (d:LinkD):Prop where
 fl:d.fields.length=d.classes.length
 fs:∀f∈d.fields,f.length<=12
 cn:d.classes.length<=10
theorem zkh {d:LinkD} (h:okLk d=true):Few d:=by
 rw [okLk,Bool.and_eq_true,decide_eq_true_iff]at h
 obtain ⟨h1,h2⟩:=h
 obtain ⟨hc,hf⟩:=zkg h1
 unfold makesB at h2
 simp only [Bool.and_eq_true]at h2
 have h3:=h2.1.1.2
 have hl:=zke h3
 rw [List.length_map,List.length_range]at hl
 refine ⟨hl.symm,fun f hfm=>?_,(zgm hc).1⟩
 obtain ⟨k,hk,rfl⟩:=List.mem_iff_getElem.1 hfm
 have h4:=zke (zkf h3 k (by simp;omega) hk)
 rw [List.getElem_map,List.getElem_range]at h4
 unfold askFew at hf
 rw [Bool.and_eq_true,List.all_eq_true]at hf
 have:=of_decide_eq_true (hf.1 k (List.mem_range.2 (by omega)))
 omega
def riseB (l:List Int):Bool:=(List.range l.length).all fun j=>decide (0<j->wd l ((j:Int) - 1)<wd l j)
theorem zki (l:List Int):riseB l=true↔riseTo l l.length:=by
 unfold riseB riseTo
 rw [List.all_eq_true]
 constructor
 ·
  intro h j h0 hj
  exact of_decide_eq_true (h j (List.mem_range.2 hj)) h0
 intro h j hj
 exact decide_eq_true fun h0=>h j h0 (List.mem_range.1 hj)
def thingsErr (d:LinkD) (h:HeapD) (ts:List ThD):Int:=
 if ts.any (badHash h) then 3 else if !decide ((ts.map ThD.hash).Nodup) then 6 else if ts.any (fun x=>hasRefB d.fields h.words x fun n=>!leadB ts n) then 5
 else if (restL h).any (· != 0) then 1 else if !riseB h.noted then 4 else if h.noted.any (badNote d h ts) then 4 else if ts.any (unnoted d h) then 4 else 0
def heapRes (d:LinkD) (h:HeapD):Int:=
 if partsB h then (if wordsB h then (if topsB h then (match bothT d h with | none=>1 | some ts=>thingsErr d h ts) else 3) else 1) else 3
def heapErr (d:LinkD) (h:HeapD):Int:=if okLk d then heapRes d h else 4
theorem zkj {d:LinkD} {h:HeapD} (hd:Few d) (h1:partsB h=true) (h2:wordsB h=true) (h3:topsB h=true):Sized d h:=by
 unfold partsB partB at h1
 unfold wordsB at h2
 unfold topsB at h3
 simp only [Bool.and_eq_true,decide_eq_true_eq]at h1 h2 h3
 exact ⟨⟨by omega,by omega⟩,⟨by omega,by omega⟩,h2,⟨by omega,by omega⟩,⟨by omega,by omega⟩,hd.fl,fun f hf=>Nat.le_trans (hd.fs f hf) (by omega),Nat.le_trans hd.cn (by omega)⟩
def ReadAt (d:LinkD) (h:HeapD) (lo top:Int) (t:ThD):Prop:=lo<=t.loc/\t.fin<=top/\t=thAt h.words t.loc/\isTagB d.classes.length t.tag=true/\mayHaveB d.fields t.tag t.len=true
theorem zkl (d:LinkD) (h:HeapD) (top:Int):∀(f:Nat) (loc:Int) (ts:List ThD),walkF d.classes.length d.fields h.words top f loc=some ts->∀t∈ts,ReadAt d h loc top t
 | 0,loc,ts,e,t,ht=>by
   rw [walkF]at e
   cases e
   cases ht
 | f+1,loc,ts,e,t,ht=>by
   rw [walkF]at e
   split at e
   ·
    split at e
    ·
     rename_i hr
     have h1:=zep hr
     cases hx:walkF d.classes.length d.fields h.words top f (thAt h.words loc).fin with
     | none=>rw [hx]at e;cases e
     | some ts'=>
       rw [hx]at e
       cases e
       rcases List.mem_cons.1 ht with rfl | ht
       ·
        exact ⟨Int.le_refl _,h1.2.1,rfl,h1.2.2.1,h1.2.2.2⟩
       have:=zkl d h top f _ ts' hx t ht
       exact ⟨by have:=this.1;omega,this.2⟩
    cases e
   cases e
   cases ht
theorem zkm {d:LinkD} {h:HeapD} {loc top:Int} {ts:List ThD} (e:walkT d.classes.length d.fields h.words loc top=some ts):∀t∈ts,ReadAt d h loc top t:=zkl d h top _ loc ts e
theorem zkn {d:LinkD} {h:HeapD} {ts:List ThD} (e:bothT d h=some ts):∃ys os,walkT d.classes.length d.fields h.words 1 h.ytop=some ys/\walkT d.classes.length d.fields h.words (h.young+1) h.otop=some os/\ts=ys++os:=by
 unfold bothT at e
 cases h1:walkT d.classes.length d.fields h.words 1 h.ytop with
 | none=>rw [h1]at e;cases e
 | some ys=>
   rw [h1]at e
   cases h2:walkT d.classes.length d.fields h.words (h.young+1) h.otop with
   | none=>rw [h2]at e;cases e
   | some os=>
     rw [h2]at e
     exact ⟨ys,os,rfl,rfl,(Option.some.inj e).symm⟩
theorem zko {d:LinkD} {h:HeapD} {lo top:Int} {t:ThD} (hd:Few d) (hr:ReadAt d h lo top t) (hlo:0<=lo) (htp:top<=5000):FitT d t:=by
 obtain ⟨h1,h2,h3,h4,h5⟩:=hr
 have h0:=zeo h5
 have hf:t.fin=t.loc+3+t.len:=rfl
 unfold isTagB at h4
 simp only [Bool.and_eq_true,decide_eq_true_eq]at h4
 refine ⟨fun h3=>?_,h0,by omega,by omega⟩
 unfold mayHaveB at h5
 rw [if_pos h3]at h5
 exact ⟨by rw [hd.fl];omega,of_decide_eq_true h5⟩
theorem zkp {d:LinkD} {h:HeapD} {ts:List ThD} (hd:Few d) (hz:Sized d h) (hw:∀x∈h.words,(Lit.int .i64 x).wf=true) (e:bothT d h=some ts):Lain d h ts:=by
 obtain ⟨ys,os,e1,e2,rfl⟩:=zkn e
 have z1:=hz.young
 have z2:=hz.old
 have z3:=hz.len
 have z4:=hz.ytop
 have z5:=hz.otop
 have l1:=zhn (by omega) e1
 have l2:=zhn (by omega) e2
 refine ⟨by rw [List.length_append];omega,by omega,hw,fun t ht=>?_⟩
 rcases List.mem_append.1 ht with ht | ht
 ·
  have hr:=zkm e1 t ht
  exact ⟨zko hd hr (by omega) (by omega),by have:=hr.1;omega,by have:=hr.2.1;omega⟩
 have hr:=zkm e2 t ht
 exact ⟨zko hd hr (by omega) (by omega),by have:=hr.1;omega,by have:=hr.2.1;omega⟩
theorem zkq {l:List Int} (h:riseTo l l.length) {a b:Int} (ha:∀x∈l,a<=x/\x<=b):(l.length:Int)<=b - a+1\/l.length=0:=by
 by_cases h0:l.length=0
 ·
  exact Or.inr h0
 refine Or.inl ?_
 have key:∀k:Nat,k<l.length->wd l 0+k<=wd l k:=by
  intro k
  induction k with
  | zero=>intro _;simp
  | succ k ih=>
    intro hk
    have h1:=ih (by omega)
    have h2:=h (k+1) (by omega) hk
    rw [show ((k+1:Nat):Int) - 1=(k:Int) by omega]at h2
    omega
 have h1:=key (l.length - 1) (by omega)
 have h2:wd l 0=l[0]'(by omega):=zen (i:=0) (by omega)
 have h3:=zen (ws:=l) (i:=l.length - 1) (by omega)
 rw [h2,h3]at h1
 have h4:=(ha _ (List.getElem_mem (l:=l) (n:=0) (by omega))).1
 have h5:=(ha _ (List.getElem_mem (l:=l) (n:=l.length - 1) (by omega))).2
 omega
theorem zkr {d:LinkD} {h:HeapD} {ts:List ThD} (hl:Lain d h ts) (h1:riseB h.noted=true) (h2:h.noted.any (badNote d h ts)=false):h.noted.length<=1000000:=by
 have hr:=(zki _).1 h1
 have:∀x∈h.noted,(0:Int)<=x/\x<=100000:=by
  intro x hx
  have hb:badNote d h ts x=false:=by
   cases hb:badNote d h ts x with
   | false=>rfl
   | true=>rw [List.any_eq_true.2 ⟨x,hx,hb⟩]at h2;cases h2
  unfold badNote at hb
  simp only [Bool.or_eq_false_iff]at hb
  have hs:(plAt ts x).isSome=true:=by simpa using hb.1.1
  obtain ⟨t,ht⟩:=Option.isSome_iff_exists.1 hs
  obtain ⟨hm,rfl⟩:=zie ts ht
  have:=(hl.fit t hm).1.loc
  have h3:=(hl.fit t hm).2.2
  have h4:=(hl.fit t hm).1.lo
  have h5:=hl.words
  have hf:t.fin=t.loc+3+t.len:=rfl
  omega
 rcases zkq hr this with h3 | h3<;>omega
end Go.Proofs.YtjdnmblggdobgaaGreat
