import Derived.Test.YtjdnmblggdobgaaGreatHqA
import Derived.Test.YtjdnmblggdobgaaGreatJHrAHrC
namespace Go.Proofs.YtjdnmblggdobgaaGreat
open Go.RowKit Go.Maps
def bad1 (h:HeapD) (t:ThD):Bool:=!btw t.hash 1 (h.next - 1)
def bad3a (h:HeapD) (ts:List ThD) (a:Int):Bool:=wd h.words a != 0&& !(ts.map ThD.loc).contains (wd h.words a)
def bad3 (d:LinkD) (h:HeapD) (ts:List ThD) (t:ThD):Bool:=(refsOf d.fields t).any (bad3a h ts)
def bad4 (h:HeapD) (i:Nat):Bool:=wd h.words i != 0&&(i==0||btw i h.ytop h.young||decide (h.otop<=i))
def bad5 (d:LinkD) (h:HeapD) (os:List ThD) (i:Nat):Bool:=decide (0<i/\wd h.noted i<=wd h.noted ((i:Int) - 1))|| !(os.map ThD.loc).contains (wd h.noted i)||(refsOf d.fields (thAt h.words (wd h.noted i))).isEmpty
def bad6a (h:HeapD) (t:ThD) (a:Int):Bool:=btw (wd h.words a) 1 h.young&& !h.noted.contains t.loc
def bad6 (d:LinkD) (h:HeapD) (t:ThD):Bool:=(refsOf d.fields t).any (bad6a h t)
def refThings (d:LinkD) (h:HeapD) (ts os:List ThD):Int:=
 if ts.any (bad1 h) then 3 else if !decide ((ts.map ThD.hash).Nodup) then 6 else if ts.any (bad3 d h ts) then 5 else if (List.range h.words.length).any (bad4 h) then 1
 else if (List.range h.noted.length).any (bad5 d h os) then 4 else if os.any (bad6 d h) then 4 else 0
def refRes (d:LinkD) (h:HeapD):Int:=
 if partsB h then (if wordsB h then (if topsB h then (match walkT d.classes.length d.fields h.words 1 h.ytop,walkT d.classes.length d.fields h.words (h.young+1) h.otop with | some ys,some os=>refThings d h (ys++os) os | _,_=>1) else 3) else 1) else 3
theorem zk1 {α:Type} {l:List α} {f:α->Bool} {k:Nat} (hk:k<l.length) (h:(l.take k).any f=false) (hx:f l[k]=false):(l.take (k+1)).any f=false:=by
 rw [List.take_succ_eq_append_getElem hk,List.any_append,h]
 simp [hx]
theorem zk2 {α:Type} {l:List α} {f:α->Bool} {k:Nat} (hk:k<l.length) (hx:f l[k]=true):l.any f=true:=List.any_eq_true.2 ⟨_,List.getElem_mem hk,hx⟩
theorem zk3 {α:Type} {l:List α} {f:α->Bool} {k:Nat} (hk:¬k<l.length) (h:(l.take k).any f=false):l.any f=false:=by
 rwa [List.take_of_length_le (by omega)]at h
theorem zk4 {f:Nat->Bool} {n k:Nat} (hk:k<n) (hx:f k=true):(List.range n).any f=true:=List.any_eq_true.2 ⟨k,List.mem_range.2 hk,hx⟩
theorem zk5 {f:Nat->Bool} {n:Nat} (h:∀j,j<n->f j=false):(List.range n).any f=false:=by
 rw [List.any_eq_false]
 intro j hj
 rw [h j (List.mem_range.1 hj)]
 decide
theorem zk6 {l:List Int} {k:Nat} (hk:k<l.length) (h:(l.take k).Nodup) (hx:l[k]∉l.take k):(l.take (k+1)).Nodup:=by
 rw [List.take_succ_eq_append_getElem hk]
 exact (zii _ _).2 ⟨h,hx⟩
theorem zk7 {l:List Int} {j k:Nat} (hk:k<l.length) (hj:j<k) (e:l[j]=l[k]):¬l.Nodup:=fun hn=>by
 exact (List.pairwise_iff_getElem.1 hn) j k (by omega) hk hj e
theorem zk8 (ts:List ThD) {n:Int} (h:plAt ts n=none):∀t∈ts,t.loc≠n:=by
 have key:∀(l:List ThD) (acc:Option ThD),l.foldl (fun acc t=>if t.loc=n then some t else acc) acc=none->acc=none/\∀t∈l,t.loc≠n:=by
  intro l
  induction l with
  | nil=>exact fun acc h=>⟨h,fun t ht=>by cases ht⟩
  | cons x l ih=>
    intro acc h
    rw [List.foldl_cons]at h
    obtain ⟨h1,h2⟩:=ih _ h
    by_cases e:x.loc=n
    ·
     rw [if_pos e]at h1
     cases h1
    rw [if_neg e]at h1
    refine ⟨h1,fun t ht=>?_⟩
    rcases List.mem_cons.1 ht with rfl | ht
    ·
     exact e
    exact h2 t ht
 exact (key ts none h).2
theorem zk9 (ts:List ThD) (n:Int):(plAt ts n).isSome=(ts.map ThD.loc).contains n:=by
 rw [Bool.eq_iff_iff,List.contains_iff_mem,List.mem_map]
 constructor
 ·
  intro h
  obtain ⟨t,ht⟩:=Option.isSome_iff_exists.1 h
  exact ⟨t,zie ts ht⟩
 rintro ⟨t,ht,rfl⟩
 cases hp:plAt ts t.loc with
 | none=>exact absurd rfl (zk8 ts hp t ht)
 | some x=>rfl
theorem zla (h:HeapD):bad1 h=badHash h:=by
 funext t
 unfold bad1 badHash btw
 rw [Bool.eq_iff_iff]
 simp
 omega
theorem zlb (d:LinkD) (h:HeapD) (ts:List ThD):bad3 d h ts=fun x=>hasRefB d.fields h.words x fun n=>!leadB ts n:=by
 funext t
 unfold bad3 hasRefB bad3a leadB
 congr 1
 funext a
 show _= !((plAt ts (wd h.words a)).isSome||wd h.words a==0)
 rw [zk9]
 cases (ts.map ThD.loc).contains (wd h.words a)<;>simp [bne]
theorem zlc {d:LinkD} {h:HeapD} (hz:Sized d h):(List.range h.words.length).any (bad4 h)=(restL h).any (· != 0):=by
 have z1:=hz.young
 have z2:=hz.old
 have z3:=hz.len
 have z4:=hz.ytop
 have z5:=hz.otop
 rw [Bool.eq_iff_iff,List.any_eq_true,List.any_eq_true]
 constructor
 ·
  rintro ⟨i,hi,hb⟩
  have hi:=List.mem_range.1 hi
  unfold bad4 btw at hb
  rw [zen hi]at hb
  simp only [Bool.and_eq_true,Bool.or_eq_true,decide_eq_true_eq,beq_iff_eq]at hb
  refine ⟨h.words[i],?_,hb.1⟩
  unfold restL
  rw [List.mem_append,List.mem_append]
  rcases hb.2 with (h0 | h1) | h2
  ·
   subst h0
   exact Or.inl (List.mem_iff_getElem.2 ⟨0,by simp;omega,by simp⟩)
  ·
   refine Or.inr (Or.inl (List.mem_iff_getElem.2 ⟨i - h.ytop.toNat,by simp;omega,?_⟩))
   simp only [List.getElem_drop,List.getElem_take]
   congr 1
   omega
  refine Or.inr (Or.inr (List.mem_iff_getElem.2 ⟨i - h.otop.toNat,by simp;omega,?_⟩))
  simp only [List.getElem_drop]
  congr 1
  omega
 rintro ⟨x,hx,hb⟩
 unfold restL at hx
 rw [List.mem_append,List.mem_append]at hx
 have key:∀i (hi:i<h.words.length),h.words[i]=x->(i=0\/(h.ytop<=i/\(i:Int)<=h.young)\/h.otop<=i)->∃j,j∈List.range h.words.length/\bad4 h j=true:=by
  intro i hi e hc
  refine ⟨i,List.mem_range.2 hi,?_⟩
  unfold bad4 btw
  rw [zen hi,e,hb]
  simp only [Bool.true_and,Bool.or_eq_true,Bool.and_eq_true,decide_eq_true_eq,beq_iff_eq]
  rcases hc with h0 | h0 | h0
  ·
   exact Or.inl (Or.inl h0)
  ·
   exact Or.inl (Or.inr h0)
  exact Or.inr h0
 rcases hx with hx | hx | hx
 ·
  obtain ⟨i,hi,e⟩:=List.mem_iff_getElem.1 hx
  simp at hi e
  exact key i (by omega) e (Or.inl (by omega))
 ·
  obtain ⟨i,hi,e⟩:=List.mem_iff_getElem.1 hx
  simp only [List.getElem_drop,List.getElem_take]at e
  simp at hi
  exact key (h.ytop.toNat+i) (by omega) e (Or.inr (Or.inl (by omega)))
 obtain ⟨i,hi,e⟩:=List.mem_iff_getElem.1 hx
 simp only [List.getElem_drop]at e
 simp at hi
 exact key (h.otop.toNat+i) (by omega) e (Or.inr (Or.inr (by omega)))
theorem zld {d:LinkD} {h:HeapD} {ys os:List ThD} (hz:Sized d h) (e1:walkT d.classes.length d.fields h.words 1 h.ytop=some ys) (e2:walkT d.classes.length d.fields h.words (h.young+1) h.otop=some os):(∀t∈ys,t.loc<=h.young)/\∀t∈os,h.young<t.loc:=by
 refine ⟨fun t ht=>?_,fun t ht=>?_⟩
 ·
  have hr:=zkm e1 t ht
  have h0:=zeo hr.2.2.2.2
  have hf:t.fin=t.loc+3+t.len:=rfl
  have:=hr.2.1
  have:=hz.ytop
  omega
 have:=(zkm e2 t ht).1
 omega
theorem zle {d:LinkD} {h:HeapD} {ys os:List ThD} (e1:walkT d.classes.length d.fields h.words 1 h.ytop=some ys) (e2:walkT d.classes.length d.fields h.words (h.young+1) h.otop=some os):∀t∈ys++os,t=thAt h.words t.loc:=by
 intro t ht
 rcases List.mem_append.1 ht with ht | ht
 ·
  exact (zkm e1 t ht).2.2.1
 exact (zkm e2 t ht).2.2.1
theorem zlf {d:LinkD} {h:HeapD} {ys os:List ThD} (hz:Sized d h) (e1:walkT d.classes.length d.fields h.words 1 h.ytop=some ys) (e2:walkT d.classes.length d.fields h.words (h.young+1) h.otop=some os) (n:Int):
 badNote d h (ys++os) n=(!(os.map ThD.loc).contains n||(refsOf d.fields (thAt h.words n)).isEmpty):=by
 have hyo:=zld hz e1 e2
 have hth:=zle e1 e2
 unfold badNote
 cases hc:(os.map ThD.loc).contains n with
 | true=>
   obtain ⟨t,ht,rfl⟩:=List.mem_map.1 (List.contains_iff_mem.1 hc)
   have hs:(plAt (ys++os) t.loc).isSome=true:=by
    rw [zk9,List.contains_iff_mem,List.mem_map]
    exact ⟨t,List.mem_append.2 (Or.inr ht),rfl⟩
   obtain ⟨x,hx⟩:=Option.isSome_iff_exists.1 hs
   obtain ⟨hm,hxl⟩:=zie _ hx
   have e:atOr (ys++os) t.loc=thAt h.words t.loc:=by
    unfold atOr
    rw [hx]
    show x=_
    rw [<-hxl]
    exact hth x hm
   rw [hs,e,decide_eq_true (hyo.2 t ht)]
   cases refsOf d.fields (thAt h.words t.loc)<;>simp
   omega
 | false=>
   cases hs:(plAt (ys++os) n).isSome with
   | false=>simp
   | true=>
     have:¬h.young<n:=fun hy=>by
      rw [zk9,List.contains_iff_mem,List.mem_map]at hs
      obtain ⟨t,ht,rfl⟩:=hs
      rcases List.mem_append.1 ht with ht | ht
      ·
       have:=hyo.1 t ht
       omega
      have:(os.map ThD.loc).contains t.loc=true:=List.contains_iff_mem.2 (List.mem_map.2 ⟨t,ht,rfl⟩)
      rw [hc]at this
      cases this
     simp [this]
theorem zlg {d:LinkD} {h:HeapD} {ys os:List ThD} (hz:Sized d h) (e1:walkT d.classes.length d.fields h.words 1 h.ytop=some ys) (e2:walkT d.classes.length d.fields h.words (h.young+1) h.otop=some os):
 (List.range h.noted.length).any (bad5 d h os)=(!riseB h.noted||h.noted.any (badNote d h (ys++os))):=by
 rw [Bool.eq_iff_iff,List.any_eq_true,Bool.or_eq_true,List.any_eq_true]
 constructor
 ·
  rintro ⟨i,hi,hb⟩
  have hi:=List.mem_range.1 hi
  unfold bad5 at hb
  rw [Bool.or_assoc,<-zlf hz e1 e2,Bool.or_eq_true,decide_eq_true_eq]at hb
  rcases hb with hb | hb
  ·
   left
   cases hr:riseB h.noted with
   | false=>rfl
   | true=>
     have:=(zki _).1 hr i hb.1 hi
     omega
  right
  exact ⟨wd h.noted i,by rw [zen hi];exact List.getElem_mem hi,hb⟩
 rintro (hr | ⟨x,hx,hb⟩)
 ·
  by_cases hex:∃i,i<h.noted.length/\0<i/\wd h.noted i<=wd h.noted ((i:Int) - 1)
  ·
   obtain ⟨i,hi,h0,hle⟩:=hex
   refine ⟨i,List.mem_range.2 hi,?_⟩
   unfold bad5
   rw [decide_eq_true ⟨h0,hle⟩]
   rfl
  exfalso
  have:riseB h.noted=true:=(zki _).2 fun j h0 hj=>by
   by_cases hle:wd h.noted j<=wd h.noted ((j:Int) - 1)
   ·
    exact absurd ⟨j,hj,h0,hle⟩ hex
   omega
  rw [this]at hr
  cases hr
 obtain ⟨i,hi,rfl⟩:=List.mem_iff_getElem.1 hx
 refine ⟨i,List.mem_range.2 hi,?_⟩
 unfold bad5
 rw [Bool.or_assoc,<-zlf hz e1 e2,zen hi,hb,Bool.or_true]
theorem zlh {d:LinkD} {h:HeapD} {ys os:List ThD} (hz:Sized d h) (e1:walkT d.classes.length d.fields h.words 1 h.ytop=some ys) (e2:walkT d.classes.length d.fields h.words (h.young+1) h.otop=some os):
 os.any (bad6 d h)=(ys++os).any (unnoted d h):=by
 have hyo:=zld hz e1 e2
 have hy:ys.any (unnoted d h)=false:=by
  rw [List.any_eq_false]
  intro t ht
  unfold unnoted
  have:=hyo.1 t ht
  rw [decide_eq_false (by omega)]
  simp
 rw [List.any_append,hy,Bool.false_or]
 have key:∀t∈os,bad6 d h t=unnoted d h t:=by
  intro t ht
  unfold bad6 unnoted hasRefB bad6a
  rw [decide_eq_true (hyo.2 t ht),Bool.true_and]
  cases h.noted.contains t.loc with
  | true=>simp
  | false=>
    simp only [Bool.not_false,Bool.and_true,Bool.true_and]
    congr 1
 rw [Bool.eq_iff_iff,List.any_eq_true,List.any_eq_true]
 constructor
 ·
  rintro ⟨t,ht,hb⟩
  exact ⟨t,ht,by rw [<-key t ht];exact hb⟩
 rintro ⟨t,ht,hb⟩
 exact ⟨t,ht,by rw [key t ht];exact hb⟩
theorem zli {d:LinkD} {h:HeapD} (hd:Few d):refRes d h=heapRes d h:=by
 unfold refRes heapRes
 cases h1:partsB h with
 | false=>rfl
 | true=>
   cases h2:wordsB h with
   | false=>rfl
   | true=>
     cases h3:topsB h with
     | false=>rfl
     | true=>
       have hz:=zkj hd h1 h2 h3
       simp only [if_true]
       cases e1:walkT d.classes.length d.fields h.words 1 h.ytop with
       | none=>simp [bothT,e1]
       | some ys=>
         cases e2:walkT d.classes.length d.fields h.words (h.young+1) h.otop with
         | none=>simp [bothT,e1,e2]
         | some os=>
           have eb:bothT d h=some (ys++os):=by simp [bothT,e1,e2]
           rw [eb]
           show refThings d h (ys++os) os=thingsErr d h (ys++os)
           unfold refThings thingsErr
           rw [zla,zlb,zlc hz,zlg hz e1 e2,zlh hz e1 e2]
           cases riseB h.noted<;>cases h.noted.any (badNote d h (ys++os))<;>rfl
theorem zlj {ws:List Int} {m:Nat} {v i:Int} (h:i.toNat≠m):wd (ws.set m v) i=wd ws i:=by
 unfold wd
 rw [List.getElem?_set_ne (Ne.symm h)]
theorem zlk {ws:List Int} {m:Nat} {v:Int} (h:m<ws.length):wd (ws.set m v) (m:Int)=v:=by
 unfold wd
 simp [h]
theorem zlp {n:Nat} {fs:List (List FieldD)} {ws:List Int} {top:Int} :∀(f:Nat) (lo:Int) (ts:List ThD),(top - lo).toNat<=f->walkT n fs ws lo top=some ts->∀t∈ts,lo<=t.loc/\t.loc+3<=t.fin/\t.fin<=top/\∀u∈ts,u=t\/u.fin<=t.loc\/t.fin<=u.loc
 | f,lo,ts,hf,e,t,ht=>by
   by_cases hlt:lo<top
   ·
    by_cases hr:readB n fs ws lo top=true
    ·
     rw [zet hlt hr]at e
     cases hx:walkT n fs ws (thAt ws lo).fin top with
     | none=>rw [hx]at e;cases e
     | some ts'=>
       rw [hx]at e
       have e:=Option.some.inj e
       subst e
       have h1:=zep hr
       match f,hf with
       | 0,hf=>omega
       | f+1,hf=>
         have ih:=zlp f (thAt ws lo).fin ts' (by omega) hx
         have el:(thAt ws lo).loc=lo:=rfl
         rcases List.mem_cons.1 ht with rfl | ht
         ·
          refine ⟨Int.le_refl _,by rw [el];exact h1.1,h1.2.1,fun u hu=>?_⟩
          rcases List.mem_cons.1 hu with rfl | hu
          ·
           exact Or.inl rfl
          exact Or.inr (Or.inr (ih u hu).1)
         obtain ⟨a1,a2,a3,a4⟩:=ih t ht
         refine ⟨by omega,a2,a3,fun u hu=>?_⟩
         rcases List.mem_cons.1 hu with rfl | hu
         ·
          exact Or.inr (Or.inl a1)
         exact a4 u hu
    rw [zeu hlt hr]at e
    cases e
   rw [zes hlt]at e
   have e:=Option.some.inj e
   subst e
   cases ht
theorem zlq {d:LinkD} {h:HeapD} {ts:List ThD} (hz:Sized d h) (e:bothT d h=some ts):∀t∈ts,1<=t.loc/\t.loc+3<=t.fin/\t.fin<=h.words.length/\∀u∈ts,u=t\/u.fin<=t.loc\/t.fin<=u.loc:=by
 obtain ⟨ys,os,e1,e2,rfl⟩:=zkn e
 have h1:=hz.young
 have h2:=hz.old
 have h3:=hz.len
 have h4:=hz.ytop
 have h5:=hz.otop
 have hy:=zlp _ _ ys (Nat.le_refl _) e1
 have ho:=zlp _ _ os (Nat.le_refl _) e2
 intro t ht
 rcases List.mem_append.1 ht with ht | ht
 ·
  obtain ⟨a1,a2,a3,a4⟩:=hy t ht
  refine ⟨a1,a2,by omega,fun u hu=>?_⟩
  rcases List.mem_append.1 hu with hu | hu
  ·
   exact a4 u hu
  have:=(ho u hu).1
  exact Or.inr (Or.inr (by omega))
 obtain ⟨a1,a2,a3,a4⟩:=ho t ht
 refine ⟨by omega,a2,by omega,fun u hu=>?_⟩
 rcases List.mem_append.1 hu with hu | hu
 ·
  have:=(hy u hu).2.2.1
  exact Or.inr (Or.inl (by omega))
 exact a4 u hu
end Go.Proofs.YtjdnmblggdobgaaGreat
