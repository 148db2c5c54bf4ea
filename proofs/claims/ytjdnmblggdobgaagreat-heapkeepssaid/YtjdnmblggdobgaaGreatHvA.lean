import Derived.Test.YtjdnmblggdobgaaGreatHqB
namespace Go.Proofs.YtjdnmblggdobgaaGreat
open Go.RowKit Go.Maps
theorem zs7 {ws:List Int} {m:Nat} {v i:Int} (h:i.toNat≠m):wd (ws.set m v) i=wd ws i:=by
 unfold wd
 rw [List.getElem?_set_ne (Ne.symm h)]
theorem zs8 {ws:List Int} {m:Nat} {v:Int} (h:m<ws.length):wd (ws.set m v) (m:Int)=v:=by
 unfold wd
 simp [h]
def SameHead (ws ws':List Int) (loc:Int):Prop:=wd ws' loc=wd ws loc/\wd ws' (loc+1)=wd ws (loc+1)/\wd ws' (loc+2)=wd ws (loc+2)
theorem SameHead.th {ws ws':List Int} {loc:Int} (h:SameHead ws ws' loc):thAt ws' loc=thAt ws loc:=by
 unfold thAt
 rw [h.1,h.2.1,h.2.2]
theorem SameHead.read {ws ws':List Int} {loc:Int} (h:SameHead ws ws' loc) (n:Nat) (fs:List (List FieldD)) (top:Int):readB n fs ws' loc top=readB n fs ws loc top:=by
 unfold readB
 rw [h.th,h.1,h.2.1]
theorem zs9 {n:Nat} {fs:List (List FieldD)} {ws:List Int} {loc top top':Int} (h:readB n fs ws loc top=true) (ht:top<=top'):readB n fs ws loc top'=true:=by
 unfold readB at h ⊢
 simp only [Bool.and_eq_true,decide_eq_true_eq]at h ⊢
 obtain ⟨⟨⟨h1,h2⟩,h3⟩,h4⟩:=h
 exact ⟨⟨⟨by omega,h2⟩,h3⟩,by omega⟩
theorem zta {n:Nat} {fs:List (List FieldD)} {ws ws':List Int} {top top':Int} (ht:top<=top'):∀(f:Nat) (lo:Int) (ts:List ThD),(top - lo).toNat<=f->lo<=top->walkT n fs ws lo top=some ts->(∀t∈ts,SameHead ws ws' t.loc)->walkT n fs ws' lo top'=(walkT n fs ws' top top').map (ts++ ·)
 | f,lo,ts,hf,hl,e,hs=>by
   by_cases hlt:lo<top
   ·by_cases hr:readB n fs ws lo top=true
    ·rw [zet hlt hr]at e
     cases hx:walkT n fs ws (thAt ws lo).fin top with
     | none=>rw [hx]at e;cases e
     | some ts'=>
       rw [hx]at e
       have e:=Option.some.inj e
       subst e
       have h0:SameHead ws ws' lo:=hs (thAt ws lo) (List.mem_cons_self ..)
       have h1:=zep hr
       have hr':readB n fs ws' lo top'=true:=by rw [h0.read];exact zs9 hr ht
       rw [zet (by omega) hr',h0.th]
       match f,hf with
       | 0,hf=>omega
       | f+1,hf=>
         rw [zta ht f (thAt ws lo).fin ts' (by omega) h1.2.1 hx (fun t htt=>hs t (List.mem_cons_of_mem _ htt))]
         cases walkT n fs ws' top top'<;>rfl
    rw [zeu hlt hr]at e
    cases e
   have el:lo=top:=by omega
   subst el
   rw [zes hlt]at e
   have e:=Option.some.inj e
   subst e
   cases walkT n fs ws' lo top'<;>rfl
theorem ztb {n:Nat} {fs:List (List FieldD)} {ws ws':List Int} {top lo:Int} {ts:List ThD} (hl:lo<=top) (e:walkT n fs ws lo top=some ts) (hs:∀t∈ts,SameHead ws ws' t.loc):walkT n fs ws' lo top=some ts:=by
 rw [zta (Int.le_refl top) _ lo ts (Nat.le_refl _) hl e hs,zes (by omega)]
 simp
theorem ztc {n:Nat} {fs:List (List FieldD)} {ws ws':List Int} {top lo:Int} {ts:List ThD} (hl:lo<=top) (e:walkT n fs ws lo top=some ts) (hs:∀t∈ts,SameHead ws ws' t.loc) (hr:readB n fs ws' top (thAt ws' top).fin=true):walkT n fs ws' lo (thAt ws' top).fin=some (ts++ [thAt ws' top]):=by
 have h1:=zep hr
 rw [zta (by omega) _ lo ts (Nat.le_refl _) hl e hs,zet (by omega) hr,zes (by omega)]
 rfl
theorem ztd {n:Nat} {fs:List (List FieldD)} {ws:List Int} {top:Int} :∀(f:Nat) (lo:Int) (ts:List ThD),(top - lo).toNat<=f->walkT n fs ws lo top=some ts->∀t∈ts,lo<=t.loc/\t.loc+3<=t.fin/\t.fin<=top/\∀u∈ts,u=t\/u.fin<=t.loc\/t.fin<=u.loc
 | f,lo,ts,hf,e,t,ht=>by
   by_cases hlt:lo<top
   ·by_cases hr:readB n fs ws lo top=true
    ·rw [zet hlt hr]at e
     cases hx:walkT n fs ws (thAt ws lo).fin top with
     | none=>rw [hx]at e;cases e
     | some ts'=>
       rw [hx]at e
       have e:=Option.some.inj e
       subst e
       have h1:=zep hr
       match f,hf with
       | 0,hf=>omega
       | f+1,hf=>
         have ih:=ztd f (thAt ws lo).fin ts' (by omega) hx
         have el:(thAt ws lo).loc=lo:=rfl
         rcases List.mem_cons.1 ht with rfl | ht
         ·refine ⟨Int.le_refl _,by rw [el];exact h1.1,h1.2.1,fun u hu=>?_⟩
          rcases List.mem_cons.1 hu with rfl | hu
          ·exact Or.inl rfl
          exact Or.inr (Or.inr (ih u hu).1)
         obtain ⟨a1,a2,a3,a4⟩:=ih t ht
         refine ⟨by omega,a2,a3,fun u hu=>?_⟩
         rcases List.mem_cons.1 hu with rfl | hu
         ·exact Or.inr (Or.inl a1)
         exact a4 u hu
    rw [zeu hlt hr]at e
    cases e
   rw [zes hlt]at e
   have e:=Option.some.inj e
   subst e
   cases ht
theorem zte {d:LinkD} {h:HeapD} {ts:List ThD} (hz:Sized d h) (e:bothT d h=some ts):∀t∈ts,1<=t.loc/\t.loc+3<=t.fin/\t.fin<=h.words.length/\∀u∈ts,u=t\/u.fin<=t.loc\/t.fin<=u.loc:=by
 obtain ⟨ys,os,e1,e2,rfl⟩:=zkn e
 have h1:=hz.young
 have h2:=hz.old
 have h3:=hz.len
 have h4:=hz.ytop
 have h5:=hz.otop
 have hy:=ztd _ _ ys (Nat.le_refl _) e1
 have ho:=ztd _ _ os (Nat.le_refl _) e2
 intro t ht
 rcases List.mem_append.1 ht with ht | ht
 ·obtain ⟨a1,a2,a3,a4⟩:=hy t ht
  refine ⟨a1,a2,by omega,fun u hu=>?_⟩
  rcases List.mem_append.1 hu with hu | hu
  ·exact a4 u hu
  have:=(ho u hu).1
  exact Or.inr (Or.inr (by omega))
 obtain ⟨a1,a2,a3,a4⟩:=ho t ht
 refine ⟨by omega,a2,by omega,fun u hu=>?_⟩
 rcases List.mem_append.1 hu with hu | hu
 ·have:=(hy u hu).2.2.1
  exact Or.inr (Or.inl (by omega))
 exact a4 u hu
theorem ztf {d:LinkD} {h:HeapD} {ts:List ThD} (hz:Sized d h) (e:bothT d h=some ts) {t:ThD} (ht:t∈ts) {m:Nat} (h1:t.loc+3<=(m:Int)) (h2:(m:Int)<t.fin) (v:Int):∀u∈ts,SameHead h.words (h.words.set m v) u.loc:=by
 intro u hu
 obtain ⟨a1,a2,a3,a4⟩:=zte hz e t ht
 obtain ⟨b1,b2,b3,b4⟩:=zte hz e u hu
 have hne:∀j:Int,0<=j->j<3->(u.loc+j).toNat≠m:=fun j j0 j3 hj=>by
  rcases a4 u hu with rfl | q | q<;>omega
 exact ⟨zs7 (by have:=hne 0 (by omega) (by omega);simpa using this),zs7 (hne 1 (by omega) (by omega)),zs7 (hne 2 (by omega) (by omega))⟩
theorem ztg {d:LinkD} {h:HeapD} {ts:List ThD} (hz:Sized d h) (e:bothT d h=some ts) {t:ThD} (ht:t∈ts) {m:Nat} (h1:t.loc+3<=(m:Int)) (h2:(m:Int)<t.fin) (v:Int) (l:List Int):bothT d ⟨h.words.set m v,h.young,h.old,h.ytop,h.otop,l,h.next⟩=some ts:=by
 have hs:=ztf hz e ht h1 h2 v
 obtain ⟨ys,os,e1,e2,rfl⟩:=zkn e
 have h3:=hz.ytop
 have h4:=hz.otop
 unfold bothT
 rw [ztb (by omega) e1 (fun u hu=>hs u (List.mem_append_left _ hu)),ztb (by omega) e2 (fun u hu=>hs u (List.mem_append_right _ hu))]
 rfl
end Go.Proofs.YtjdnmblggdobgaaGreat
