import Derived.Test.YtjdnmblggdobgaaGreatHvC
import Derived.Test.YtjdnmblggdobgaaGreatJHtPHtQ
import Derived.Test.YtjdnmblggdobgaaGreatHwA
namespace Go.Proofs.YtjdnmblggdobgaaGreat
open Go.RowKit Go.Maps
theorem zt8 {d:LinkD} {h:HeapD} {loc n v:Int} (h0:setErr d h loc n v=0):heapErr d h=0/\∃ts t,∃k:Nat,Right d h ts/\plAt ts loc=some t/\n=(k:Int)/\(k:Int)<t.len/\(refI d.fields t k=false\/leadB ts v=true):=by
 by_cases hE:heapErr d h=0
 ·obtain ⟨ts,r⟩:=zti hE
  refine ⟨hE,ts,?_⟩
  cases hp:plAt ts loc with
  | none=>rw [zmw hE r.both hp]at h0;cases h0
  | some t=>
    by_cases hr:0<=n/\n<t.len
    ·obtain ⟨k,hk⟩:∃k:Nat,n=(k:Int):=⟨n.toNat,by omega⟩
     subst hk
     refine ⟨t,k,r,rfl,rfl,hr.2,?_⟩
     cases h1:refI d.fields t k with
     | false=>exact Or.inl rfl
     | true=>
       cases h2:leadB ts v with
       | true=>exact Or.inr rfl
       | false=>rw [zmy hE r.both hp hr.1 hr.2 (by simpa using h1) h2]at h0;cases h0
    rw [zmx hE r.both hp hr]at h0;cases h0
 rw [<-zmv hE]at h0;exact absurd h0 hE
theorem zt9 {d:LinkD} {h:HeapD} {loc n v:Int} (h0:setErr d h loc n v=0):
 heapErr d (setH d h loc n v)=0/\getErr d (setH d h loc n v) loc n=0/\getVal d (setH d h loc n v) loc n=v/\(setH d h loc n v).words.length=h.words.length/\∀i:Nat,(i:Int)≠loc+3+n->(setH d h loc n v).words[i]? =h.words[i]? :=by
 obtain ⟨hE,ts,t,k,r,hp,rfl,hk,hv⟩:=zt8 h0
 obtain ⟨ht,hloc⟩:=zie ts hp
 subst hloc
 have r':=r.set hp hk hv
 have hsh:setH d h t.loc (k:Int) v=setD d h t k v:=by
  unfold setH
  rw [(zmh hE r.both hp).2]
  rfl
 rw [hsh]
 have hE':=r'.err
 obtain ⟨a1,a2,a3,-⟩:=zte r.sized r.both t ht
 have hft:t.fin=t.loc+3+t.len:=rfl
 obtain ⟨m,hm⟩:∃m:Nat,t.loc+3+(k:Int)=(m:Int):=⟨(t.loc+3+(k:Int)).toNat,by omega⟩
 have hws:(setD d h t k v).words=h.words.set m v:=by
  show h.words.set (t.loc+3+(k:Int)).toNat v=_
  rw [hm];rfl
 have e1:=zml hE' r'.both hp (by omega:(0:Int)<=(k:Int)) hk
 refine ⟨hE',e1,?_,by rw [hws,List.length_set],fun i hi=>?_⟩
 ·unfold getVal
  rw [if_pos e1,hm,hws,zs8 (by omega)]
 rw [hws,List.getElem?_set_ne (by omega)]
theorem zua {d:LinkD} {h:HeapD} {tag len:Int} {old:Bool} (h0:makeRes d h tag len old=0) (hn:h.next<=4611686018427387904):
 heapErr d (makeD h tag len old)=0/\thErr d (makeD h tag len old) (topOf h old)=0/\(∃k:Nat,len=(k:Int)/\rowT (makeD h tag len old) (atOr (tsOf d (makeD h tag len old)) (topOf h old))=List.replicate k 0)/\(makeD h tag len old).next=h.next+1:=by
 obtain ⟨hE,hF,hR⟩:=zt2 h0
 obtain ⟨ts,r⟩:=zti hE
 have htm:isTagB d.classes.length tag=true/\mayHaveB d.fields tag len=true:=by
  unfold formErr at hF
  cases h1:isTagB d.classes.length tag<;>cases h2:mayHaveB d.fields tag len<;>simp_all
 have hl:=zeo htm.2
 obtain ⟨f1,f2,f3,f4⟩:=ztr r hl hR
 obtain ⟨ts',r',hpm⟩:=r.make htm.1 htm.2 hR hn
 have hE':=r'.err
 have hnm:(⟨topOf h old,tag,len,h.next⟩:ThD)∈ts':=hpm.mem_iff.2 (List.mem_cons_self ..)
 have hs:(plAt ts' (topOf h old)).isSome=true:=by
  rw [znz,List.contains_iff_mem,List.mem_map]
  exact ⟨_,hnm,rfl⟩
 obtain ⟨t,ht⟩:=Option.isSome_iff_exists.1 hs
 obtain ⟨htm',hloc⟩:=zie ts' ht
 have et:t=⟨topOf h old,tag,len,h.next⟩:=by
  have b:=zte r'.sized r'.both _ hnm
  have a:=zte r'.sized r'.both t htm'
  have hl2:(⟨topOf h old,tag,len,h.next⟩:ThD).loc=topOf h old:=rfl
  rcases b.2.2.2 t htm' with q | q | q
  ·exact q
  ·rw [hl2]at q;omega
  rw [hloc]at q
  have:=b.2.1
  rw [hl2]at this
  omega
 obtain ⟨q1,q2⟩:=zmh hE' r'.both ht
 have hn1:1<=h.next:=by
  have:=r.tops
  unfold topsB at this
  simp only [Bool.and_eq_true,decide_eq_true_eq]at this
  exact this.2
 refine ⟨hE',q1,?_,ws0 _ (by omega) (by omega)⟩
 obtain ⟨k,hk⟩:∃k:Nat,len=(k:Int):=⟨len.toNat,by omega⟩
 obtain ⟨tp,htp⟩:∃tp:Nat,topOf h old=(tp:Int):=⟨(topOf h old).toNat,by omega⟩
 refine ⟨k,hk,?_⟩
 rw [q2,et]
 have hws:(makeD h tag len old).words=put3 h.words tp tag len h.next:=by
  show put3 h.words (topOf h old).toNat tag len h.next=_
  rw [htp];rfl
 have hlen:(put3 h.words tp tag len h.next).length=h.words.length:=zlt _ _ _ (by omega)
 unfold rowT
 have e1:(⟨topOf h old,tag,len,h.next⟩:ThD).fin.toNat=tp+3+k:=by
  show (topOf h old+3+len).toNat=_
  omega
 have e2:((⟨topOf h old,tag,len,h.next⟩:ThD).loc+3).toNat=tp+3:=by
  show (topOf h old+3).toNat=_
  omega
 rw [e1,e2,hws]
 apply List.ext_getElem?
 intro i
 rw [List.getElem?_drop,List.getElem?_take,List.getElem?_replicate]
 by_cases hi:i<k
 ·rw [if_pos (by omega),if_pos hi,List.getElem?_eq_getElem (by omega)]
  have h1:=(ztq (ws:=h.words) (m:=tp) (by omega) tag len h.next).2.2.2 ((tp+3+i:Nat):Int) (by omega) (by omega)
  have h2:=f2 (tp+3+i) (by omega) (by omega)
  rw [h2,zen (by omega)]at h1
  rw [h1]
 rw [if_neg (by omega),if_neg hi]
end Go.Proofs.YtjdnmblggdobgaaGreat
