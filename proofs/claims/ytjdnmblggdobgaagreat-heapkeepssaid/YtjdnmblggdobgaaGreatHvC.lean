import Derived.Test.YtjdnmblggdobgaaGreatHvB
namespace Go.Proofs.YtjdnmblggdobgaaGreat
open Go.RowKit Go.Maps
theorem ztq {ws:List Int} {m:Nat} (hm:m+2<ws.length) (x y z:Int):wd (put3 ws m x y z) (m:Int)=x/\wd (put3 ws m x y z) ((m:Int)+1)=y/\wd (put3 ws m x y z) ((m:Int)+2)=z/\∀i:Int,(i<m\/(m:Int)+3<=i)->0<=i->wd (put3 ws m x y z) i=wd ws i:=by
 rw [<-zry x y z m ws hm]
 have e1:(m:Int)+1=((m+1:Nat):Int):=by omega
 have e2:(m:Int)+2=((m+2:Nat):Int):=by omega
 refine ⟨?_,?_,?_,fun i hi h0=>?_⟩
 ·rw [zs7 (by omega),zs7 (by omega),zs8 (by omega)]
 ·rw [zs7 (by omega),e1,zs8 (by simp;omega)]
 ·rw [e2,zs8 (by simp;omega)]
 rw [zs7 (by omega),zs7 (by omega),zs7 (by omega)]
theorem ztr {d:LinkD} {h:HeapD} {ts:List ThD} (r:Right d h ts) {old:Bool} {len:Int} (_:0<=len) (hr:roomB h old len=true):
 (∀x∈ts,x.fin<=topOf h old\/topOf h old+3+len<=x.loc)/\(∀i:Nat,topOf h old<=i->(i:Int)<topOf h old+3+len->wd h.words i=0)/\1<=topOf h old/\topOf h old+3+len<=h.words.length:=by
 have hz:=r.sized
 have h1:=hz.young
 have h2:=hz.old
 have h3:=hz.len
 have h4:=hz.ytop
 have h5:=hz.otop
 have hrm:=of_decide_eq_true hr
 unfold endOf at hrm
 have hrest:=r.rest
 rw [<-zn2 hz,List.any_eq_false]at hrest
 obtain ⟨ys,os,e1,e2,rfl⟩:=zkn r.both
 have hy:=ztd _ _ ys (Nat.le_refl _) e1
 have ho:=ztd _ _ os (Nat.le_refl _) e2
 have htop:topOf h old=if old then h.otop else h.ytop:=rfl
 have hzero:∀i:Nat,i<h.words.length->(i=0\/(h.ytop<=i/\(i:Int)<=h.young)\/h.otop<=i)->wd h.words i=0:=fun i hi hp=>by
  have:=hrest i (List.mem_range.2 hi)
  unfold bad4 btw at this
  by_cases hw:wd h.words i=0
  ·exact hw
  refine absurd ?_ this
  simp only [Bool.and_eq_true,Bool.or_eq_true,bne_iff_ne,beq_iff_eq,decide_eq_true_eq]
  exact ⟨hw,by rcases hp with q | q | q<;>simp [q]⟩
 cases old with
 | false=>
   simp only [Bool.false_eq_true,if_false]at htop hrm
   rw [htop]at hrm ⊢
   refine ⟨fun x hx=>?_,fun i a b=>hzero i (by omega) (Or.inr (Or.inl ⟨by omega,by omega⟩)),by omega,by omega⟩
   rcases List.mem_append.1 hx with q | q
   ·exact Or.inl (hy x q).2.2.1
   have:=(ho x q).1;exact Or.inr (by omega)
 | true=>
   simp only [if_true]at htop hrm
   rw [htop]at hrm ⊢
   refine ⟨fun x hx=>?_,fun i a b=>hzero i (by omega) (Or.inr (Or.inr (by omega))),by omega,by omega⟩
   rcases List.mem_append.1 hx with q | q
   ·have:=(hy x q).2.2.1;exact Or.inl (by omega)
   exact Or.inl (ho x q).2.2.1
theorem zts {d:LinkD} {h:HeapD} {ts:List ThD} (r:Right d h ts) {tag len:Int} {old:Bool} (htg:isTagB d.classes.length tag=true) (hmh:mayHaveB d.fields tag len=true) (hr:roomB h old len=true):
 ∃ts',bothT d (makeD h tag len old)=some ts'/\ts'.Perm (⟨topOf h old,tag,len,h.next⟩::ts):=by
 have hl:=zeo hmh
 obtain ⟨f1,-,f3,f4⟩:=ztr r hl hr
 have hz:=r.sized
 obtain ⟨tp,htp⟩:∃tp:Nat,topOf h old=(tp:Int):=⟨(topOf h old).toNat,by omega⟩
 obtain ⟨p1,p2,p3,p4⟩:=ztq (ws:=h.words) (m:=tp) (by omega) tag len h.next
 have hws:(makeD h tag len old).words=put3 h.words tp tag len h.next:=by
  show put3 h.words (topOf h old).toNat tag len h.next=_
  rw [htp];rfl
 have hth:thAt (put3 h.words tp tag len h.next) (tp:Int)=⟨topOf h old,tag,len,h.next⟩:=by
  unfold thAt
  rw [p1,p2,p3,htp]
 have hfin:(thAt (put3 h.words tp tag len h.next) (tp:Int)).fin=(tp:Int)+3+len:=by rw [hth,htp];rfl
 have hrd:readB d.classes.length d.fields (put3 h.words tp tag len h.next) (tp:Int) (thAt (put3 h.words tp tag len h.next) (tp:Int)).fin=true:=by
  unfold readB
  rw [p1,p2,htg,hmh,hfin]
  simp
  omega
 have ap:=zte hz r.both
 have hsh:∀x∈ts,SameHead h.words (put3 h.words tp tag len h.next) x.loc:=fun x hx=>by
  have a:=ap x hx
  have b:=f1 x hx
  rw [htp]at b
  exact ⟨p4 _ (by omega) (by omega),p4 _ (by omega) (by omega),p4 _ (by omega) (by omega)⟩
 obtain ⟨ys,os,e1,e2,rfl⟩:=zkn r.both
 have h4:=hz.ytop
 have h5:=hz.otop
 have hsy:=fun x (hx:x∈ys)=>hsh x (List.mem_append_left _ hx)
 have hso:=fun x (hx:x∈os)=>hsh x (List.mem_append_right _ hx)
 cases old with
 | false=>
   have ht:h.ytop=(tp:Int):=htp
   have w1:=ztc (by omega) (ht ▸ e1) hsy hrd
   rw [hfin,hth]at w1
   have w2:=ztb (by omega) e2 hso
   refine ⟨ys++ [⟨topOf h false,tag,len,h.next⟩]++os,?_,?_⟩
   ·unfold bothT
    rw [hws]
    have y1:(makeD h tag len false).ytop=(tp:Int)+3+len:=by rw [<-ht];rfl
    rw [y1,w1]
    show Option.map _ (walkT _ _ _ (h.young+1) h.otop)=_
    rw [w2]
    rfl
   rw [List.append_assoc]
   exact List.perm_middle
 | true=>
   have ht:h.otop=(tp:Int):=htp
   have w1:=ztb (by omega) e1 hsy
   have w2:=ztc (by omega) (ht ▸ e2) hso hrd
   rw [hfin,hth]at w2
   refine ⟨ys++(os++ [⟨topOf h true,tag,len,h.next⟩]),?_,?_⟩
   ·unfold bothT
    rw [hws]
    have y1:(makeD h tag len true).ytop=h.ytop:=rfl
    have y2:(makeD h tag len true).otop=(tp:Int)+3+len:=by rw [<-ht];rfl
    rw [y1,y2,w1]
    show Option.map _ (walkT _ _ _ (h.young+1) ((tp:Int)+3+len))=_
    rw [w2]
    rfl
   rw [<-List.append_assoc]
   exact List.perm_append_singleton _ _
theorem ztt {ts ts':List ThD} (h:∀x∈ts,x∈ts') {n:Int} (hl:leadB ts n=true):leadB ts' n=true:=by
 unfold leadB at hl ⊢
 rw [Bool.or_eq_true]at hl ⊢
 rcases hl with q | q
 ·rw [znz,List.contains_iff_mem,List.mem_map]at q ⊢
  obtain ⟨x,hx,e⟩:=q
  exact Or.inl ⟨x,h x hx,e⟩
 exact Or.inr q
theorem Right.make {d:LinkD} {h:HeapD} {ts:List ThD} (r:Right d h ts) {tag len:Int} {old:Bool} (htg:isTagB d.classes.length tag=true) (hmh:mayHaveB d.fields tag len=true) (hr:roomB h old len=true) (hn:h.next<=4611686018427387904):
 ∃ts',Right d (makeD h tag len old) ts'/\ts'.Perm (⟨topOf h old,tag,len,h.next⟩::ts):=by
 have hl:=zeo hmh
 obtain ⟨f1,f2,f3,f4⟩:=ztr r hl hr
 obtain ⟨ts',hb,hpm⟩:=zts r htg hmh hr
 have hz:=r.sized
 obtain ⟨tp,htp⟩:∃tp:Nat,topOf h old=(tp:Int):=⟨(topOf h old).toNat,by omega⟩
 obtain ⟨p1,p2,p3,p4⟩:=ztq (ws:=h.words) (m:=tp) (by omega) tag len h.next
 have hws:(makeD h tag len old).words=put3 h.words tp tag len h.next:=by
  show put3 h.words (topOf h old).toNat tag len h.next=_
  rw [htp];rfl
 have hlen:(put3 h.words tp tag len h.next).length=h.words.length:=zlt _ _ _ (by omega)
 have hn1:1<=h.next:=by
  have:=r.tops
  unfold topsB at this
  simp only [Bool.and_eq_true,decide_eq_true_eq]at this
  exact this.2
 have hnx:(makeD h tag len old).next=h.next+1:=ws0 _ (by omega) (by omega)
 have hrm:=of_decide_eq_true hr
 unfold endOf at hrm
 have h1:=hz.young
 have h2:=hz.old
 have h3:=hz.len
 have h4:=hz.ytop
 have h5:=hz.otop
 have htop:topOf h old=if old then h.otop else h.ytop:=rfl
 have hyt:(makeD h tag len old).ytop=if old then h.ytop else h.ytop+3+len:=rfl
 have hot:(makeD h tag len old).otop=if old then h.otop+3+len else h.otop:=rfl
 have hz':Sized d (makeD h tag len old):=by
  refine ⟨h1,h2,by rw [hws,hlen];exact h3,?_,?_,hz.fl,hz.fs,hz.cn⟩
  ·rw [hyt];show 1<=_/\_<=h.young+1;cases old<;>simp at htop hrm ⊢ <;>omega
  rw [hot];show h.young+1<=_/\_<=h.young+h.old+1;cases old<;>simp at htop hrm ⊢ <;>omega
 have hmem:∀x,x∈ts'↔x=⟨topOf h old,tag,len,h.next⟩\/x∈ts:=fun x=>by rw [hpm.mem_iff,List.mem_cons]
 have hsub:∀x∈ts,x∈ts':=fun x hx=>(hmem x).2 (Or.inr hx)
 have ap:=zte hz r.both
 have ap':=zte hz' hb
 have hwx:∀x∈ts,∀a∈refsOf d.fields x,wd (makeD h tag len old).words a=wd h.words a:=fun x hx a ha=>by
  obtain ⟨n,rfl,hnl,-⟩:=ztj ha
  have q:=ap x hx
  have b:=f1 x hx
  have hfx:x.fin=x.loc+3+x.len:=rfl
  rw [htp]at b
  rw [hws]
  exact p4 _ (by omega) (by omega)
 have hwn:∀a∈refsOf d.fields ⟨topOf h old,tag,len,h.next⟩,wd (makeD h tag len old).words a=0:=fun a ha=>by
  obtain ⟨n,e,hnl,-⟩:=ztj ha
  have e:a=topOf h old+3+(n:Int):=e
  have hnl:(n:Int)<len:=hnl
  rw [hws,p4 a (by omega) (by omega)]
  have:=f2 (tp+3+n) (by omega) (by omega)
  rw [show ((tp+3+n:Nat):Int)=a by omega]at this
  exact this
 have hash_lt:∀x∈ts,1<=x.hash/\x.hash<h.next:=fun x hx=>by
  have:=List.any_eq_false.1 r.hash x hx
  unfold badHash at this
  simp at this
  omega
 refine ⟨ts',⟨r.ok,r.parts,?_,?_,hb,?_,?_,?_,?_,r.rise,?_,?_⟩,hpm⟩
 ·have:=r.words
  unfold wordsB at this ⊢
  rw [hws,hlen]
  exact this
 ·unfold topsB
  have a1:=hz'.ytop
  have a2:=hz'.otop
  have y1:(makeD h tag len old).young=h.young:=rfl
  have y2:(makeD h tag len old).old=h.old:=rfl
  rw [hnx]
  simp only [Bool.and_eq_true,decide_eq_true_eq]
  omega
 ·rw [List.any_eq_false]
  intro x hx hbd
  unfold badHash at hbd
  rw [hnx]at hbd
  simp at hbd
  rcases (hmem x).1 hx with rfl | q
  ·have e:(⟨topOf h old,tag,len,h.next⟩:ThD).hash=h.next:=rfl
   rw [e]at hbd
   omega
  have:=hash_lt x q;omega
 ·rw [(hpm.map ThD.hash).nodup_iff,List.map_cons,List.nodup_cons]
  refine ⟨fun hm=>?_,r.dup⟩
  obtain ⟨x,hx,e⟩:=List.mem_map.1 hm
  have:=hash_lt x hx
  have e:x.hash=h.next:=e
  omega
 ·rw [List.any_eq_false]
  intro x hx hrf
  unfold hasRefB at hrf
  obtain ⟨a,ha,hp⟩:=List.any_eq_true.1 hrf
  rcases (hmem x).1 hx with rfl | q
  ·rw [hwn a ha]at hp
   simp [leadB]at hp
  rw [hwx x q a ha]at hp
  refine absurd ?_ (List.any_eq_false.1 r.lead x q)
  unfold hasRefB
  refine List.any_eq_true.2 ⟨a,ha,?_⟩
  cases hlb:leadB ts (wd h.words a)with
  | false=>
    show (!leadB ts (wd h.words a))=true
    rw [hlb];rfl
  | true=>
    have hp:(!leadB ts' (wd h.words a))=true:=hp
    rw [ztt hsub hlb]at hp
    cases hp
 ·have h6:=r.rest
  rw [<-zn2 hz,List.any_eq_false]at h6
  rw [<-zn2 hz',List.any_eq_false]
  intro i hi hbd
  have hi':i<h.words.length:=by
   have:=List.mem_range.1 hi
   rw [hws,hlen]at this
   exact this
  have hbd:bad4 (makeD h tag len old) i=true:=hbd
  unfold bad4 btw at hbd
  have y1:(makeD h tag len old).young=h.young:=rfl
  rw [hyt,hot,y1]at hbd
  simp only [Bool.and_eq_true,Bool.or_eq_true,bne_iff_ne,beq_iff_eq,decide_eq_true_eq]at hbd
  have hout:(i:Int)<tp\/(tp:Int)+3<=i:=by
   have:=hbd.2
   cases old<;>simp at htop this hrm<;>omega
  have e:wd (makeD h tag len old).words (i:Int)=wd h.words i:=by rw [hws];exact p4 _ hout (by omega)
  rw [e]at hbd
  refine h6 i (List.mem_range.2 hi') ?_
  unfold bad4 btw
  simp only [Bool.and_eq_true,Bool.or_eq_true,bne_iff_ne,beq_iff_eq,decide_eq_true_eq]
  refine ⟨hbd.1,?_⟩
  have:=hbd.2
  cases old<;>simp at this ⊢ <;>omega
 ·rw [List.any_eq_false]
  intro y hy hbd
  refine absurd ?_ (List.any_eq_false.1 r.note y hy)
  have hbd:badNote d (makeD h tag len old) ts' y=true:=hbd
  have hnb:badNote d h ts y=false:=by
   cases q:badNote d h ts y with
   | false=>rfl
   | true=>exact absurd q (List.any_eq_false.1 r.note y hy)
  unfold badNote at hnb
  simp only [Bool.or_eq_false_iff]at hnb
  have hs:(plAt ts y).isSome=true:=by simpa using hnb.1.1
  obtain ⟨t,ht⟩:=Option.isSome_iff_exists.1 hs
  obtain ⟨htm,hloc⟩:=zie ts ht
  have hs':(plAt ts' y).isSome=true:=by
   rw [znz,List.contains_iff_mem,List.mem_map]
   exact ⟨t,hsub t htm,hloc⟩
  obtain ⟨t',ht'⟩:=Option.isSome_iff_exists.1 hs'
  obtain ⟨htm',hloc'⟩:=zie ts' ht'
  have et:t'=t:=by
   have a:=ap' t' htm'
   have b:=ap' t (hsub t htm)
   rcases b.2.2.2 t' htm' with q | q | q
   ·exact q
   ·omega
   omega
  have e1:atOr ts y=t:=by unfold atOr;rw [ht];rfl
  have e2:atOr ts' y=t:=by unfold atOr;rw [ht',et];rfl
  unfold badNote at hbd ⊢
  rw [e2,ht']at hbd
  rw [e1,ht]
  exact hbd
 rw [List.any_eq_false]
 intro x hx hu
 have hu:unnoted d (makeD h tag len old) x=true:=hu
 unfold unnoted hasRefB at hu
 simp only [Bool.and_eq_true]at hu
 obtain ⟨⟨u1,u2⟩,u3⟩:=hu
 obtain ⟨a,ha,hp⟩:=List.any_eq_true.1 u3
 rcases (hmem x).1 hx with rfl | q
 ·rw [hwn a ha]at hp
  simp [youngB]at hp
 rw [hwx x q a ha]at hp
 refine absurd ?_ (List.any_eq_false.1 r.un x q)
 unfold unnoted hasRefB
 simp only [Bool.and_eq_true]
 exact ⟨⟨u1,u2⟩,List.any_eq_true.2 ⟨a,ha,hp⟩⟩
end Go.Proofs.YtjdnmblggdobgaaGreat
