import Derived.Test.YtjdnmblggdobgaaGreatHvA
import Derived.Test.YtjdnmblggdobgaaGreatHwA
namespace Go.Proofs.YtjdnmblggdobgaaGreat
open Go.RowKit Go.Maps
structure Right (d:LinkD) (h:HeapD) (ts:List ThD):Prop where
 ok:okLk d=true
 parts:partsB h=true
 words:wordsB h=true
 tops:topsB h=true
 both:bothT d h=some ts
 hash:ts.any (badHash h)=false
 dup:(ts.map ThD.hash).Nodup
 lead:(ts.any fun x=>hasRefB d.fields h.words x fun n=>!leadB ts n)=false
 rest:(restL h).any (· != 0)=false
 rise:riseB h.noted=true
 note:h.noted.any (badNote d h ts)=false
 un:ts.any (unnoted d h)=false
theorem Right.err {d:LinkD} {h:HeapD} {ts:List ThD} (r:Right d h ts):heapErr d h=0:=by
 unfold heapErr heapRes
 rw [r.ok,r.parts,r.words,r.tops,r.both]
 simp only [if_true]
 unfold thingsErr
 rw [r.hash,r.lead,r.rest,r.rise,r.note,r.un,decide_eq_true r.dup]
 rfl
theorem zti {d:LinkD} {h:HeapD} (h0:heapErr d h=0):∃ts,Right d h ts:=by
 unfold heapErr heapRes at h0
 cases e0:okLk d with
 | false=>rw [e0]at h0;simp at h0
 | true=>
 cases e1:partsB h with
 | false=>rw [e0,e1]at h0;simp at h0
 | true=>
 cases e2:wordsB h with
 | false=>rw [e0,e1,e2]at h0;simp at h0
 | true=>
 cases e3:topsB h with
 | false=>rw [e0,e1,e2,e3]at h0;simp at h0
 | true=>
 cases e4:bothT d h with
 | none=>rw [e0,e1,e2,e3,e4]at h0;simp at h0
 | some ts=>
 rw [e0,e1,e2,e3,e4]at h0
 simp only [if_true]at h0
 unfold thingsErr at h0
 cases f1:ts.any (badHash h)with
 | true=>rw [f1]at h0;simp at h0
 | false=>
 cases f2:decide ((ts.map ThD.hash).Nodup)with
 | false=>rw [f1,f2]at h0;simp at h0
 | true=>
 cases f3:(ts.any fun x=>hasRefB d.fields h.words x fun n=>!leadB ts n)with
 | true=>rw [f1,f2,f3]at h0;simp at h0
 | false=>
 cases f4:(restL h).any (· != 0)with
 | true=>rw [f1,f2,f3,f4]at h0;simp at h0
 | false=>
 cases f5:riseB h.noted with
 | false=>rw [f1,f2,f3,f4,f5]at h0;simp at h0
 | true=>
 cases f6:h.noted.any (badNote d h ts)with
 | true=>rw [f1,f2,f3,f4,f5,f6]at h0;simp at h0
 | false=>
 cases f7:ts.any (unnoted d h)with
 | true=>rw [f1,f2,f3,f4,f5,f6,f7]at h0;simp at h0
 | false=>exact ⟨ts,e0,e1,e2,e3,e4,f1,of_decide_eq_true f2,f3,f4,f5,f6,f7⟩
theorem Right.sized {d:LinkD} {h:HeapD} {ts:List ThD} (r:Right d h ts):Sized d h:=zkj (zkh r.ok) r.parts r.words r.tops
theorem ztj {fs:List (List FieldD)} {x:ThD} {a:Int} (h:a∈refsOf fs x):∃n:Nat,a=x.loc+3+n/\(n:Int)<x.len/\refI fs x n=true:=by
 unfold refsOf at h
 obtain ⟨n,hn,rfl⟩:=List.mem_map.1 h
 obtain ⟨h1,h2⟩:=List.mem_filter.1 hn
 have:=List.mem_range.1 h1
 exact ⟨n,rfl,by omega,h2⟩
theorem ztk {fs:List (List FieldD)} {x:ThD} {n:Nat} (h1:(n:Int)<x.len) (h2:refI fs x n=true):x.loc+3+(n:Int)∈refsOf fs x:=by
 unfold refsOf
 exact List.mem_map.2 ⟨n,List.mem_filter.2 ⟨List.mem_range.2 (by omega),h2⟩,rfl⟩
theorem ztl {d:LinkD} {h:HeapD} {ts:List ThD} (hz:Sized d h) (hb:bothT d h=some ts) {t:ThD} (ht:t∈ts) {k:Nat} (hk:(k:Int)<t.len) (v:Int) {x:ThD} (hx:x∈ts) (p:Int->Bool) (hr:hasRefB d.fields (h.words.set (t.loc+3+k).toNat v) x p=true):
 hasRefB d.fields h.words x p=true\/(x=t/\refI d.fields t k=true/\p v=true):=by
 obtain ⟨t1,t2,t3,t4⟩:=zte hz hb t ht
 obtain ⟨x1,x2,x3,-⟩:=zte hz hb x hx
 have hft:t.fin=t.loc+3+t.len:=rfl
 have hfx:x.fin=x.loc+3+x.len:=rfl
 unfold hasRefB at hr ⊢
 obtain ⟨a,ha,hp⟩:=List.any_eq_true.1 hr
 obtain ⟨n,rfl,hn,hri⟩:=ztj ha
 by_cases hm:(x.loc+3+(n:Int)).toNat=(t.loc+3+(k:Int)).toNat
 ·rcases t4 x hx with rfl | q | q
  ·have e:n=k:=by omega
   subst e
   refine Or.inr ⟨rfl,hri,?_⟩
   rw [show x.loc+3+(n:Int)=((x.loc+3+(n:Int)).toNat:Int) by omega,Int.toNat_natCast,zs8 (by omega)]at hp
   exact hp
  ·omega
  omega
 rw [zs7 hm]at hp
 exact Or.inl (List.any_eq_true.2 ⟨_,ha,hp⟩)
theorem ztm {l:List Int} {x y:Int} :y∈insN l x↔y∈l\/y=x:=by
 unfold insN
 split
 ·rename_i hc
  refine ⟨Or.inl,fun hy=>?_⟩
  rcases hy with hy | rfl
  ·exact hy
  exact List.contains_iff_mem.1 hc
 have e:y∈l↔y∈l.takeWhile (fun y=>decide (y<x))\/y∈l.dropWhile (fun y=>decide (y<x)):=by
  rw [<-List.mem_append,List.takeWhile_append_dropWhile]
 rw [List.mem_append,List.mem_cons,e]
 constructor
 ·rintro (q | q | q)
  ·exact Or.inl (Or.inl q)
  ·exact Or.inr q
  exact Or.inl (Or.inr q)
 rintro ((q | q) | q)
 ·exact Or.inl q
 ·exact Or.inr (Or.inr q)
 exact Or.inr (Or.inl q)
theorem ztn {l:List Int} :riseTo l l.length↔l.Pairwise (· < ·):=by
 constructor
 ·intro h
  rw [List.pairwise_iff_getElem]
  intro i j hi hj hij
  have key:∀n,i+n+1<l.length->wd l i<wd l ((i+n+1:Nat):Int):=by
   intro n
   induction n with
   | zero=>
     intro hn
     have:=h (i+1) (by omega) hn
     rw [show ((i+1:Nat):Int) - 1=(i:Int) by omega]at this
     exact this
   | succ n ih=>
     intro hn
     have h1:=ih (by omega)
     have h2:=h (i+n+1+1) (by omega) hn
     rw [show ((i+n+1+1:Nat):Int) - 1=((i+n+1:Nat):Int) by omega]at h2
     exact Int.lt_trans h1 h2
  have:=key (j - i - 1) (by omega)
  rw [show i+(j - i - 1)+1=j by omega,zen hi,zen hj]at this
  exact this
 intro h j h0 hj
 rw [show (j:Int) - 1=((j - 1:Nat):Int) by omega,zen (by omega),zen hj]
 exact List.pairwise_iff_getElem.1 h (j - 1) j (by omega) hj (by omega)
theorem zto {p:Int->Bool} :∀(l:List Int) (a:Int),a∈l.takeWhile p->p a=true
 | [],_,h=>by cases h
 | b::l,a,h=>by
   by_cases hb:p b=true
   ·rw [List.takeWhile_cons_of_pos hb]at h
    rcases List.mem_cons.1 h with rfl | h
    ·exact hb
    exact zto l a h
   rw [List.takeWhile_cons_of_neg hb]at h
   cases h
theorem ztp {l:List Int} {x:Int} (h:l.Pairwise (· < ·)):(insN l x).Pairwise (· < ·):=by
 cases hc:l.contains x with
 | true=>unfold insN;rw [hc];exact h
 | false=>
   have hle:l.Pairwise (· <= ·):=h.imp fun hab=>Int.le_of_lt hab
   have hx:x∉l:=fun hm=>by rw [List.contains_iff_mem.2 hm]at hc;cases hc
   rw [zsh hle hc]
   unfold insAt
   obtain ⟨e1,e2⟩:=zsg x l hle
   have hs:=h
   rw [<-List.take_append_drop (l.countP (· <x)) l,List.pairwise_append]at hs
   obtain ⟨p1,p2,p3⟩:=hs
   have hlt:∀a∈l.take (l.countP (· <x)),a<x:=fun a ha=>by
    rw [<-e1]at ha
    have:=zto l a ha
    simpa using this
   have hgt:∀b∈l.drop (l.countP (· <x)),x<b:=fun b hb=>by
    have hbl:b∈l:=List.mem_of_mem_drop hb
    have hne:b≠x:=fun e=>hx (e ▸ hbl)
    rw [<-e2]at hb
    cases hd:l.dropWhile (fun y=>decide (y<x))with
    | nil=>rw [hd]at hb;cases hb
    | cons c r=>
      have hcx:¬c<x:=by
       have:=List.head_dropWhile_not (fun y:Int=>decide (y<x)) (l:=l) (by rw [hd];simp)
       simp only [hd,List.head_cons]at this
       simpa using this
      rw [hd]at hb
      have hp:(c::r).Pairwise (· < ·):=by rw [<-hd,e2];exact p2
      rcases List.mem_cons.1 hb with rfl | hb
      ·omega
      have:=(List.pairwise_cons.1 hp).1 b hb
      omega
   rw [List.pairwise_append]
   refine ⟨p1,List.pairwise_cons.2 ⟨hgt,p2⟩,fun a ha b hb=>?_⟩
   rcases List.mem_cons.1 hb with rfl | hb
   ·exact hlt a ha
   exact p3 a ha b hb
theorem Right.set {d:LinkD} {h:HeapD} {ts:List ThD} (r:Right d h ts) {t:ThD} (hp:plAt ts t.loc=some t) {k:Nat} (hk:(k:Int)<t.len) {v:Int} (hv:refI d.fields t k=false\/leadB ts v=true):Right d (setD d h t k v) ts:=by
 have hz:=r.sized
 obtain ⟨ht,-⟩:=zie ts hp
 obtain ⟨t1,t2,t3,t4⟩:=zte hz r.both t ht
 have hft:t.fin=t.loc+3+t.len:=rfl
 have hin:∀y,y∈(setD d h t k v).noted↔y∈h.noted\/(noteB d h t k v=true/\y=t.loc):=fun y=>by
  show y∈(if noteB d h t k v then insN h.noted t.loc else h.noted)↔_
  cases noteB d h t k v with
  | false=>simp
  | true=>simp [ztm]
 refine ⟨r.ok,r.parts,?_,r.tops,ztg hz r.both ht (by omega) (by omega) v _,r.hash,r.dup,?_,?_,?_,?_,?_⟩
 ·have:=r.words
  unfold wordsB at this ⊢
  show decide (((h.words.set _ v).length:Int)=_)=true
  rw [List.length_set]
  exact this
 ·rw [List.any_eq_false]
  intro x hx hr
  rcases ztl hz r.both ht hk v hx _ hr with q | ⟨-,q1,q2⟩
  ·exact absurd q (List.any_eq_false.1 r.lead x hx)
  rcases hv with hv | hv
  ·rw [hv]at q1;cases q1
  rw [hv]at q2;cases q2
 ·have h1:=r.rest
  rw [<-zn2 hz]at h1
  have hz':Sized d (setD d h t k v):=⟨hz.young,hz.old,by show ((h.words.set _ v).length:Int)=_;rw [List.length_set];exact hz.len,hz.ytop,hz.otop,hz.fl,hz.fs,hz.cn⟩
  rw [<-zn2 hz',List.any_eq_false]
  intro i hi hb
  have hi':i<h.words.length:=by
   have:=List.mem_range.1 hi
   have e:(setD d h t k v).words.length=h.words.length:=List.length_set
   omega
  have h2:=List.any_eq_false.1 h1 i (List.mem_range.2 hi')
  by_cases hm:i=(t.loc+3+(k:Int)).toNat
  ·obtain ⟨ys,os,e1,e2,rfl⟩:=zkn r.both
   have a1:=hz.ytop
   have a2:=hz.otop
   have hw:(1<=t.loc/\t.fin<=h.ytop)\/(h.young+1<=t.loc/\t.fin<=h.otop):=by
    rcases List.mem_append.1 ht with q | q
    ·have:=zkm e1 t q;exact Or.inl ⟨this.1,this.2.1⟩
    have:=zkm e2 t q;exact Or.inr ⟨this.1,this.2.1⟩
   have hb2:bad4 (setD d h t k v) i=true:=hb
   unfold bad4 at hb2
   rw [Bool.and_eq_true]at hb2
   have hb3:=hb2.2
   unfold btw at hb3
   simp only [Bool.or_eq_true,Bool.and_eq_true,beq_iff_eq,decide_eq_true_eq]at hb3
   have y1:(setD d h t k v).ytop=h.ytop:=rfl
   have y2:(setD d h t k v).young=h.young:=rfl
   have y3:(setD d h t k v).otop=h.otop:=rfl
   rw [y1,y2,y3]at hb3
   omega
  refine h2 ?_
  have hb2:bad4 (setD d h t k v) i=true:=hb
  unfold bad4 at hb2 ⊢
  have e:wd (setD d h t k v).words (i:Int)=wd h.words i:=zs7 (by simpa using hm)
  rw [e]at hb2
  exact hb2
 ·have h1:=ztn.1 ((zki _).1 r.rise)
  refine (zki _).2 (ztn.2 ?_)
  show (if noteB d h t k v then insN h.noted t.loc else h.noted).Pairwise (· < ·)
  cases noteB d h t k v with
  | false=>exact h1
  | true=>exact ztp h1
 ·rw [List.any_eq_false]
  intro y hy hb
  have hb:badNote d h ts y=true:=hb
  rcases (hin y).1 hy with q | ⟨q,rfl⟩
  ·exact absurd hb (List.any_eq_false.1 r.note y q)
  unfold noteB at q
  simp only [Bool.and_eq_true,decide_eq_true_eq]at q
  unfold badNote at hb
  have e:atOr ts t.loc=t:=by unfold atOr;rw [hp];rfl
  rw [hp,e,decide_eq_true q.2.1]at hb
  have hm:=ztk (fs:=d.fields) hk q.1
  have hl:(refsOf d.fields t).length≠0:=fun e=>by rw [List.length_eq_zero_iff.1 e]at hm;cases hm
  simp at hb
  exact hl (by rw [hb];rfl)
 rw [List.any_eq_false]
 intro x hx hu
 have hu:unnoted d (setD d h t k v) x=true:=hu
 unfold unnoted at hu
 simp only [Bool.and_eq_true,decide_eq_true_eq,Bool.not_eq_true']at hu
 obtain ⟨⟨u1,u2⟩,u3⟩:=hu
 have hnc:∀y,y∈(setD d h t k v).noted->y≠x.loc:=fun y hy e=>by
  rw [<-Bool.not_eq_true,List.contains_iff_mem]at u2
  exact u2 (e ▸ hy)
 rcases ztl hz r.both ht hk v hx _ u3 with q | ⟨rfl,q1,q2⟩
 ·refine absurd ?_ (List.any_eq_false.1 r.un x hx)
  unfold unnoted
  have hc:h.noted.contains x.loc=false:=by
   rw [<-Bool.not_eq_true,List.contains_iff_mem]
   exact fun hm=>hnc x.loc ((hin _).2 (Or.inl hm)) rfl
  have u1':h.young<x.loc:=u1
  rw [decide_eq_true u1',hc]
  exact q
 refine hnc x.loc ((hin _).2 (Or.inr ⟨?_,rfl⟩)) rfl
 unfold noteB
 have u1':h.young<x.loc:=u1
 rw [q1,decide_eq_true u1']
 exact q2
end Go.Proofs.YtjdnmblggdobgaaGreat
