import Derived.Test.YtjdnmblggdobgaaGreatJTilHvE
import Derived.Test.YtjdnmblggdobgaaGreatJTk2Dies
import Derived.Lib.SliceRun
set_option maxHeartbeats 2000000
set_option maxRecDepth 100000
namespace Go.Proofs.YtjdnmblggdobgaaGreat
open Go.RowKit Go.Maps
theorem zu0 (w:World) (c:Value) (aR:Option Addr) (n cR:Nat):
 Calls Tryz.prog 135 #[.agg #[c,.slice aR n cR]] w fun r w'=>r=.returned (.bool (decide ((n:Int)<=1000)))/\Below w.heap.size w w':=by
 obtain ⟨W0,hW0,hB0,hs0,k0⟩:=boxes1 w #[c,.slice aR n cR] 188
 have HB0:=mk0 hB0
 have HE0:=mk0 hW0
 have c1:=cl0 k0 1 (x:=.slice aR n cR) rfl
 have lk:=lt0 k0
 clear hW0 k0 hB0 hs0
 go_enter Tryz.func135,Tryz.ntmps135
 go_wp2_with fail
 rw [<-HE0.out]
 go_wp2_with fail
 go_ret
 exact ⟨rfl,HB0.out⟩
theorem zu2 (w:World) (X B:Nat) (vW vO kC kS kF kN kT vA:Value) (h:HeapD) (d:LinkD) (ts:List ThD) (hc:Cht X B w vW vO kC kS kF kN kT vA h d ts) (P:Nat) (hp:w.cell? ⟨P,0,none⟩=some (.pointer (some ⟨X+1,0,none⟩))) (x:Int) (hx:(Lit.int .i64 x).wf=true):
 Calls Tryz.prog 189 #[.int .i64 x,.pointer (some ⟨P,0,none⟩)] w fun r w'=>r=.returned (.bool (!leadB ts x))/\Below w.heap.size w w':=by
 have HC:=mk0 (zhv w X B _ _ _ _ _ _ _ _ h d ts hc x hx)
 clear hc hx
 go_enter Tryz.func189,Tryz.ntmps189
 go_wp2_with fail
 refine HC.out.mono ?_
 rintro r w1 ⟨rfl,hb1⟩
 have HB:=mk0 hb1
 clear hb1 HC
 go_wp2_with fail
 go_ret
 exact ⟨rfl,HB.out⟩
theorem zu3 (w:World) (X B C:Nat) (vW vO kC kS kF kN kT vA:Value) (h:HeapD) (d:LinkD) (ts:List ThD) (hc:Cht X B w vW vO kC kS kF kN kT vA h d ts) (vR:Value) (rs:List Int) (hs:SL 1 RI (· <C) w vR rs) (hC:C<=w.heap.size) (hwr:∀x∈rs,(Lit.int .i64 x).wf=true):
 Calls Tryz.prog 136 #[.agg #[.pointer (some ⟨X+1,0,none⟩),vR]] w fun r w'=>r=.returned (.bool (!rs.any fun x=>!leadB ts x))/\Below w.heap.size w w':=by
 have hmf:=mkf Tryz.prog
 obtain ⟨W0,hW,hB0,hsz,k0⟩:=boxes1 w #[.pointer (some ⟨X+1,0,none⟩),vR] 188
 have hc1:=hc.below hB0
 have hp:=cl0 k0 0 (x:=.pointer (some ⟨X+1,0,none⟩)) rfl
 have HCC:Hid (Calls Tryz.prog 174 #[vR,.func (.func 189) #[] #[.pointer (some ⟨w.heap.size,0,none⟩)]] W0 fun r w'=>r=.returned (.bool (rs.any fun x=>!leadB ts x))/\Below W0.heap.size W0 w'):=by
  refine zhy _ C vR _ (hs.keptI (Kp.below (hB0.mono hC))) (Nat.le_trans hC hB0.size) 189 #[] _ (fun x=>!leadB ts x) (fun args w=>by kernel_rfl) ?_
  intro x hx V hV
  exact zu2 V X B _ _ _ _ _ _ _ vA h d ts (hc1.below hV) w.heap.size ((hV.cell (p:=⟨w.heap.size,0,none⟩) (by show w.heap.size<_;omega)).trans hp) x (hwr x hx)
 have c1:=cl0 k0 1 (x:=vR) rfl
 have gl:=lt0 k0
 have HB0:=mk0 hB0
 have HW:=mk0 hW
 obtain ⟨a,q,rfl,-⟩:=hs
 clear hc hc1 hB0 hp hwr hW k0 hsz
 generalize (rs.any fun x=>!leadB ts x)=b at*
 go_enter Tryz.func136,Tryz.ntmps136
 go_wp2_with fail
 rw [<-HW.out]
 refine HCC.out.mono ?_
 rintro r w1 ⟨rfl,hb1⟩
 have HB1:Hid (Below w.heap.size w w1):=HB0.out.trans (hb1.mono HB0.out.size)
 clear hb1 HCC
 go_wp2_with fail
 go_ret
 exact ⟨rfl,HB1.out⟩
def segL (ws:List Int) (loc n:Nat):List Int:=(ws.drop loc).take n
def putL (ws:List Int) (off:Nat) (l:List Int):List Int:=ws.take off++(l++ws.drop (off+l.length))
theorem zt4 {ws:List Int} {off:Nat} {l:List Int} (h:off+l.length<=ws.length):(putL ws off l).length=ws.length:=by
 simp [putL]
 omega
theorem zt5 {ws:List Int} {loc n:Nat} (h:loc+n<=ws.length):(segL ws loc n).length=n:=by
 simp [segL]
 omega
theorem zt6 {ws:List Int} {loc n:Nat} {i:Int} (h0:0<=i) (h1:i<n):wd (segL ws loc n) i=wd ws (loc+i):=by
 unfold wd segL
 rw [List.getElem?_take_of_lt (by omega),List.getElem?_drop,show loc+i.toNat=((loc:Int)+i).toNat by omega]
theorem zt7 {ws:List Int} {off:Nat} {l:List Int} {a:Int} (h:off<=ws.length) (h1:(off:Int)<=a) (h2:a<off+l.length):wd (putL ws off l) a=wd l (a - off):=by
 unfold wd putL
 have e:(ws.take off).length=off:=by simp;omega
 rw [List.getElem?_append_right (by omega),e,List.getElem?_append_left (by omega),show a.toNat - off=(a - off).toNat by omega]
theorem zt8 {ws:List Int} {off:Nat} {l:List Int} {a:Int} (h:off+l.length<=ws.length) (h0:0<=a) (h1:a<off\/off+l.length<=a):wd (putL ws off l) a=wd ws a:=by
 unfold wd putL
 have e:(ws.take off).length=off:=by simp;omega
 rcases h1 with h1 | h1
 ·
  rw [List.getElem?_append_left (by omega),List.getElem?_take_of_lt (by omega)]
 rw [List.getElem?_append_right (by omega),e,List.getElem?_append_right (by omega),List.getElem?_drop,show off+l.length+(a.toNat - off - l.length)=a.toNat by omega]
structure MvS where
 h:HeapD
 mv:List (Int×ThD)
def nowAt (mv:List (Int×ThD)) (n:Int):Option Int:=mv.foldl (fun acc p=>if p.1=n then some p.2.loc else acc) none
theorem zt9 (mv:List (Int×ThD)) (p:Int×ThD) (n:Int):nowAt (mv++ [p]) n=if p.1=n then some p.2.loc else nowAt mv n:=by
 unfold nowAt
 rw [List.foldl_append]
 rfl
def moveW (h:HeapD) (t:ThD):HeapD:=⟨putL h.words h.otop.toNat (segL h.words t.loc.toNat (t.len+3).toNat),h.young,h.old,h.ytop,h.otop+3+t.len,h.noted,h.next⟩
def MvS.move (s:MvS) (t:ThD):MvS:=⟨moveW s.h t,s.mv++ [(t.loc,⟨s.h.otop,t.tag,t.len,t.hash⟩)]⟩
def MvS.dst (s:MvS) (v:Int):Int:=if youngB s.h v then (nowAt s.mv v).getD s.h.otop else v
def MvS.lead (s:MvS) (v:Int):MvS:=if youngB s.h v&&(nowAt s.mv v).isNone then s.move (thAt s.h.words v) else s
def MvS.put (s:MvS) (a v:Int):MvS:=⟨setW s.h a.toNat v,s.mv⟩
def MvS.ref (s:MvS) (a:Int):MvS:=(s.lead (wd s.h.words a)).put a (s.dst (wd s.h.words a))
def MvS.refs (s:MvS) (l:List Int):MvS:=l.foldl MvS.ref s
def MvS.roots (s:MvS) (rs:List Int):MvS:=rs.foldl MvS.lead s
def MvS.noted (fs:List (List FieldD)) (s:MvS) (ns:List Int):MvS:=ns.foldl (fun s n=>s.refs (refsOf fs (thAt s.h.words n))) s
def MvS.gone (fs:List (List FieldD)):Nat->Nat->MvS->MvS
 | 0,_,s=>s
 | f+1,i,s=>match s.mv[i]? with
   | none=>s
   | some p=>MvS.gone fs f (i+1) (s.refs (refsOf fs p.2))
def leftD (h:HeapD):Int:=(h.words.length:Int) - h.otop - (h.ytop - 1)
def Laid:Int->List (Int×ThD)->Int->Prop
 | lo,[],hi=>lo=hi
 | lo,p::r,hi=>p.2.loc=lo/\Laid p.2.fin r hi
def turnM (mv:List (Int×ThD)) (v:Int):Int:=(nowAt mv v).getD v
def srcM:List (Int×ThD)->Int->Int
 | [],a=>a
 | p::r,a=>if p.2.loc<=a/\a<p.2.fin then p.1+(a - p.2.loc) else srcM r a
theorem zua {p:Int×ThD} :∀ {l:List (Int×ThD)} {lo hi:Int},Laid lo l hi->p.2.loc=hi->Laid lo (l++ [p]) p.2.fin
 | [],_,_,h,e=>⟨e.trans h.symm,rfl⟩
 | _::_,_,_,h,e=>⟨h.1,zua h.2 e⟩
theorem zub:∀ {l:List (Int×ThD)} {lo hi:Int},Laid lo l hi->(∀p∈l,0<=p.2.len)->lo<=hi/\∀p∈l,lo<=p.2.loc/\p.2.fin<=hi
 | [],lo,hi,h,_=>⟨Int.le_of_eq h,fun p hp=>by cases hp⟩
 | q::r,lo,hi,h,hl=>by
   have ih:=zub h.2 fun p hp=>hl p (List.mem_cons_of_mem _ hp)
   have h0:=hl q (List.mem_cons_self ..)
   have h1:q.2.fin=q.2.loc+3+q.2.len:=rfl
   have h2:=h.1
   refine ⟨by omega,fun p hp=>?_⟩
   rcases List.mem_cons.1 hp with rfl | hp
   ·
    exact ⟨by omega,by omega⟩
   have:=ih.2 p hp;exact ⟨by omega,this.2⟩
theorem zuc:∀ {l:List (Int×ThD)} {a:Int},(∀p∈l,¬(p.2.loc<=a/\a<p.2.fin))->srcM l a=a
 | [],a,_=>rfl
 | q::r,a,h=>by
   rw [srcM,if_neg (h q (List.mem_cons_self ..))]
   exact zuc fun p hp=>h p (List.mem_cons_of_mem _ hp)
theorem zud {p:Int×ThD} {a:Int} (h1:p.2.loc<=a) (h2:a<p.2.fin):∀ {l:List (Int×ThD)} {lo hi:Int},Laid lo l hi->(∀p∈l,0<=p.2.len)->p∈l->srcM l a=p.1+(a - p.2.loc)
 | [],lo,hi,h,_,hp=>by cases hp
 | q::r,lo,hi,h,hl,hp=>by
   rw [srcM]
   rcases List.mem_cons.1 hp with rfl | hp
   ·
    rw [if_pos ⟨h1,h2⟩]
   have hl':∀p∈r,0<=p.2.len:=fun p hp=>hl p (List.mem_cons_of_mem _ hp)
   have:=(zub h.2 hl').2 p hp
   rw [if_neg (by omega)]
   exact zud h1 h2 h.2 hl' hp
theorem zue {p:Int×ThD} {a:Int} :∀ {l:List (Int×ThD)},¬(p.2.loc<=a/\a<p.2.fin)->srcM (l++ [p]) a=srcM l a
 | [],h=>by
   show srcM [p] a=a
   rw [srcM,if_neg h];rfl
 | q::r,h=>by
   rw [List.cons_append,srcM,srcM,zue h]
theorem zuf:∀ {l:List (Int×ThD)} {v:Int},v∉l.map (·.1)->nowAt l v=none:=by
 intro l v h
 unfold nowAt
 induction l with
 | nil=>rfl
 | cons p r ih=>
   rw [List.map_cons,List.mem_cons,not_or]at h
   rw [List.foldl_cons,if_neg (fun e=>h.1 e.symm)]
   exact ih h.2
theorem zuh {l:List (Int×ThD)} {v tt:Int} (h:nowAt l v=some tt):∃p∈l,p.1=v/\p.2.loc=tt:=by
 have main:∀(r:List (Int×ThD)) (acc:Option Int),r.foldl (fun acc q=>if q.1=v then some q.2.loc else acc) acc=some tt->acc=some tt\/∃p∈r,p.1=v/\p.2.loc=tt:=by
  intro r
  induction r with
  | nil=>intro acc h;exact Or.inl h
  | cons q r ih=>
    intro acc h
    rw [List.foldl_cons]at h
    rcases ih _ h with h | ⟨p,hp,h⟩
    ·
     by_cases e:q.1=v
     ·
      rw [if_pos e]at h
      exact Or.inr ⟨q,List.mem_cons_self ..,e,Option.some.inj h⟩
     rw [if_neg e]at h
     exact Or.inl h
    exact Or.inr ⟨p,List.mem_cons_of_mem _ hp,h⟩
 rcases main l none h with h | h
 ·
  cases h
 exact h
theorem zui {l:List (Int×ThD)} {v:Int} :(nowAt l v).isSome=true↔v∈l.map (·.1):=by
 constructor
 ·
  intro h
  obtain ⟨tt,e⟩:=Option.isSome_iff_exists.1 h
  obtain ⟨p,hp,e,-⟩:=zuh e
  exact List.mem_map.2 ⟨p,hp,e⟩
 intro h
 cases e:nowAt l v with
 | some tt=>rfl
 | none=>
   exfalso
   obtain ⟨p,hp,rfl⟩:=List.mem_map.1 h
   have main:∀(r:List (Int×ThD)) (acc:Option Int),(p∈r\/acc.isSome=true)->(r.foldl (fun acc q=>if q.1=p.1 then some q.2.loc else acc) acc).isSome=true:=by
    intro r
    induction r with
    | nil=>intro acc h;rcases h with h | h
           ·
            cases h
           exact h
    | cons q r ih=>
      intro acc h
      rw [List.foldl_cons]
      refine ih _ ?_
      by_cases e:q.1=p.1
      ·
       rw [if_pos e];exact Or.inr rfl
      rw [if_neg e]
      rcases h with h | h
      ·
       rcases List.mem_cons.1 h with rfl | h
       ·
        exact absurd rfl e
       exact Or.inl h
      exact Or.inr h
   have:=main l none (Or.inl hp)
   unfold nowAt at e
   rw [e]at this
   cases this
structure YgT (d:LinkD) (h:HeapD) (t:ThD):Prop where
 lo:1<=t.loc
 fin:t.fin<=h.ytop
 eq:t=thAt h.words t.loc
 fit:FitT d t
theorem zuj {d:LinkD} {h:HeapD} {ts:List ThD} (r:Right d h ts) {t:ThD} (ht:t∈ts) (hy:t.loc<=h.young):YgT d h t:=by
 have hz:=r.sized
 obtain ⟨ys,os,e1,e2,rfl⟩:=zkn r.both
 have h4:=hz.ytop
 have h5:=hz.otop
 have h1:=hz.young
 rcases List.mem_append.1 ht with ht | ht
 ·
  have q:=zkm e1 t ht
  exact ⟨q.1,q.2.1,q.2.2.1,zko (zkh r.ok) q (by omega) (by omega)⟩
 have q:=zkm e2 t ht
 have:=q.1
 omega
theorem zuk {h:HeapD} {v:Int} :youngB h v=true↔0<v/\v<=h.young:=by
 unfold youngB
 simp only [Bool.and_eq_true,decide_eq_true_eq]
theorem zul {ts:List ThD} {v:Int} (h:leadB ts v=true) (h0:v≠0):∃t∈ts,t.loc=v:=by
 unfold leadB at h
 rw [Bool.or_eq_true]at h
 rcases h with h | h
 ·
  obtain ⟨t,e⟩:=Option.isSome_iff_exists.1 h
  exact ⟨t,zie ts e⟩
 exact absurd (beq_iff_eq.1 h) h0
theorem zum {f:Int->Int} :∀(m:List Int),(∀x∈m,0<=f x)->0<=(m.map f).sum
 | [],_=>Int.le_refl _
 | x::m,h0=>by
   have h1:=zum m fun x hx=>h0 x (List.mem_cons_of_mem _ hx)
   have h2:=h0 x (List.mem_cons_self ..)
   rw [List.map_cons,List.sum_cons]
   omega
theorem zun {l m:List Int} (h:l.Perm m):l.sum=m.sum:=by
 induction h with
 | nil=>rfl
 | cons x _ ih=>rw [List.sum_cons,List.sum_cons,ih]
 | swap x y l=>simp only [List.sum_cons];omega
 | trans _ _ h1 h2=>exact h1.trans h2
theorem zuo {f:Int->Int} :∀(l m:List Int),l.Nodup->(∀x∈l,x∈m)->(∀x∈m,0<=f x)->(l.map f).sum<=(m.map f).sum
 | [],m,_,_,h0=>zum m h0
 | x::l,m,hn,hs,h0=>by
   rw [List.nodup_cons]at hn
   have hx:=hs x (List.mem_cons_self ..)
   have ih:=zuo l (m.erase x) hn.2 (fun y hy=>(List.mem_erase_of_ne (fun e=>hn.1 (by rw [<-e];exact hy))).2 (hs y (List.mem_cons_of_mem _ hy))) (fun y hy=>h0 y (List.mem_of_mem_erase hy))
   have e:(m.map f).sum=f x+((m.erase x).map f).sum:=by
    have hp:=(List.perm_cons_erase hx).map f
    have:=zun hp
    rwa [List.map_cons,List.sum_cons]at this
   rw [e,List.map_cons,List.sum_cons]
   omega
theorem zup {n:Nat} {fs:List (List FieldD)} {ws:List Int} {top:Int} :∀(f:Nat) (lo:Int) (ts:List ThD),(top - lo).toNat<=f->lo<=top->walkT n fs ws lo top=some ts->(ts.map fun t=>3+t.len).sum=top - lo
 | f,lo,ts,hf,hl,e=>by
   by_cases hlt:lo<top
   ·
    by_cases hr:readB n fs ws lo top=true
    ·
     rw [zet hlt hr]at e
     cases hx:walkT n fs ws (thAt ws lo).fin top with
     | none=>rw [hx]at e;cases e
     | some ts'=>
       rw [hx]at e
       have e:=Option.some.inj e
       subst e
       have h1:=zep hr
       match f,hf with
       | 0,hf=>omega
       | f+1,hf=>
         have ih:=zup f (thAt ws lo).fin ts' (by omega) h1.2.1 hx
         rw [List.map_cons,List.sum_cons,ih]
         have:(thAt ws lo).fin=lo+3+(thAt ws lo).len:=rfl
         omega
    rw [zeu hlt hr]at e
    cases e
   rw [zes hlt]at e
   have e:=Option.some.inj e
   subst e
   simp
   omega
structure MvX (d:LinkD) (h0:HeapD) (ts:List ThD) (s:MvS) (dn:Int->Prop):Prop where
 len:s.h.words.length=h0.words.length
 yo:s.h.young=h0.young
 ol:s.h.old=h0.old
 yt:s.h.ytop=h0.ytop
 no:s.h.noted=h0.noted
 nx:s.h.next=h0.next
 fr:∀p∈s.mv,∃t∈ts,youngB h0 t.loc=true/\p.1=t.loc/\p.2.tag=t.tag/\p.2.len=t.len/\p.2.hash=t.hash
 laid:Laid h0.otop s.mv s.h.otop
 nd:(s.mv.map (·.1)).Nodup
 yes:∀a:Int,0<=a->a<h0.words.length->dn a->wd s.h.words a=turnM s.mv (wd h0.words (srcM s.mv a))
 nay:∀a:Int,0<=a->a<h0.words.length->¬dn a->wd s.h.words a=wd h0.words (srcM s.mv a)
 dn1:∀a:Int,dn a->h0.young<a/\a<s.h.otop/\(youngB h0 (wd h0.words (srcM s.mv a))=true->wd h0.words (srcM s.mv a)∈s.mv.map (·.1))
def Ext (s s':MvS):Prop:=(∃e,s'.mv=s.mv++e)/\s.h.otop<=s'.h.otop/\∀a,a<s.h.otop->srcM s'.mv a=srcM s.mv a
theorem Ext.refl (s:MvS):Ext s s:=⟨⟨[],(List.append_nil _).symm⟩,Int.le_refl _,fun _ _=>rfl⟩
theorem Ext.trans {s s' s'':MvS} (h:Ext s s') (g:Ext s' s''):Ext s s'':=by
 obtain ⟨⟨e,he⟩,h2,h3⟩:=h
 obtain ⟨⟨f,hf⟩,g2,g3⟩:=g
 exact ⟨⟨e++f,by rw [hf,he,List.append_assoc]⟩,by omega,fun a ha=>(g3 a (by omega)).trans (h3 a ha)⟩
section
variable {d:LinkD} {h0:HeapD} {ts:List ThD} {s:MvS} {dn:Int->Prop}
theorem MvX.lens (r:Right d h0 ts) (x:MvX d h0 ts s dn):∀p∈s.mv,0<=p.2.len:=fun p hp=>by
 obtain ⟨t,ht,hy,-,-,e,-⟩:=x.fr p hp
 rw [e]
 exact (zuj r ht (zuk.1 hy).2).fit.lo
theorem MvX.srcLow (r:Right d h0 ts) (x:MvX d h0 ts s dn) {a:Int} (h:a<h0.otop):srcM s.mv a=a:=
 zuc fun p hp hc=>by have:=((zub x.laid (x.lens r)).2 p hp).1;omega
theorem MvX.low (r:Right d h0 ts) (x:MvX d h0 ts s dn) {a:Int} (h1:0<=a) (h2:a<=h0.young):wd s.h.words a=wd h0.words a:=by
 have z:=r.sized
 have z1:=z.young
 have z2:=z.old
 have z3:=z.len
 have z5:=z.otop
 rw [x.nay a h1 (by omega) (fun h=>by have:=(x.dn1 a h).1;omega),x.srcLow r (by omega)]
theorem zur:∀ {l:List (Int×ThD)} {lo hi:Int},Laid lo l hi->(l.map fun p=>3+p.2.len).sum=hi - lo
 | [],lo,hi,h=>by simp only [List.map_nil,List.sum_nil];have:lo=hi:=h;omega
 | q::r,lo,hi,h=>by
   rw [List.map_cons,List.sum_cons,zur h.2]
   have h1:=h.1
   have:q.2.fin=q.2.loc+3+q.2.len:=rfl
   omega
theorem zus (r:Right d h0 ts) (l:List Int) (hn:l.Nodup) (hs:∀a∈l,∃t∈ts,youngB h0 t.loc=true/\a=t.loc):(l.map fun a=>3+wd h0.words (a+1)).sum<=h0.ytop - 1:=by
 have z:=r.sized
 have z4:=z.ytop
 have z5:=z.otop
 obtain ⟨ys,os,e1,e2,rfl⟩:=zkn r.both
 have hin:∀u∈ys++os,youngB h0 u.loc=true->u∈ys:=fun u hu hyu=>by
  rcases List.mem_append.1 hu with hu | hu
  ·
   exact hu
  have:=(zkm e2 u hu).1
  have:=(zuk.1 hyu).2
  omega
 have hf:∀u∈ys,3+u.len=3+wd h0.words (u.loc+1):=fun u hu=>by
  have:=(zkm e1 u hu).2.2.1
  exact congrArg (3+ ·) (congrArg ThD.len this)
 have hs':=zup _ 1 ys (Nat.le_refl _) (by omega) e1
 have hle:=zuo (f:=fun a=>3+wd h0.words (a+1)) l (ys.map ThD.loc) hn (by
  intro a ha
  obtain ⟨u,hu,hyu,e⟩:=hs a ha
  exact List.mem_map.2 ⟨u,hin u hu hyu,e.symm⟩) (by
  intro a ha
  obtain ⟨u,hu,rfl⟩:=List.mem_map.1 ha
  show 0<=3+wd h0.words (u.loc+1)
  rw [<-hf u hu]
  have:=zeo (zkm e1 u hu).2.2.2.2
  omega)
 rw [List.map_map]at hle
 have c1:(ys.map ((fun a=>3+wd h0.words (a+1))∘ThD.loc)).sum=h0.ytop - 1:=by
  rw [<-hs']
  refine congrArg List.sum (List.map_congr_left fun u hu=>?_)
  exact (hf u hu).symm
 rw [c1]at hle
 exact hle
theorem MvX.sum (r:Right d h0 ts) (x:MvX d h0 ts s dn):(s.mv.map ((fun a=>3+wd h0.words (a+1))∘fun p=>p.1)).sum=s.h.otop - h0.otop:=by
 rw [<-zur x.laid]
 refine congrArg List.sum (List.map_congr_left fun p hp=>?_)
 obtain ⟨u,hu,hyu,e,-,el,-⟩:=x.fr p hp
 show 3+wd h0.words (p.1+1)=3+p.2.len
 rw [e,el]
 exact (congrArg (3+ ·) (congrArg ThD.len (zuj r hu (zuk.1 hyu).2).eq)).symm
theorem MvX.room (r:Right d h0 ts) (hl:0<=leftD h0) (x:MvX d h0 ts s dn) {t:ThD} (ht:t∈ts) (hy:youngB h0 t.loc=true) (hn:t.loc∉s.mv.map (·.1)):s.h.otop+3+t.len<=h0.words.length:=by
 have hle:=zus r (t.loc::s.mv.map (·.1)) (List.nodup_cons.2 ⟨hn,x.nd⟩) (by
  intro a ha
  rcases List.mem_cons.1 ha with rfl | ha
  ·
   exact ⟨t,ht,hy,rfl⟩
  obtain ⟨p,hp,rfl⟩:=List.mem_map.1 ha
  obtain ⟨u,hu,hyu,e,-⟩:=x.fr p hp
  exact ⟨u,hu,hyu,e⟩)
 rw [List.map_cons,List.sum_cons,List.map_map,x.sum r]at hle
 have c3:t.len=wd h0.words (t.loc+1):=congrArg ThD.len (zuj r ht (zuk.1 hy).2).eq
 unfold leftD at hl
 omega
theorem MvX.otopLe (r:Right d h0 ts) (hl:0<=leftD h0) (x:MvX d h0 ts s dn):s.h.otop<=h0.words.length:=by
 have hle:=zus r (s.mv.map (·.1)) x.nd (by
  intro a ha
  obtain ⟨p,hp,rfl⟩:=List.mem_map.1 ha
  obtain ⟨u,hu,hyu,e,-⟩:=x.fr p hp
  exact ⟨u,hu,hyu,e⟩)
 rw [List.map_map,x.sum r]at hle
 unfold leftD at hl
 omega
theorem MvX.otop (r:Right d h0 ts) (x:MvX d h0 ts s dn):h0.otop<=s.h.otop:=(zub x.laid (x.lens r)).1
theorem MvX.youngEq (x:MvX d h0 ts s dn) (v:Int):youngB s.h v=youngB h0 v:=by unfold youngB;rw [x.yo]
theorem MvX.move (r:Right d h0 ts) (hl:0<=leftD h0) (x:MvX d h0 ts s dn) {t:ThD} (ht:t∈ts) (hy:youngB h0 t.loc=true) (hn:t.loc∉s.mv.map (·.1)):MvX d h0 ts (s.move t) dn/\Ext s (s.move t):=by
 have z:=r.sized
 have z1:=z.young
 have z2:=z.old
 have z3:=z.len
 have z4:=z.ytop
 have z5:=z.otop
 have y:=zuj r ht (zuk.1 hy).2
 have y1:=y.lo
 have y2:=y.fin
 have y3:=y.fit.lo
 have y4:t.fin=t.loc+3+t.len:=rfl
 have hr:=x.room r hl ht hy hn
 have ho:=x.otop r
 have hxl:=x.len
 have hnum:(s.h.otop.toNat:Int)=s.h.otop:=by omega
 have hsl:(segL s.h.words t.loc.toNat (t.len+3).toNat).length=(t.len+3).toNat:=zt5 (by omega)
 have hfit:s.h.otop.toNat+(segL s.h.words t.loc.toNat (t.len+3).toNat).length<=s.h.words.length:=by omega
 have hla:Laid h0.otop (s.mv++ [(t.loc,⟨s.h.otop,t.tag,t.len,t.hash⟩)]) (s.h.otop+3+t.len):=zua (p:=(t.loc,⟨s.h.otop,t.tag,t.len,t.hash⟩)) x.laid rfl
 have hfr:∀p∈s.mv++ [(t.loc,(⟨s.h.otop,t.tag,t.len,t.hash⟩:ThD))],∃t∈ts,youngB h0 t.loc=true/\p.1=t.loc/\p.2.tag=t.tag/\p.2.len=t.len/\p.2.hash=t.hash:=by
  intro p hp
  rcases List.mem_append.1 hp with hp | hp
  ·
   exact x.fr p hp
  rw [List.mem_singleton]at hp
  subst hp
  exact ⟨t,ht,hy,rfl,rfl,rfl,rfl⟩
 have hlens:∀p∈s.mv++ [(t.loc,(⟨s.h.otop,t.tag,t.len,t.hash⟩:ThD))],0<=p.2.len:=by
  intro p hp
  rcases List.mem_append.1 hp with hp | hp
  ·
   exact x.lens r p hp
  rw [List.mem_singleton]at hp
  subst hp
  exact y3
 have hsrc:∀a,¬(s.h.otop<=a/\a<s.h.otop+3+t.len)->srcM (s.mv++ [(t.loc,⟨s.h.otop,t.tag,t.len,t.hash⟩)]) a=srcM s.mv a:=fun a ha=>zue ha
 have hturn:∀v,(youngB h0 v=true->v∈s.mv.map (·.1))->turnM (s.mv++ [(t.loc,⟨s.h.otop,t.tag,t.len,t.hash⟩)]) v=turnM s.mv v:=by
  intro v hv
  unfold turnM
  rw [zt9,if_neg (fun e=>hn (by have e:t.loc=v:=e;rw [e];exact hv (e ▸ hy)))]
 have hwo:∀a,0<=a->¬(s.h.otop<=a/\a<s.h.otop+3+t.len)->wd (s.move t).h.words a=wd s.h.words a:=fun a h0 ha=>zt8 hfit h0 (by omega)
 refine ⟨⟨(zt4 hfit).trans x.len,x.yo,x.ol,x.yt,x.no,x.nx,hfr,hla,?_,?_,?_,?_⟩,⟨_,rfl⟩,by show s.h.otop<=s.h.otop+3+t.len;omega,fun a ha=>hsrc a (by omega)⟩
 ·
  show ((s.mv++ [(t.loc,(⟨s.h.otop,t.tag,t.len,t.hash⟩:ThD))]).map (·.1)).Nodup
  rw [List.map_append,List.map_cons,List.map_nil]
  refine List.nodup_append.2 ⟨x.nd,by simp,?_⟩
  intro a ha b hb e
  rw [List.mem_singleton]at hb
  subst hb
  subst e
  exact hn ha
 ·
  intro a a0 al hd
  have h1:=x.dn1 a hd
  rw [hwo a a0 (by omega),x.yes a a0 al hd]
  show _=turnM (s.mv++ [_]) (wd h0.words (srcM (s.mv++ [_]) a))
  rw [hsrc a (by omega),hturn _ h1.2.2]
 ·
  intro a a0 al hd
  by_cases hin:s.h.otop<=a/\a<s.h.otop+3+t.len
  ·
   have e1:srcM (s.move t).mv a=t.loc+(a - s.h.otop):=zud (p:=(t.loc,⟨s.h.otop,t.tag,t.len,t.hash⟩)) hin.1 hin.2 hla hlens (List.mem_append_right _ (List.mem_singleton.2 rfl))
   rw [e1]
   have e2:wd (s.move t).h.words a=wd (segL s.h.words t.loc.toNat (t.len+3).toNat) (a - s.h.otop.toNat):=zt7 (by omega) (by omega) (by omega)
   rw [e2,zt6 (by omega) (by omega),show ((t.loc.toNat:Int)+(a - s.h.otop.toNat))=t.loc+(a - s.h.otop) by omega]
   exact x.low r (by omega) (by omega)
  rw [hwo a a0 hin,x.nay a a0 al hd]
  show _=wd h0.words (srcM (s.mv++ [_]) a)
  rw [hsrc a hin]
 intro a hd
 have h1:=x.dn1 a hd
 refine ⟨h1.1,by show a<s.h.otop+3+t.len;omega,?_⟩
 show youngB h0 (wd h0.words (srcM (s.mv++ [_]) a))=true->wd h0.words (srcM (s.mv++ [_]) a)∈(s.mv++ [(t.loc,(⟨s.h.otop,t.tag,t.len,t.hash⟩:ThD))]).map (fun p:Int×ThD=>p.1)
 rw [hsrc a (by omega),List.map_append]
 exact fun h=>List.mem_append_left _ (h1.2.2 h)
theorem MvX.thEq (r:Right d h0 ts) (x:MvX d h0 ts s dn) {t:ThD} (ht:t∈ts) (hy:youngB h0 t.loc=true):thAt s.h.words t.loc=t:=by
 have z4:=r.sized.ytop
 have y:=zuj r ht (zuk.1 hy).2
 have y1:=y.lo
 have y2:=y.fin
 have y3:=y.fit.lo
 have y4:t.fin=t.loc+3+t.len:=rfl
 have e:thAt s.h.words t.loc=thAt h0.words t.loc:=by
  unfold thAt
  rw [x.low r (a:=t.loc) (by omega) (by omega),x.low r (a:=t.loc+1) (by omega) (by omega),x.low r (a:=t.loc+2) (by omega) (by omega)]
 exact e.trans y.eq.symm
theorem MvX.lead (r:Right d h0 ts) (hl:0<=leftD h0) (x:MvX d h0 ts s dn) {v:Int} (hv:leadB ts v=true):
 MvX d h0 ts (s.lead v) dn/\Ext s (s.lead v)/\s.dst v=turnM (s.lead v).mv v/\(youngB h0 v=true->v∈(s.lead v).mv.map (·.1)):=by
 unfold MvS.lead MvS.dst
 rw [x.youngEq]
 cases hy:youngB h0 v with
 | false=>
   simp only [Bool.false_and,Bool.false_eq_true,if_false]
   refine ⟨x,Ext.refl _,?_,fun h=>h.elim⟩
   unfold turnM
   rw [zuf]
   ·
    rfl
   intro h
   obtain ⟨p,hp,rfl⟩:=List.mem_map.1 h
   obtain ⟨t,_,ht,e,-⟩:=x.fr p hp
   rw [e,ht]at hy
   cases hy
 | true=>
   cases hn:nowAt s.mv v with
   | some tt=>
     simp only [Option.isNone_some,Bool.and_false,Bool.false_eq_true,if_false,if_true,Option.getD_some,forall_const]
     refine ⟨x,Ext.refl _,?_,zui.1 (by rw [hn];rfl)⟩
     unfold turnM
     rw [hn]
     rfl
   | none=>
     simp only [Option.isNone_none,Bool.and_self,if_true,Option.getD_none,forall_const]
     have hy':=zuk.1 hy
     obtain ⟨t,ht,rfl⟩:=zul hv (by omega)
     have hni:t.loc∉s.mv.map (·.1):=fun h=>by have:=zui.2 h;rw [hn]at this;cases this
     rw [x.thEq r ht hy]
     have h1:=x.move r hl ht hy hni
     refine ⟨h1.1,h1.2,?_,?_⟩
     ·
      unfold turnM MvS.move
      rw [zt9,if_pos rfl]
      rfl
     show t.loc∈(s.mv++ [(t.loc,(⟨s.h.otop,t.tag,t.len,t.hash⟩:ThD))]).map (fun p:Int×ThD=>p.1)
     rw [List.map_append]
     exact List.mem_append_right _ (List.mem_singleton.2 rfl)
theorem MvX.put (r:Right d h0 ts) (x:MvX d h0 ts s dn) {a:Int} (h1:h0.young<a) (h2:a<s.h.otop) (h3:a<h0.words.length) (hv:youngB h0 (wd h0.words (srcM s.mv a))=true->wd h0.words (srcM s.mv a)∈s.mv.map (·.1)):
 MvX d h0 ts (s.put a (turnM s.mv (wd h0.words (srcM s.mv a)))) (fun b=>dn b\/b=a):=by
 have z1:=r.sized.young
 have hlen:=x.len
 have ea:((a.toNat:Nat):Int)=a:=by omega
 have hset:wd (s.h.words.set a.toNat (turnM s.mv (wd h0.words (srcM s.mv a)))) a=turnM s.mv (wd h0.words (srcM s.mv a)):=by
  have:=zlk (ws:=s.h.words) (m:=a.toNat) (v:=turnM s.mv (wd h0.words (srcM s.mv a))) (by omega)
  rwa [ea]at this
 refine ⟨(List.length_set ..).trans x.len,x.yo,x.ol,x.yt,x.no,x.nx,x.fr,x.laid,x.nd,?_,?_,?_⟩
 ·
  intro b b0 bl hd
  by_cases e:b=a
  ·
   subst e
   exact hset
  rcases hd with hd | hd
  ·
   exact (zlj (by omega)).trans (x.yes b b0 bl hd)
  exact absurd hd e
 ·
  intro b b0 bl hd
  rw [not_or]at hd
  exact (zlj (by omega)).trans (x.nay b b0 bl hd.1)
 rintro b (hd | rfl)
 ·
  exact x.dn1 b hd
 exact ⟨h1,h2,hv⟩
end
section
variable {d:LinkD} {h0:HeapD} {ts:List ThD} {s:MvS} {dn:Int->Prop}
theorem MvX.iff {dn':Int->Prop} (x:MvX d h0 ts s dn) (h:∀a,dn a↔dn' a):MvX d h0 ts s dn':=by
 have:dn=dn':=funext fun a=>propext (h a)
 rw [<-this]
 exact x
theorem MvX.ref (r:Right d h0 ts) (hl:0<=leftD h0) (x:MvX d h0 ts s dn) {a:Int} (hd:¬dn a) (h1:h0.young<a) (h2:a<s.h.otop) (hv:leadB ts (wd h0.words (srcM s.mv a))=true):
 MvX d h0 ts (s.ref a) (fun b=>dn b\/b=a)/\Ext s (s.ref a):=by
 have z1:=r.sized.young
 have ho:=x.otopLe r hl
 have e:=x.nay a (by omega) (by omega) hd
 unfold MvS.ref
 rw [e]
 obtain ⟨y1,y2,y3,y4⟩:=x.lead r hl hv
 have es:=y2.2.2 a h2
 rw [y3]
 have hp:=y1.put r h1 (Int.lt_of_lt_of_le h2 y2.2.1) (by omega) (by rw [es];exact y4)
 rw [es]at hp
 exact ⟨hp,y2⟩
theorem MvX.refs (r:Right d h0 ts) (hl:0<=leftD h0):∀(l:List Int) (s:MvS) (dn:Int->Prop),MvX d h0 ts s dn->l.Nodup->(∀a∈l,¬dn a/\h0.young<a/\a<s.h.otop/\leadB ts (wd h0.words (srcM s.mv a))=true)->MvX d h0 ts (s.refs l) (fun b=>dn b\/b∈l)/\Ext s (s.refs l)
 | [],s,dn,x,_,_=>⟨x.iff fun a=>⟨Or.inl,fun h=>h.elim id fun h=>by cases h⟩,Ext.refl _⟩
 | a::l,s,dn,x,hn,h=>by
   rw [List.nodup_cons]at hn
   obtain ⟨a1,a2,a3,a4⟩:=h a (List.mem_cons_self ..)
   obtain ⟨y,ey⟩:=x.ref r hl a1 a2 a3 a4
   obtain ⟨z,ez⟩:=MvX.refs r hl l (s.ref a) _ y hn.2 (fun b hb=>by
    obtain ⟨b1,b2,b3,b4⟩:=h b (List.mem_cons_of_mem _ hb)
    refine ⟨?_,b2,Int.lt_of_lt_of_le b3 ey.2.1,by rw [ey.2.2 b b3];exact b4⟩
    rintro (h | rfl)
    ·
     exact b1 h
    exact hn.1 hb)
   refine ⟨z.iff fun b=>?_,ey.trans ez⟩
   rw [List.mem_cons,or_assoc]
theorem MvX.roots (r:Right d h0 ts) (hl:0<=leftD h0):∀(rs:List Int) (s:MvS) (dn:Int->Prop),MvX d h0 ts s dn->(∀v∈rs,leadB ts v=true)->MvX d h0 ts (s.roots rs) dn/\Ext s (s.roots rs)
 | [],s,dn,x,_=>⟨x,Ext.refl _⟩
 | v::rs,s,dn,x,h=>by
   obtain ⟨y,ey,-⟩:=x.lead r hl (h v (List.mem_cons_self ..))
   obtain ⟨z,ez⟩:=MvX.roots r hl rs (s.lead v) dn y fun u hu=>h u (List.mem_cons_of_mem _ hu)
   exact ⟨z,ey.trans ez⟩
theorem zuu (r:Right d h0 ts) {x:ThD} (hx:x∈ts) {a:Int} (ha:a∈refsOf d.fields x):leadB ts (wd h0.words a)=true:=by
 have h:=r.lead
 rw [List.any_eq_false]at h
 have h1:=h x hx
 unfold hasRefB at h1
 rw [Bool.not_eq_true,List.any_eq_false]at h1
 have h2:¬(!leadB ts (wd h0.words a))=true:=h1 a ha
 cases hc:leadB ts (wd h0.words a)with
 | true=>rfl
 | false=>rw [hc]at h2;exact absurd rfl h2
theorem zuv (r:Right d h0 ts) {x:ThD} (hx:x∈ts) (ho:h0.young<x.loc):h0.young<x.loc/\x.fin<=h0.otop/\x=thAt h0.words x.loc/\FitT d x/\∀a∈refsOf d.fields x,x.loc+3<=a/\a<x.fin:=by
 have z:=r.sized
 obtain ⟨ys,os,e1,e2,hts⟩:=zkn r.both
 have h1:=z.ytop
 have h2:=z.otop
 have h3:=z.young
 have h4:=z.old
 have q:ReadAt d h0 (h0.young+1) h0.otop x:=by
  rw [hts]at hx
  rcases List.mem_append.1 hx with hx | hx
  ·
   have:=zkm e1 x hx
   have:=this.2.1
   have h5:=zeo (zkm e1 x hx).2.2.2.2
   have:x.fin=x.loc+3+x.len:=rfl
   omega
  exact zkm e2 x hx
 refine ⟨ho,q.2.1,q.2.2.1,zko (zkh r.ok) q (by omega) (by omega),fun a ha=>?_⟩
 obtain ⟨n,e,hn,-⟩:=zs7 ha
 have:x.fin=x.loc+3+x.len:=rfl
 omega
theorem MvX.count (r:Right d h0 ts) (hl:0<=leftD h0) (x:MvX d h0 ts s dn):s.mv.length<h0.words.length:=by
 have hs:=zur x.laid
 have ho:=x.otopLe r hl
 have z:=r.sized
 have z1:=z.young
 have z5:=z.otop
 have hle:(s.mv.length:Int)<=(s.mv.map fun p=>3+p.2.len).sum:=by
  have aux:∀l:List (Int×ThD),(∀p∈l,0<=p.2.len)->(l.length:Int)<=(l.map fun p=>3+p.2.len).sum:=by
   intro l
   induction l with
   | nil=>intro _;exact Int.le_refl _
   | cons q l ih=>
     intro h
     have h1:=ih fun p hp=>h p (List.mem_cons_of_mem _ hp)
     have h2:=h q (List.mem_cons_self ..)
     rw [List.map_cons,List.sum_cons,List.length_cons]
     omega
  exact aux _ (x.lens r)
 omega
end
structure NwD (mv:List (Int×ThD)) (D:DataW Unit):Prop where
 has:∀n,Maps.has D (ikey n)=(nowAt mv n).isSome
 at_:∀n t z,nowAt mv n=some t->D.atKey (ikey n) z=.lit (.int .i64 t)
 no:∀n z,nowAt mv n=none->D.atKey (ikey n) z=z
def NwMap (w:World) (b:Nat) (mv:List (Int×ThD)):Prop:=∃D:DataW Unit,w.ownsMap Tryz.prog 3 (plainElem Tryz.prog 3) b mv.length D/\NwD mv D
theorem NwMap.lt {w:World} {b:Nat} {mv:List (Int×ThD)} (h:NwMap w b mv):b<w.heap.size:=by
 obtain ⟨D,h,_⟩:=h
 exact h.lt
theorem NwMap.kept {w w':World} {b:Nat} {mv:List (Int×ThD)} (h:NwMap w b mv) {row:Option Nat} (hg:w.grownBy w' row) (hne:some b≠row):NwMap w' b mv:=by
 obtain ⟨D,h,hd⟩:=h
 exact ⟨D,h.kept hg hne,hd⟩
theorem NwMap.below {B:Nat} {w w':World} {b:Nat} {mv:List (Int×ThD)} (h:NwMap w b mv) (hb:Below B w w') (hB:b<B):NwMap w' b mv:=by
 obtain ⟨D,⟨es,clock,e,h⟩,hd⟩:=h
 exact ⟨D,⟨es,clock,(hb.block b hB).trans e,h⟩,hd⟩
def sepB (l:List (Option Nat)):Prop:=l.Pairwise fun a b=>∀k,a=some k->b≠some k
theorem zu6 {l:List (Option Nat)} (h:sepB l) {i j k:Nat} (hij:i<j) (hi:l[i]? =some (some k)):l[j]? ≠some (some k):=by
 intro hj
 obtain ⟨h1,e1⟩:=List.getElem?_eq_some_iff.1 hi
 obtain ⟨h2,e2⟩:=List.getElem?_eq_some_iff.1 hj
 exact List.pairwise_iff_getElem.1 h i j h1 h2 hij k e1 e2
theorem zu7 {l:List (Option Nat)} (h:sepB l) {i j k:Nat} (hij:i<j) (hj:l[j]? =some (some k)):l[i]? ≠some (some k):=fun hi=>zu6 h hij hi hj
structure Mo (b B:Nat) (w:World) (T M X:Nat) (nW nO nR gv kC kS kF kN kT:Value) (h:HeapD) (m g:List (Int×ThD)) (rs:List Int) (d:LinkD):Prop where
 blk:w.heap[T]? =some (.cells #[nW,.int .i64 h.young,.int .i64 h.old,.int .i64 h.ytop,.int .i64 h.otop,nO,.int .i64 h.next,kC,kS,kF,kN,kT,nR] 131 (0,0))
 mvr:w.heap[M]? =some (.cells #[.pointer (some ⟨T,0,none⟩),.map (some X),gv] 196 (0,0))
 rW:w.ownsRow b 3 1 nW h.words.length (intV h.words)
 rO:w.ownsRow b 3 1 nO h.noted.length (intV h.noted)
 rR:w.ownsRow b 3 1 nR rs.length (intV rs)
 rG:w.ownsRow b 101 4 gv g.length (thCells (g.map (·.2)))
 mp:NwMap w X m
 lk:RLk (· <B) w kC kS kF kN kT d
 le:B<=b
 bT:b<=T
 bM:b<=M
 bX:b<=X
 sep:sepB [some T,some M,some X,nW.ownBlock,nO.ownBlock,nR.ownBlock,gv.ownBlock]
theorem Mo.below {b B T M X:Nat} {w:World} {nW nO nR gv kC kS kF kN kT:Value} {h:HeapD} {m g:List (Int×ThD)} {rs:List Int} {d:LinkD} (o:Mo b B w T M X nW nO nR gv kC kS kF kN kT h m g rs d) {w':World} (hb:Below w.heap.size w w'):Mo b B w' T M X nW nO nR gv kC kS kF kN kT h m g rs d:=
 have lT:=lt0 o.blk
 ⟨(hb.block _ lT).trans o.blk,(hb.block _ (lt0 o.mvr)).trans o.mvr,zhj o.rW hb,zhj o.rO hb,zhj o.rR hb,zhj o.rG hb,o.mp.below hb o.mp.lt,o.lk.kept (Kp.below (hb.mono (by have:=o.le;have:=o.bT;omega))),o.le,o.bT,o.bM,o.bX,o.sep⟩
theorem Mo.gd {b B T M X:Nat} {w:World} {nW nO nR gv kC kS kF kN kT:Value} {h:HeapD} {m g:List (Int×ThD)} {rs:List Int} {d:LinkD} (o:Mo b B w T M X nW nO nR gv kC kS kF kN kT h m g rs d) (h1:h.words.length<=1000000) (h2:h.noted.length<=1000000):Gd w.heap.size w T nW nO kC kS kF kN kT h d:=
 have hl:=lt0 o.blk
 have hm:∀k,k<B->k<w.heap.size:=fun k hk=>by have:=o.le;have:=o.bT;omega
 ⟨hl,Nat.le_refl _,cl0 o.blk 0 rfl,cl0 o.blk 1 rfl,cl0 o.blk 2 rfl,cl0 o.blk 3 rfl,cl0 o.blk 4 rfl,cl0 o.blk 5 rfl,cl0 o.blk 6 rfl,cl0 o.blk 7 rfl,cl0 o.blk 8 rfl,cl0 o.blk 9 rfl,cl0 o.blk 10 rfl,cl0 o.blk 11 rfl,(zfb o.rW h1).monoI fun k hk=>hk.lt,(zfb o.rO h2).monoI fun k hk=>hk.lt,o.lk.mono hm⟩
theorem Mo.lkUp {b B T M X:Nat} {w:World} {nW nO nR gv kC kS kF kN kT:Value} {h:HeapD} {m g:List (Int×ThD)} {rs:List Int} {d:LinkD} (o:Mo b B w T M X nW nO nR gv kC kS kF kN kT h m g rs d) {w':World} {k:Nat} (hg:w.grownBy w' (some k)) (hk:b<=k):RLk (· <B) w' kC kS kF kN kT d:=o.lk.kept ⟨hg.size,fun j hj hl=>hg.block j hl (by have:=o.le;have:=hj;intro e;injection e;omega)⟩
theorem Mo.words {b B T M X:Nat} {w:World} {nW nO nR gv kC kS kF kN kT:Value} {h:HeapD} {m g:List (Int×ThD)} {rs:List Int} {d:LinkD} (o:Mo b B w T M X nW nO nR gv kC kS kF kN kT h m g rs d) {w':World} {k:Nat} {ws:List Int} (hk:nW.ownBlock=some k) (hg:w.grownBy w' (some k)) (hr:w'.ownsRow b 3 1 nW ws.length (intV ws)):Mo b B w' T M X nW nO nR gv kC kS kF kN kT ⟨ws,h.young,h.old,h.ytop,h.otop,h.noted,h.next⟩ m g rs d/\Below b w w':=
 have hb:b<=k:=(o.rW.lt k hk).1
 have hi: [some T,some M,some X,nW.ownBlock,nO.ownBlock,nR.ownBlock,gv.ownBlock][3]? =some (some k):=congrArg some hk
 ⟨⟨(hg.block T (lt0 o.blk) (fun e=>zu7 o.sep (i:=0) (by decide) hi (congrArg some e))).trans o.blk,(hg.block M (lt0 o.mvr) (fun e=>zu7 o.sep (i:=1) (by decide) hi (congrArg some e))).trans o.mvr,hr,o.rO.kept hg (Or.inr fun e=>zu6 o.sep (j:=4) (by decide) hi (congrArg some e)),o.rR.kept hg (Or.inr fun e=>zu6 o.sep (j:=5) (by decide) hi (congrArg some e)),o.rG.kept hg (Or.inr fun e=>zu6 o.sep (j:=6) (by decide) hi (congrArg some e)),o.mp.kept hg (fun e=>zu7 o.sep (i:=2) (by decide) hi (congrArg some e)),o.lkUp hg hb,o.le,o.bT,o.bM,o.bX,o.sep⟩,(Below.refl b w).grown hg (by have:=lt0 o.blk;have:=o.bT;omega) (fun j e=>by cases e;exact hb)⟩
theorem Mo.map {b B T M X:Nat} {w:World} {nW nO nR gv kC kS kF kN kT:Value} {h:HeapD} {m g:List (Int×ThD)} {rs:List Int} {d:LinkD} (o:Mo b B w T M X nW nO nR gv kC kS kF kN kT h m g rs d) {w':World} {m':List (Int×ThD)} (hg:w.grownBy w' (some X)) (hr:NwMap w' X m'):Mo b B w' T M X nW nO nR gv kC kS kF kN kT h m' g rs d/\Below b w w':=
 have hi: [some T,some M,some X,nW.ownBlock,nO.ownBlock,nR.ownBlock,gv.ownBlock][2]? =some (some X):=rfl
 ⟨⟨(hg.block T (lt0 o.blk) (fun e=>zu7 o.sep (i:=0) (by decide) hi (congrArg some e))).trans o.blk,(hg.block M (lt0 o.mvr) (fun e=>zu7 o.sep (i:=1) (by decide) hi (congrArg some e))).trans o.mvr,o.rW.kept hg (Or.inr fun e=>zu6 o.sep (j:=3) (by decide) hi (congrArg some e)),o.rO.kept hg (Or.inr fun e=>zu6 o.sep (j:=4) (by decide) hi (congrArg some e)),o.rR.kept hg (Or.inr fun e=>zu6 o.sep (j:=5) (by decide) hi (congrArg some e)),o.rG.kept hg (Or.inr fun e=>zu6 o.sep (j:=6) (by decide) hi (congrArg some e)),hr,o.lkUp hg o.bX,o.le,o.bT,o.bM,o.bX,o.sep⟩,(Below.refl b w).grown hg (by have:=lt0 o.blk;have:=o.bT;omega) (fun j e=>by cases e;exact o.bX)⟩
theorem Mo.task {b B T M X:Nat} {w:World} {nW nO nR gv kC kS kF kN kT:Value} {h:HeapD} {m g:List (Int×ThD)} {rs:List Int} {d:LinkD} (o:Mo b B w T M X nW nO nR gv kC kS kF kN kT h m g rs d) {w':World} {h':HeapD} {nO':Value} (hg:w.grownBy w' (some T)) (hb:w'.heap[T]? =some (.cells #[nW,.int .i64 h'.young,.int .i64 h'.old,.int .i64 h'.ytop,.int .i64 h'.otop,nO',.int .i64 h'.next,kC,kS,kF,kN,kT,nR] 131 (0,0))) (hw:h'.words=h.words) (ho:w'.ownsRow b 3 1 nO' h'.noted.length (intV h'.noted)) (hn:nO'=nO\/nO'.ownBlock=none):Mo b B w' T M X nW nO' nR gv kC kS kF kN kT h' m g rs d/\Below b w w':=
 have hi: [some T,some M,some X,nW.ownBlock,nO.ownBlock,nR.ownBlock,gv.ownBlock][0]? =some (some T):=rfl
 have hs:sepB [some T,some M,some X,nW.ownBlock,nO'.ownBlock,nR.ownBlock,gv.ownBlock]:=by
  rcases hn with rfl | hn
  ·
   exact o.sep
  have:=o.sep
  unfold sepB at this ⊢
  rw [hn]
  simp only [List.pairwise_cons,List.mem_cons,List.not_mem_nil,or_false,forall_eq_or_imp,forall_eq,List.Pairwise.nil,and_true,false_implies,implies_true]at this ⊢
  refine ⟨⟨this.1.1,this.1.2.1,this.1.2.2.1,fun _ _ e=>(by cases e),this.1.2.2.2.2⟩,⟨this.2.1.1,this.2.1.2.1,fun _ _ e=>(by cases e),this.2.1.2.2.2⟩,⟨this.2.2.1.1,fun _ _ e=>(by cases e),this.2.2.1.2.2⟩,⟨fun _ _ e=>(by cases e),this.2.2.2.1.2⟩,⟨fun _ e=>(by cases e),fun _ e=>(by cases e)⟩,this.2.2.2.2.2⟩
 ⟨⟨hb,(hg.block M (lt0 o.mvr) (fun e=>zu6 o.sep (j:=1) (by decide) hi (congrArg some e))).trans o.mvr,hw ▸ o.rW.kept hg (Or.inr fun e=>zu6 o.sep (j:=3) (by decide) hi (congrArg some e)),ho,o.rR.kept hg (Or.inr fun e=>zu6 o.sep (j:=5) (by decide) hi (congrArg some e)),o.rG.kept hg (Or.inr fun e=>zu6 o.sep (j:=6) (by decide) hi (congrArg some e)),o.mp.kept hg (fun e=>zu6 o.sep (j:=2) (by decide) hi (congrArg some e)),o.lkUp hg o.bT,o.le,o.bT,o.bM,o.bX,hs⟩,(Below.refl b w).grown hg (by have:=lt0 o.blk;have:=o.bT;omega) (fun j e=>by cases e;exact o.bT)⟩
structure Mvd (L T M X:Nat) (nW gv:Value) (w:World) (gv':Value) (w':World):Prop where
 os:w'.os=w.os
 tape:w'.tape=w.tape
 output:w'.output=w.output
 size:w.heap.size<=w'.heap.size
 block:∀k,k<L->k<w.heap.size->k≠T->k≠M->k≠X->nW.ownBlock≠some k->gv.ownBlock≠some k->w'.heap[k]? =w.heap[k]?
 gv:∀j,gv'.ownBlock=some j->gv.ownBlock=some j\/L<=j
theorem Mvd.trans {L T M X:Nat} {nW g1 g2 g3:Value} {w1 w2 w3:World} (h:Mvd L T M X nW g1 w1 g2 w2) (k:Mvd L T M X nW g2 w2 g3 w3):Mvd L T M X nW g1 w1 g3 w3:=
 ⟨k.os.trans h.os,k.tape.trans h.tape,k.output.trans h.output,Nat.le_trans h.size k.size,fun j hj hl a b c e f=>(k.block j hj (Nat.lt_of_lt_of_le hl h.size) a b c e (fun q=>by
  rcases h.gv j q with q | q
  ·
   exact f q
  ·
   omega)).trans (h.block j hj hl a b c e f),fun j e=>by
  rcases k.gv j e with e | e
  ·
   exact h.gv j e
  exact Or.inr e⟩
theorem Mvd.mono {L L' T M X:Nat} {nW g1 g2:Value} {w1 w2:World} (h:Mvd L T M X nW g1 w1 g2 w2) (hl:L'<=L):Mvd L' T M X nW g1 w1 g2 w2:=
 ⟨h.os,h.tape,h.output,h.size,fun j hj=>h.block j (by omega),fun j e=>(h.gv j e).imp id fun e=>by omega⟩
theorem Mvd.ofBelow {L T M X:Nat} {nW gv:Value} {w w':World} (h:Below L w w'):Mvd L T M X nW gv w gv w':=⟨h.os,h.tape,h.output,h.size,fun j hj _ _ _ _ _ _=>h.block j hj,fun _ e=>Or.inl e⟩
theorem Mvd.ofGrown {L T M X k:Nat} {nW gv:Value} {w w':World} (h:w.grownBy w' (some k)) (hk:k=T\/k=M\/k=X\/nW.ownBlock=some k\/L<=k):Mvd L T M X nW gv w gv w':=
 ⟨h.os,h.tape,h.output,h.size,fun j hj hl a b c e _=>h.block j hl (fun q=>by
  have q:=Option.some.inj q
  subst q
  rcases hk with q | q | q | q | q
  ·
   exact a q
  ·
   exact b q
  ·
   exact c q
  ·
   exact e q
  omega),fun _ e=>Or.inl e⟩
theorem Mo.more {b B T M X:Nat} {w:World} {nW nO nR gv kC kS kF kN kT:Value} {h:HeapD} {m g:List (Int×ThD)} {rs:List Int} {d:LinkD} (o:Mo b B w T M X nW nO nR gv kC kS kF kN kT h m g rs d) {w1 w':World} {q:Int×ThD} {gA cA:Nat} (hg:w.grownBy w1 gv.ownBlock) (hr:w1.ownsRow b 101 4 (.slice (some ⟨gA,0,none⟩) (g.length+1) cA) (g.length+1) (thCells (g.map (·.2))++ [.int .i64 q.2.loc,.int .i64 q.2.tag,.int .i64 q.2.len,.int .i64 q.2.hash])) (hA:gv.ownBlock=some gA\/w.heap.size<=gA) (hw:w'=w1.setCell ⟨M,2,none⟩ (.slice (some ⟨gA,0,none⟩) (g.length+1) cA)):
 Mo b B w' T M X nW nO nR (.slice (some ⟨gA,0,none⟩) (g.length+1) cA) kC kS kF kN kT h m (g++ [q]) rs d/\Below b w w'/\∀L,L<=w.heap.size->Mvd L T M X nW gv w (.slice (some ⟨gA,0,none⟩) (g.length+1) cA) w':=by
 have lT:=lt0 o.blk
 have lM:=lt0 o.mvr
 have lX:=o.mp.lt
 have hne:∀(k i:Nat),i<6-> [some T,some M,some X,nW.ownBlock,nO.ownBlock,nR.ownBlock,gv.ownBlock][i]? =some (some k)->gv.ownBlock≠some k:=fun k i hi e e2=>zu6 o.sep (j:=6) hi e (congrArg some e2)
 have hAne:∀(k i:Nat),i<6-> [some T,some M,some X,nW.ownBlock,nO.ownBlock,nR.ownBlock,gv.ownBlock][i]? =some (some k)->k<w.heap.size->gA≠k:=fun k i hi e hk e2=>by
  rcases hA with h1 | h1
  ·
   exact hne k i hi e (by rw [h1,e2])
  omega
 have k1:w1.heap[M]? =some (.cells #[.pointer (some ⟨T,0,none⟩),.map (some X),gv] 196 (0,0)):=(hg.block M lM (fun e=>hne M 1 (by decide) rfl e.symm)).trans o.mvr
 have hg2:w1.grownBy w' (some M):=hw ▸ za8 (World.grownBy.refl _ _) _ _ (Or.inl rfl)
 have k2:w'.heap[M]? =some (.cells #[.pointer (some ⟨T,0,none⟩),.map (some X),.slice (some ⟨gA,0,none⟩) (g.length+1) cA] 196 (0,0)):=hw ▸ zg6 k1 _
 have hs1:=hg.size
 have hMW:nW.ownBlock≠some M:=fun e=>zu6 o.sep (i:=1) (j:=3) (by decide) rfl (congrArg some e)
 have hMO:nO.ownBlock≠some M:=fun e=>zu6 o.sep (i:=1) (j:=4) (by decide) rfl (congrArg some e)
 have hMR:nR.ownBlock≠some M:=fun e=>zu6 o.sep (i:=1) (j:=5) (by decide) rfl (congrArg some e)
 have hMT:T≠M:=fun e=>zu6 o.sep (i:=0) (j:=1) (by decide) rfl (by rw [e];rfl)
 have hMX:X≠M:=fun e=>zu6 o.sep (i:=1) (j:=2) (by decide) rfl (by rw [e];rfl)
 have hrow:∀ {v:Value} {l:List Int} (i:Nat),i<6-> [some T,some M,some X,nW.ownBlock,nO.ownBlock,nR.ownBlock,gv.ownBlock][i]? =some v.ownBlock->w.ownsRow b 3 1 v l.length (intV l)->v.ownBlock≠some M->w'.ownsRow b 3 1 v l.length (intV l):=fun {v l} i hi e ho hm=>by
  refine World.ownsRow.kept (World.ownsRow.kept ho hg ?_) hg2 (Or.inr hm)
  cases hv:v.ownBlock with
  | none=>exact Or.inl rfl
  | some k=>exact Or.inr fun e2=>hne k i hi (by rw [e,hv]) e2.symm
 have hbl:b<=w.heap.size:=by have:=o.bT;omega
 have hgb:∀k,gv.ownBlock=some k->b<=k:=fun k e=>(o.rG.lt k e).1
 have hB1:Below b w w1:=(Below.refl b w).grown hg hbl hgb
 have hlA:=hr.lt gA rfl
 refine ⟨⟨(hg2.block T (by omega) (fun e=>hMT (Option.some.inj e))).trans ((hg.block T lT (fun e=>hne T 0 (by decide) rfl e.symm)).trans o.blk),k2,hrow 3 (by decide) rfl o.rW hMW,hrow 4 (by decide) rfl o.rO hMO,hrow 5 (by decide) rfl o.rR hMR,?_,(o.mp.kept hg (fun e=>hne X 2 (by decide) rfl e.symm)).kept hg2 (fun e=>hMX (Option.some.inj e)),o.lk.kept (Kp.below ((hB1.grown hg2 (by omega) (fun j e=>by cases e;exact o.bM)).mono o.le)),o.le,o.bT,o.bM,o.bX,?_⟩,hB1.grown hg2 (by omega) (fun j e=>by cases e;exact o.bM),fun L hL=>⟨hg2.os.trans hg.os,hg2.tape.trans hg.tape,hg2.output.trans hg.output,Nat.le_trans hg.size hg2.size,fun j hj hl _ b _ _ f=>(hg2.block j (by omega) (fun e=>b (Option.some.inj e))).trans (hg.block j hl (fun e=>f e.symm)),fun j e=>by
  have e:gA=j:=Option.some.inj e
  rcases hA with q | q
  ·
   exact Or.inl (by rw [q,e])
  exact Or.inr (by omega)⟩⟩
 ·
  have e1:(g++ [q]).length=g.length+1:=by simp
  rw [e1,List.map_append,List.map_cons,List.map_nil,zhk]
  exact hr.kept hg2 (Or.inr fun e=>hAne M 1 (by decide) rfl lM (Option.some.inj e))
 have hp:sepB ([some T,some M,some X,nW.ownBlock,nO.ownBlock,nR.ownBlock]++ [gv.ownBlock]):=o.sep
 show sepB ([some T,some M,some X,nW.ownBlock,nO.ownBlock,nR.ownBlock]++ [some gA])
 unfold sepB at hp ⊢
 rw [List.pairwise_append]at hp ⊢
 refine ⟨hp.1,List.pairwise_singleton ..,fun a ha c hc k hk=>?_⟩
 rw [List.mem_singleton]at hc
 subst hc
 subst hk
 intro e
 obtain ⟨i,hi,e2⟩:=List.getElem_of_mem ha
 have hi6:i<6:=hi
 have e3: [some T,some M,some X,nW.ownBlock,nO.ownBlock,nR.ownBlock,gv.ownBlock][i]? =some (some k):=by
  have:([some T,some M,some X,nW.ownBlock,nO.ownBlock,nR.ownBlock]++ [gv.ownBlock])[i]? =some (some k):=by
   rw [List.getElem?_append_left hi,List.getElem?_eq_getElem hi,e2]
  exact this
 have hlt:k<w.heap.size:=by
  match i,hi6,e3 with
  | 0,_,e3=>have:=Option.some.inj (Option.some.inj e3);omega
  | 1,_,e3=>have:=Option.some.inj (Option.some.inj e3);omega
  | 2,_,e3=>have:=Option.some.inj (Option.some.inj e3);omega
  | 3,_,e3=>exact (o.rW.lt k (Option.some.inj e3)).2
  | 4,_,e3=>exact (o.rO.lt k (Option.some.inj e3)).2
  | 5,_,e3=>exact (o.rR.lt k (Option.some.inj e3)).2
 exact hAne k i hi6 e3 hlt (Option.some.inj e)
end Go.Proofs.YtjdnmblggdobgaaGreat
