import Derived.Test.YtjdnmblggdobgaaGreatJHxLHxN
import Derived.Test.YtjdnmblggdobgaaGreatJHmKHyO
namespace Go.Proofs.YtjdnmblggdobgaaGreat
open Go.RowKit Go.Maps
def la (d:bd) (h:ar) (rs:List Int):ar:=qw ⟨qm d.fields (pa (h.ae+1) (lr d h rs)) h.ab (pa (h.ae+1) (lr d h rs)),h.ae,h.old,h.bo,h.ae+1+ic (lr d h rs),h.am,h.next⟩
def pu (d:bd) (h:ar) (rs:List Int):List Int:=rs.map (mg (pa (h.ae+1) (lr d h rs)))
theorem z0r (mv:List (Int×bk)) (l:List Int):∀(ws:List Int),l.Nodup->(∀a∈l,0<=a/\a<ws.length)->∀a:Int,0<=a->wd (l.foldl (re mv) ws) a=if a∈l then mg mv (wd ws a) else wd ws a:=by
 induction l with
 | nil=>intro ws _ _ a _;rw [if_neg (by simp)];rfl
 | cons b l ih=>
   intro ws F A a D;obtain ⟨G,I⟩:=List.nodup_cons.1 F;have E:=A b (List.mem_cons_self ..);rw [List.foldl_cons,ih (re mv ws b) I (fun c hc=>by rw [re,List.length_set];exact A c (List.mem_cons_of_mem _ hc)) a D];unfold re;by_cases e:a=b
   ·subst e;rw [if_neg G,if_pos (List.mem_cons_self ..)];have:=zsa (ws:=ws) (m:=a.toNat) (v:=mg mv (wd ws a)) (by omega);rwa [show ((a.toNat:Nat):Int)=a by omega]at this
   have h1:wd (ws.set b.toNat (mg mv (wd ws b))) a=wd ws a:=Cn (by omega);rw [h1];by_cases c:a∈l
   ·rw [if_pos c,if_pos (List.mem_cons_of_mem _ c)]
   rw [if_neg c,if_neg (by simp [e,c])]
structure Bd (d:bd) (us order news:List Int) (mv:List (Int×bk)) (q:Int×bk):Prop where
 src:0<=q.1
 dst:0<=q.2.loc
 th:bj us q.1=⟨q.1,q.2.tag,q.2.len,q.2.hash⟩
 len:0<=q.2.len
 sf:q.1+3+q.2.len<=us.length
 df:q.2.loc+3+q.2.len<=us.length
 trn:∀a∈refsOf d.fields (bj us q.1),mr order news (wd us a)=mg mv (wd us a)
theorem z0s {d:bd} {A ws order news:List Int} {mv:List (Int×bk)} {q:Int×bk} (hu:A.length=ws.length) (k:Bd d A order news mv q):ue d.fields mv A ws q=vw d A order news ws q.1 q.2.loc:=by
 have h1:=k.src;have Y:=k.dst;have E:=k.th;have hl:=k.len;have hs:=k.sf;have hd:=k.df;have I:(lj A q.1.toNat (q.2.len+3).toNat).length=(q.2.len+3).toNat:=zuh (by omega);have G:q.2.loc.toNat+(lj A q.1.toNat (q.2.len+3).toNat).length<=ws.length:=by rw [I];omega
 have O:so A ws.length (q.1,q.2.loc):=⟨h1,Y,by show 0<=(bj A q.1).len;rw [E];exact hl,by show q.2.loc+3+(bj A q.1).len<=_;rw [E];show q.2.loc+3+q.2.len<=_;omega⟩;have V:∀a∈refsOf d.fields q.2,0<=a/\a<(ma ws q.2.loc.toNat (lj A q.1.toNat (q.2.len+3).toNat)).length:=fun a Z=>by obtain ⟨n,e,X,-⟩:=y9 Z;rw [Cp G];omega
 refine zxl (by unfold ue;rw [zy2,Cp G,zwi]) fun i hi=>?_;rw [zxh (p:=(q.1,q.2.loc)) O (by omega)];unfold ue;rw [z0r mv _ _ (Fq _ _) V _ (by omega)];have F:(bj A q.1).len=q.2.len:=by rw [E]
 show _=if q.2.loc<=(i:Int)/\(i:Int)<q.2.loc+3+(bj A q.1).len then ug d A order news q.1.toNat ((i:Int) - q.2.loc).toNat else wd ws i
 rw [F];by_cases c:q.2.loc<=(i:Int)/\(i:Int)<q.2.loc+3+q.2.len
 ·have N:wd (ma ws q.2.loc.toNat (lj A q.1.toNat (q.2.len+3).toNat)) i=wd A (q.1+((i:Int) - q.2.loc)):=by
   rw [zuj (by omega) (by omega) (by rw [I];omega),zui (by omega) (by omega)];congr 1;omega
  rw [if_pos c,N];unfold ug;rw [show ((q.1.toNat:Nat):Int)=q.1 by omega,show ((q.1.toNat+((i:Int) - q.2.loc).toNat:Nat):Int)=q.1+((i:Int) - q.2.loc) by omega,Cr (x:=bj A q.1) (y:=q.2) (by rw [E])];by_cases J:(decide (3<=((i:Int) - q.2.loc).toNat)&&jp d.fields q.2 (((i:Int) - q.2.loc).toNat - 3))=true
  ·rw [if_pos J];rw [Bool.and_eq_true,decide_eq_true_eq]at J;have D:(i:Int)∈refsOf d.fields q.2:=by
    have:=Co (x:=q.2) (n:=((i:Int) - q.2.loc).toNat - 3) (by omega) J.2;rwa [show q.2.loc+3+((((i:Int) - q.2.loc).toNat - 3:Nat):Int)=(i:Int) by omega]at this
   rw [if_pos D];have L:q.1+((i:Int) - q.2.loc)∈refsOf d.fields (bj A q.1):=by
    have:=Co (fs:=d.fields) (x:=bj A q.1) (n:=((i:Int) - q.2.loc).toNat - 3) (by rw [F];omega) (by rw [Cr (y:=q.2) (by rw [E])];exact J.2);have e:(bj A q.1).loc+3+((((i:Int) - q.2.loc).toNat - 3:Nat):Int)=q.1+((i:Int) - q.2.loc):=by show q.1+3+((((i:Int) - q.2.loc).toNat - 3:Nat):Int)=_;omega
    rwa [e]at this
   exact (k.trn _ L).symm
  have D:(i:Int)∉refsOf d.fields q.2:=fun hc=>J (by
   obtain ⟨n,e,X,W⟩:=y9 hc;rw [show ((i:Int) - q.2.loc).toNat - 3=n by omega,W,decide_eq_true (by omega:3<=((i:Int) - q.2.loc).toNat)];rfl)
  rw [if_neg J,if_neg D]
 have D:(i:Int)∉refsOf d.fields q.2:=fun hc=>by obtain ⟨n,e,X,-⟩:=y9 hc;omega
 rw [if_neg c,if_neg D,zuk G (by omega) (by rw [I];omega)]
theorem z0t {d:bd} {A order news:List Int} {mv:List (Int×bk)} :∀(l:List (Int×bk)) (ws:List Int),A.length=ws.length->(∀q∈l,Bd d A order news mv q)->l.foldl (ue d.fields mv A) ws=ld d A order news (l.map fun q=>(q.1,q.2.loc)) ws
 | [],_,_,_=>rfl
 | q::l,ws,hu,h=>by show l.foldl (ue d.fields mv A) (ue d.fields mv A ws q)=ld d A order news (l.map fun q=>(q.1,q.2.loc)) (vw d A order news ws q.1 q.2.loc);rw [z0s hu (h q (List.mem_cons_self ..))];exact z0t l _ (by rw [zwi];exact hu) fun x D=>h x (List.mem_cons_of_mem _ D)
theorem z0u (l:List bk):∀p,Laid p (pa p l) (p+ic l):=by
 induction l with
 | nil=>intro p;show p=p+0;omega
 | cons x l ih=>
   intro p;refine ⟨rfl,?_⟩;have h:=ih (p+3+x.len);rw [show p+ic (x::l)=p+3+x.len+ic l by simp only [ic,List.map_cons,List.sum_cons];omega];exact h
theorem z0v (l:List bk):∀p,∀q∈pa p l,∃t∈l,q.1=t.loc/\q.2.tag=t.tag/\q.2.len=t.len/\q.2.hash=t.hash:=by
 induction l with
 | nil=>intro p q A;cases A
 | cons x l ih=>
   intro p q A;rcases List.mem_cons.1 A with rfl | A
   ·exact ⟨x,List.mem_cons_self ..,rfl,rfl,rfl,rfl⟩
   obtain ⟨t,D,e⟩:=ih _ q A;exact ⟨t,List.mem_cons_of_mem _ D,e⟩
theorem z0w {d:bd} {h:ar} {ts E D:List bk} (r:Right d h ts) (G:b9 d.aj.length d.fields h.ab 1 h.bo=some E) (I:b9 d.aj.length d.fields h.ab (h.ae+1) h.ba=some D) (rs:List Int):(lr d h rs).map bk.loc=gc (cz d h rs) E D:=by
 have F:sj d h=E++D:=by obtain ⟨aa,Z,J,L,e⟩:=xu r.both;rw [G]at J;rw [I]at L;unfold sj;rw [r.both,e,<-ojq J,<-ojq L];rfl
 have z4:=r.sized.bo;have O:∀t∈E,t.loc<=h.ae:=fun t A=>by have q:=sc G t A;have q1:=q.2.1;have q2:=vd q.2.2.2.2;have q3:t.fin=t.loc+3+t.len:=rfl;omega
 have N:∀t∈D,h.ae<t.loc:=fun t A=>by have:=(sc I t A).1;omega
 unfold lr gc;rw [F,List.filter_append,List.filter_append,List.map_append,List.map_append,List.map_append,List.filter_map,List.filter_map];have V:E.filter (fun t=>decide (h.ae<t.loc)&&(cz d h rs).contains t.loc)= []:=List.filter_eq_nil_iff.2 fun t A=>by have:=O t A;rw [decide_eq_false (by omega:¬h.ae<t.loc)];simp
 have W:D.filter (fun t=>decide (t.loc<=h.ae)&&(cz d h rs).contains t.loc)= []:=List.filter_eq_nil_iff.2 fun t A=>by have:=N t A;rw [decide_eq_false (by omega:¬t.loc<=h.ae)];simp
 have X:D.filter (fun t=>decide (h.ae<t.loc)&&(cz d h rs).contains t.loc)=D.filter (((cz d h rs).contains ·)∘bk.loc):=List.filter_congr fun t A=>by rw [decide_eq_true (N t A)];simp
 have Y:E.filter (fun t=>decide (t.loc<=h.ae)&&(cz d h rs).contains t.loc)=E.filter (((cz d h rs).contains ·)∘bk.loc):=List.filter_congr fun t A=>by rw [decide_eq_true (O t A)];simp
 rw [V,W,X,Y,List.map_nil,List.nil_append,List.append_nil]
theorem z0x {d:bd} {h:ar} {ts D A:List bk} (r:Right d h ts) (e1:b9 d.aj.length d.fields h.ab 1 h.bo=some D) (e2:b9 d.aj.length d.fields h.ab (h.ae+1) h.ba=some A) (rs:List Int) (hr:∀v∈rs,b8 ts v=true) (hl:dp d h rs<=h.old):
 la d h rs=ny d h [] (gc (cz d h rs) D A) (h.ae+1)/\pu d h rs=zn h (gc (cz d h rs) D A) (h.ae+1) rs:=by
 obtain ⟨k,au,av,an,ay⟩:=zyf r e1 e2 rs hr hl;have ak:=z0w r e1 e2 rs;have z1:=r.sized.ae;have z2:=r.sized.old;have z3:=r.sized.len;have J:∀t∈lr d h rs,t∈ts:=fun t N=>((z0e r rs t).1 N).1;have F:(pa (h.ae+1) (lr d h rs)).map (·.1)=gc (cz d h rs) D A:=by rw [zzz,ak]
 have I:∀q∈pa (h.ae+1) (lr d h rs),∃t∈ts,t.loc=q.1/\bj h.ab q.1=⟨q.1,q.2.tag,q.2.len,q.2.hash⟩/\1<=t.loc/\t.fin<=h.ab.length/\0<=q.2.len/\t.len=q.2.len:=fun q E=>by
  obtain ⟨t,N,q1,q2,q3,q4⟩:=z0v _ _ q E;have ah:=wv r.sized r.both t (J t N);have ea:=pg r (J t N);refine ⟨t,J t N,q1.symm,?_,ah.1,?_,?_,q3.symm⟩
  ·rw [q1,q2,q3,q4];exact ea.symm
  ·have ai:t.fin=t.loc+3+t.len:=rfl;omega
  rw [q3];have ai:t.fin=t.loc+3+t.len:=rfl;omega
 have L:∀q∈pa (h.ae+1) (lr d h rs),0<=q.2.len:=fun q E=>by obtain ⟨t,-,-,-,-,-,e,-⟩:=I q E;exact e
 have V:=z0u (lr d h rs) (h.ae+1);have W:=Cq V L;obtain ⟨n1,n2⟩:=zxc (ws:=h.ab) V fun q E=>by obtain ⟨t,-,-,e,-⟩:=I q E;exact (congrArg bk.len e).symm
 rw [F]at n1 n2;have ax:(0:Int)∉(pa (h.ae+1) (lr d h rs)).map (·.1):=fun hc=>by obtain ⟨q,E,e⟩:=List.mem_map.1 hc;obtain ⟨t,-,e2,-,e3,-⟩:=I q E;omega
 have ad:=zxf (l:=pa (h.ae+1) (lr d h rs)) (by rw [F];exact an) ax;rw [F,<-n1]at ad;have Y:∀v,v=0\/v∈gc (cz d h rs) D A->mr (gc (cz d h rs) D A) (gq h.ab (h.ae+1) (gc (cz d h rs) D A)) v=mg (pa (h.ae+1) (lr d h rs)) v:=fun v G=>by
  rw [ad];unfold jo mg;rcases G with rfl | G
  ·rfl
  rw [<-F]at G;have:=zuu.2 G;cases e:ij (pa (h.ae+1) (lr d h rs)) v with
  | none=>rw [e]at this;cases this
  | some x=>rfl
 have O:∀v,(∃q∈ji h [] (gc (cz d h rs) D A) (h.ae+1),q.1=v)->v∈gc (cz d h rs) D A:=fun v G=>by obtain ⟨q,E,rfl⟩:=G;unfold ji at E;rw [List.map_nil,List.nil_append]at E;exact (List.of_mem_zip E).1
 have al:∀v∈gc (cz d h rs) D A,∃q∈ji h [] (gc (cz d h rs) D A) (h.ae+1),q.1=v:=fun v G=>by have e:=zx7 (gc (cz d h rs) D A) (gq h.ab (h.ae+1) (gc (cz d h rs) D A)) (zwh _ _ _).symm;have af:=G;rw [<-e]at af;obtain ⟨q,E,e⟩:=List.mem_map.1 af;exact ⟨q,by unfold ji;rw [List.map_nil,List.nil_append];exact E,e⟩
 have az:h.ae+1+ic (lr d h rs)=h.ae+1+dp d h rs:=by rw [<-n2,av]
 have ac:∀q∈pa (h.ae+1) (lr d h rs),Bd d h.ab (gc (cz d h rs) D A) (gq h.ab (h.ae+1) (gc (cz d h rs) D A)) (pa (h.ae+1) (lr d h rs)) q:=fun q E=>by obtain ⟨t,N,q1,q2,q3,q4,q5,q6⟩:=I q E;have a3:=W.2 q E;have q7:q.2.fin=q.2.loc+3+q.2.len:=rfl;have q8:t.fin=t.loc+3+t.len:=rfl;refine ⟨by omega,by omega,q2,q5,by omega,by omega,fun a ha=>?_⟩;obtain ⟨p,Z,e⟩:=al q.1 (by rw [<-F];exact List.mem_map.2 ⟨q,E,rfl⟩);have:=k.refs p Z a (by rw [e];exact ha);exact Y _ (this.imp id (O _))
 have ap:qm d.fields (pa (h.ae+1) (lr d h rs)) h.ab (pa (h.ae+1) (lr d h rs))=(ny d h [] (gc (cz d h rs) D A) (h.ae+1)).ab:=by show (pa (h.ae+1) (lr d h rs)).foldl _ (List.replicate h.ab.length 0)=ld d h.ab (gc (cz d h rs) D A) (gq h.ab (h.ae+1) (gc (cz d h rs) D A)) ((gc (cz d h rs) D A).zip (gq h.ab (h.ae+1) (gc (cz d h rs) D A))) (List.replicate h.ab.length 0);rw [z0t _ _ (by rw [List.length_replicate]) ac,<-zxn (fun q:Int×bk=>q.1) (fun q:Int×bk=>q.2.loc),F,<-n1]
 have X:∀a:Int,0<=a->a<=h.ae->wd (ny d h [] (gc (cz d h rs) D A) (h.ae+1)).ab a=0:=fun a a0 a1=>by
  show wd (ld d h.ab (gc (cz d h rs) D A) (gq h.ab (h.ae+1) (gc (cz d h rs) D A)) ((gc (cz d h rs) D A).zip (gq h.ab (h.ae+1) (gc (cz d h rs) D A))) (List.replicate h.ab.length 0)) a=0;rw [n1,<-F,zxn,Et _ _ a a0 ?_ ?_,zxm]
  ·intro p Z;obtain ⟨q,E,rfl⟩:=List.mem_map.1 Z;have ok:=ac q E;have k1:=ok.src;have k2:=ok.dst;have k3:=ok.len;have k4:=ok.df;have k5:=congrArg bk.len ok.th;have k5:(bj h.ab q.1).len=q.2.len:=k5;exact ⟨k1,k2,by show 0<=(bj h.ab q.1).len;omega,by rw [List.length_replicate];show q.2.loc+3+(bj h.ab q.1).len<=_;omega⟩
  intro p Z hc;obtain ⟨q,E,rfl⟩:=List.mem_map.1 Z;have:=(W.2 q E).1;have a2:q.2.loc<=a:=hc.1;omega
 have aw:=zzv d h [] (gc (cz d h rs) D A) (h.ae+1);constructor
 ·show ar.mk (ma (qm d.fields (pa (h.ae+1) (lr d h rs)) h.ab (pa (h.ae+1) (lr d h rs))) 1 (List.replicate h.ae.toNat 0)) h.ae h.old 1 (h.ae+1+ic (lr d h rs)) [] h.next=ar.mk (ny d h [] (gc (cz d h rs) D A) (h.ae+1)).ab h.ae h.old 1 (toR h.ab (h.ae+1) (gc (cz d h rs) D A)) [] h.next;rw [ap,n2];have aa:1+(List.replicate h.ae.toNat (0:Int)).length<=(ny d h [] (gc (cz d h rs) D A) (h.ae+1)).ab.length:=by rw [List.length_replicate,aw];omega
  have ao:ma (ny d h [] (gc (cz d h rs) D A) (h.ae+1)).ab 1 (List.replicate h.ae.toNat 0)=(ny d h [] (gc (cz d h rs) D A) (h.ae+1)).ab:=by
   refine zxl (Cp aa) fun i hi=>?_;by_cases c:1<=(i:Int)/\(i:Int)<=h.ae
   ·rw [zuj (by omega) (by omega) (by rw [List.length_replicate];omega),zxm,X i (by omega) c.2]
   rw [zuk aa (by omega) (by rw [List.length_replicate];omega)]
  rw [ao]
 unfold pu zn;refine List.map_congr_left fun v G=>(Y v ?_).symm;exact (au v G).imp id (O v)
end Go.Proofs.YtjdnmblggdobgaaGreat
