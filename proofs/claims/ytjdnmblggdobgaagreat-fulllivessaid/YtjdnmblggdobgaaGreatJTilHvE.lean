import Derived.Test.YtjdnmblggdobgaaGreatJHtHHuC
import Derived.Test.YtjdnmblggdobgaaGreatJHqBHvA
import Derived.Deep.RegionHeld
import Derived.Test.YtjdnmblggdobgaaGreatJHtBHtF
import Derived.Test.YtjdnmblggdobgaaGreatJTk2Dies
import Derived.Test.YtjdnmblggdobgaaGreatJHmCBx
import Derived.Test.YtjdnmblggdobgaaGreatJLSaLTie
import Derived.Test.YtjdnmblggdobgaaGreatChecked
import Derived.Ground.Names2Prog
import Derived.Shelf.Lays2
import Derived.Shelf.Spec.SlicesInsert
import Derived.Shelf.Spec.SlicesInsertGrow
import Derived.Deep.RegionLawGrows
import Derived.Test.YtjdnmblggdobgaaGreatJLPu5HuE
import Derived.DataShut
namespace Go.Proofs.YtjdnmblggdobgaaGreat
open Go.RowKit Go.Maps
theorem zrw {d:LinkD} {h:HeapD} {ts ys os:List ThD} (hb:bothT d h=some ts) (h1:walkT d.classes.length d.fields h.words 1 h.ytop=some ys) (h2:walkT d.classes.length d.fields h.words (h.young+1) h.otop=some os):ts=ys++os:=by
 unfold bothT at hb
 rw [h1,h2]at hb
 exact (Option.some.inj hb).symm
end Go.Proofs.YtjdnmblggdobgaaGreat
namespace Go.Proofs.YtjdnmblggdobgaaGreat
section
variable (P:Program) (md:Region.Mode) (ops:Array Oper) (Q:Exit->Act->World->Prop) (T:World->Prop) (st:Nat)
def Til:Nat->Array Bool->Act->World->Prop
 | 0,l,a,w=>Region.ready md ops l= []/\Q .normal a w
 | n+1,l,a,w=>(Region.ready md ops l= []->Q .normal a w)/\∀j∈Region.ready md ops l,wpOp P ops Q j (fun a' w'=>(j≠st->l.getD st true=false->T w')/\Til n (l.setIfInBounds j true) a' w') a w
end
section
variable {P:Program} {md:Region.Mode} {ops:Array Oper} {Q:Exit->Act->World->Prop} {T:World->Prop} {st:Nat}
def TilR (P:Program) (md:Region.Mode) (ops:Array Oper) (Q:Exit->Act->World->Prop) (T:World->Prop) (st n:Nat) (l:Array Bool) (a:Act) (w:World) (rs:List Nat):Prop:=
 ∀j∈rs,wpOp P ops Q j (fun a' w'=>(j≠st->l.getD st true=false->T w')/\Til P md ops Q T st n (l.setIfInBounds j true) a' w') a w
theorem TilR.nil {n:Nat} {l:Array Bool} {a:Act} {w:World} :TilR P md ops Q T st n l a w []:=fun _ h=>by cases h
theorem TilR.cons {n j:Nat} {l:Array Bool} {a:Act} {w:World} {o:Oper} {rs:List Nat} (ho:ops[j]? =some o)
 (h:∀K:Act->World->Prop,Shut (∀a w,(j≠st->l.getD st true=false->T w)->Til P md ops Q T st n (l.setIfInBounds j true) a w->K a w)->if Region.wanted o (yielded ops a.tmps)=true then Oper.wp P o a w K Q else K (a.put o.dst undef) w)
 (hs:TilR P md ops Q T st n l a w rs):TilR P md ops Q T st n l a w (j::rs):=fun k hk=>by
 rcases List.mem_cons.1 hk with rfl | hk
 ·
  exact wpOp_step ho fun K hK=>h K fun a w h1 h2=>hK a w ⟨h1,h2⟩
 exact hs k hk
end
end Go.Proofs.YtjdnmblggdobgaaGreat
namespace Go.Proofs.YtjdnmblggdobgaaGreat
open Go.RowKit Go.Maps
theorem cells7 {W:World} {X t:Nat} {a b c d e f g:Value} (h:W.heap[X]? =some (.cells #[a,b,c,d,e,f,g] t (0,0))):W.cell? ⟨X,0,none⟩=some a/\W.cell? ⟨X,1,none⟩=some b/\W.cell? ⟨X,2,none⟩=some c/\W.cell? ⟨X,3,none⟩=some d/\W.cell? ⟨X,4,none⟩=some e/\W.cell? ⟨X,5,none⟩=some f/\W.cell? ⟨X,6,none⟩=some g/\(∀j,W.frozen? ⟨X,j,none⟩=false)/\X<W.heap.size:=
 ⟨cl0 h 0 rfl,cl0 h 1 rfl,cl0 h 2 rfl,cl0 h 3 rfl,cl0 h 4 rfl,cl0 h 5 rfl,cl0 h 6 rfl,zcf h,lt0 h⟩
theorem cells5 {W:World} {X t:Nat} {a b c d e:Value} (h:W.heap[X]? =some (.cells #[a,b,c,d,e] t (0,0))):W.cell? ⟨X,0,none⟩=some a/\W.cell? ⟨X,1,none⟩=some b/\W.cell? ⟨X,2,none⟩=some c/\W.cell? ⟨X,3,none⟩=some d/\W.cell? ⟨X,4,none⟩=some e/\X<W.heap.size:=
 ⟨cl0 h 0 rfl,cl0 h 1 rfl,cl0 h 2 rfl,cl0 h 3 rfl,cl0 h 4 rfl,lt0 h⟩






end Go.Proofs.YtjdnmblggdobgaaGreat
namespace Go.Proofs.YtjdnmblggdobgaaGreat
open Go.Shelf

end Go.Proofs.YtjdnmblggdobgaaGreat
namespace Go.Proofs.YtjdnmblggdobgaaGreat
open Go.RowKit Go.Maps Go.Shelf

end Go.Proofs.YtjdnmblggdobgaaGreat
namespace Go.Proofs.YtjdnmblggdobgaaGreat
open Go.RowKit Go.Maps Go.Shelf Go.Lib

end Go.Proofs.YtjdnmblggdobgaaGreat
namespace Go.Proofs.YtjdnmblggdobgaaGreat
open Go.RowKit Go.Maps


structure Right (d:LinkD) (h:HeapD) (ts:List ThD):Prop where
 ok:okLk d=true
 parts:partsB h=true
 words:wordsB h=true
 tops:topsB h=true
 both:bothT d h=some ts
 hash:ts.any (badHash h)=false
 dup:(ts.map ThD.hash).Nodup
 lead:(ts.any fun x=>hasRefB d.fields h.words x fun n=>!leadB ts n)=false
 rest:(restL h).any (· != 0)=false
 rise:riseB h.noted=true
 note:h.noted.any (badNote d h ts)=false
 un:ts.any (unnoted d h)=false
theorem Right.err {d:LinkD} {h:HeapD} {ts:List ThD} (r:Right d h ts):heapErr d h=0:=by
 unfold heapErr heapRes
 rw [r.ok,r.parts,r.words,r.tops,r.both]
 simp only [if_true]
 unfold thingsErr
 rw [r.hash,r.lead,r.rest,r.rise,r.note,r.un,decide_eq_true r.dup]
 rfl
theorem zs6 {d:LinkD} {h:HeapD} (h0:heapErr d h=0):∃ts,Right d h ts:=by
 unfold heapErr heapRes at h0
 cases e0:okLk d with
 | false=>rw [e0]at h0;simp at h0
 | true=>
 cases e1:partsB h with
 | false=>rw [e0,e1]at h0;simp at h0
 | true=>
 cases e2:wordsB h with
 | false=>rw [e0,e1,e2]at h0;simp at h0
 | true=>
 cases e3:topsB h with
 | false=>rw [e0,e1,e2,e3]at h0;simp at h0
 | true=>
 cases e4:bothT d h with
 | none=>rw [e0,e1,e2,e3,e4]at h0;simp at h0
 | some ts=>
 rw [e0,e1,e2,e3,e4]at h0
 simp only [if_true]at h0
 unfold thingsErr at h0
 cases f1:ts.any (badHash h)with
 | true=>rw [f1]at h0;simp at h0
 | false=>
 cases f2:decide ((ts.map ThD.hash).Nodup)with
 | false=>rw [f1,f2]at h0;simp at h0
 | true=>
 cases f3:(ts.any fun x=>hasRefB d.fields h.words x fun n=>!leadB ts n)with
 | true=>rw [f1,f2,f3]at h0;simp at h0
 | false=>
 cases f4:(restL h).any (· != 0)with
 | true=>rw [f1,f2,f3,f4]at h0;simp at h0
 | false=>
 cases f5:riseB h.noted with
 | false=>rw [f1,f2,f3,f4,f5]at h0;simp at h0
 | true=>
 cases f6:h.noted.any (badNote d h ts)with
 | true=>rw [f1,f2,f3,f4,f5,f6]at h0;simp at h0
 | false=>
 cases f7:ts.any (unnoted d h)with
 | true=>rw [f1,f2,f3,f4,f5,f6,f7]at h0;simp at h0
 | false=>exact ⟨ts,e0,e1,e2,e3,e4,f1,of_decide_eq_true f2,f3,f4,f5,f6,f7⟩
theorem Right.sized {d:LinkD} {h:HeapD} {ts:List ThD} (r:Right d h ts):Sized d h:=zkj (zkh r.ok) r.parts r.words r.tops
theorem zs7 {fs:List (List FieldD)} {x:ThD} {a:Int} (h:a∈refsOf fs x):∃n:Nat,a=x.loc+3+n/\(n:Int)<x.len/\refI fs x n=true:=by
 unfold refsOf at h
 obtain ⟨n,hn,rfl⟩:=List.mem_map.1 h
 obtain ⟨h1,h2⟩:=List.mem_filter.1 hn
 have:=List.mem_range.1 h1
 exact ⟨n,rfl,by omega,h2⟩
theorem zs8 {fs:List (List FieldD)} {x:ThD} {n:Nat} (h1:(n:Int)<x.len) (h2:refI fs x n=true):x.loc+3+(n:Int)∈refsOf fs x:=by
 unfold refsOf
 exact List.mem_map.2 ⟨n,List.mem_filter.2 ⟨List.mem_range.2 (by omega),h2⟩,rfl⟩
theorem ztb {l:List Int} :riseTo l l.length↔l.Pairwise (· < ·):=by
 constructor
 ·
  intro h
  rw [List.pairwise_iff_getElem]
  intro i j hi hj hij
  have key:∀n,i+n+1<l.length->wd l i<wd l ((i+n+1:Nat):Int):=by
   intro n
   induction n with
   | zero=>
     intro hn
     have:=h (i+1) (by omega) hn
     rw [show ((i+1:Nat):Int) - 1=(i:Int) by omega]at this
     exact this
   | succ n ih=>
     intro hn
     have h1:=ih (by omega)
     have h2:=h (i+n+1+1) (by omega) hn
     rw [show ((i+n+1+1:Nat):Int) - 1=((i+n+1:Nat):Int) by omega]at h2
     exact Int.lt_trans h1 h2
  have:=key (j - i - 1) (by omega)
  rw [show i+(j - i - 1)+1=j by omega,zen hi,zen hj]at this
  exact this
 intro h j h0 hj
 rw [show (j:Int) - 1=((j - 1:Nat):Int) by omega,zen (by omega),zen hj]
 exact List.pairwise_iff_getElem.1 h (j - 1) j (by omega) hj (by omega)





end Go.Proofs.YtjdnmblggdobgaaGreat
