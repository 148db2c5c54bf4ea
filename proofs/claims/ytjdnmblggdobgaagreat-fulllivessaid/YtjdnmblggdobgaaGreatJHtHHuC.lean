import Derived.Test.YtjdnmblggdobgaaGreatJTk2Dies
import Derived.Test.YtjdnmblggdobgaaGreatHtG
import Derived.Test.YtjdnmblggdobgaaGreatJHmMHmH
import Derived.Laws.OwnMore
import Derived.Test.YtjdnmblggdobgaaGreatJLLkLBas
set_option maxRecDepth 100000
namespace Go.Proofs.YtjdnmblggdobgaaGreat
open Go.RowKit Go.Maps

theorem zm3 {lo hi b e n len:Nat} {w w':World} {v:Value} {xs:List Value} (h:w.ownsRow b e n v len xs) (hf:Far lo hi w w') (hb:hi<=b):w'.ownsRow b e n v len xs:=by
 refine ⟨h.1,h.2.imp id ?_⟩
 rintro ⟨g,cap,cur,e1,e2,e3,e4⟩
 exact ⟨g,cap,cur,e1,e2,(hf.block g (lt0 e3) (Or.inr (by omega))).trans e3,e4⟩
theorem OwnV.far {lo hi b:Nat} {w w':World} {nW nO:Value} {h:HeapD} (o:OwnV b w nW nO h) (hf:Far lo hi w w') (hb:hi<=b):OwnV b w' nW nO h:=⟨zm3 o.rW hf hb,zm3 o.rO hf hb,o.ne⟩
theorem zm4 {d:LinkD} {h:HeapD} {ts:List ThD} (h0:heapErr d h=0) (hts:bothT d h=some ts) (hw:∀x∈h.words,(Lit.int .i64 x).wf=true):Sized d h/\Few d/\h.noted.length<=1000000:=by
 unfold heapErr at h0
 cases hok:okLk d with
 | false=>rw [hok]at h0;simp at h0
 | true=>
   rw [hok]at h0
   simp only [if_true]at h0
   have hd:=zkh hok
   unfold heapRes at h0
   cases h1:partsB h with
   | false=>rw [h1]at h0;simp at h0
   | true=>
     cases h2:wordsB h with
     | false=>rw [h1,h2]at h0;simp at h0
     | true=>
       cases h3:topsB h with
       | false=>rw [h1,h2,h3]at h0;simp at h0
       | true=>
         have hz:=zkj hd h1 h2 h3
         rw [h1,h2,h3,hts]at h0
         simp only [if_true]at h0
         refine ⟨hz,hd,?_⟩
         have hl:=zkp hd hz hw hts
         unfold thingsErr at h0
         cases e1:riseB h.noted with
         | false=>rw [e1]at h0;revert h0;cases ts.any (badHash h)<;>cases decide ((ts.map ThD.hash).Nodup)<;>cases (ts.any fun x=>hasRefB d.fields h.words x fun n=>!leadB ts n)<;>cases (restL h).any (· != 0)<;>simp
         | true=>
           cases e2:h.noted.any (badNote d h ts)with
           | true=>rw [e1,e2]at h0;revert h0;cases ts.any (badHash h)<;>cases decide ((ts.map ThD.hash).Nodup)<;>cases (ts.any fun x=>hasRefB d.fields h.words x fun n=>!leadB ts n)<;>cases (restL h).any (· != 0)<;>simp
           | false=>exact zkr hl e1 e2

def tsOf (d:LinkD) (h:HeapD):List ThD:=(bothT d h).getD []
theorem zni {l:List Int} {k:Nat} (h:k<l.length):(intV l)[k]? =some (.int .i64 l[k]):=by simp [intV,h]
def setW (h:HeapD) (m:Nat) (v:Int):HeapD:=⟨h.words.set m v,h.young,h.old,h.ytop,h.otop,h.noted,h.next⟩
def noteB (d:LinkD) (h:HeapD) (t:ThD) (n:Nat) (v:Int):Bool:=refI d.fields t n&&(decide (h.young<t.loc)&&youngB h v)
def insN (l:List Int) (x:Int):List Int:=if l.contains x then l else l.takeWhile (fun y=>decide (y<x))++x::l.dropWhile (fun y=>decide (y<x))
def setD (d:LinkD) (h:HeapD) (t:ThD) (n:Nat) (v:Int):HeapD:=⟨h.words.set (t.loc+3+n).toNat v,h.young,h.old,h.ytop,h.otop,if noteB d h t n v then insN h.noted t.loc else h.noted,h.next⟩
theorem znl {b e n len:Nat} {w:World} {v:Value} {xs:List Value} (h:w.ownsRow b e n v len xs):∃a c,v=.slice a len c:=by
 rcases h.2 with ⟨e1,e2⟩ | ⟨g,cap,cur,e1,-⟩
 ·
  exact ⟨none,0,by rw [e1,e2]⟩
 exact ⟨_,_,e1⟩
def setH (d:LinkD) (h:HeapD) (loc n v:Int):HeapD:=setD d h (atOr (tsOf d h) loc) n.toNat v
def begD0:HeapD:=newD 20 20
def begD1:HeapD:=makeD begD0 1 2 false
def begD2:HeapD:=setH (linkD baseD) begD1 1 1 7
def wfL (l:List Int):Bool:=l.all fun x=>(Lit.int .i64 x).wf
theorem zn7 {l:List Int} (h:wfL l=true):∀x∈l,(Lit.int .i64 x).wf=true:=by
 unfold wfL at h
 rw [List.all_eq_true]at h
 exact h
theorem zn8:wfL begD0.words=true:=by kernel_rfl
theorem zob:begD0.noted= []/\begD1.noted= []/\begD2.noted= []:=⟨by kernel_rfl,by kernel_rfl,by kernel_rfl⟩
theorem zoc:begD0.words.length=41/\begD1.words.length=41/\begD2.words.length=41:=⟨by kernel_rfl,by kernel_rfl,by kernel_rfl⟩
theorem zod (Q:Nat):∀(cs:List Value) (w:World) (o:Nat),(∀j,w.frozen? ⟨Q,j,none⟩=false)->∀j,(setL w Q o cs).frozen? ⟨Q,j,none⟩=false
 | [],_,_,h=>h
 | c::cs,w,o,h=>zod Q cs (w.setCell ⟨Q,o,none⟩ c) (o+1) (fun j=>by rw [World.frozen?_setCell];exact h j)
theorem Hd.of_own {b B:Nat} {w:World} {nW nO kC kS kF kN kT:Value} {h:HeapD} {d:LinkD} (o:OwnV b w nW nO h) (lk:RLk (· <B) w kC kS kF kN kT d) (hB:B<=w.heap.size) (h1:h.words.length<=1000000) (h2:h.noted.length<=1000000) (hw:∀x∈h.words,(Lit.int .i64 x).wf=true) (hn:∀x∈h.noted,(Lit.int .i64 x).wf=true):Hd w.heap.size w nW nO kC kS kF kN kT h d:=
 ⟨(zfb o.rW h1).monoI fun _ hk=>hk.lt,(zfb o.rO h2).monoI fun _ hk=>hk.lt,lk.mono fun _ hk=>Nat.lt_of_lt_of_le hk hB,Nat.le_refl _,hw,hn⟩
theorem zoe (w:World):Calls Tryz.prog 17 #[.int .i64 20,.int .i64 20] w fun r w'=>Below w.heap.size w w'/\∃n4 c4,r=.returned (.tuple #[.agg #[.slice n4 41 c4,.int .i64 20,.int .i64 20,.int .i64 1,.int .i64 21,.slice none 0 0,.int .i64 1],.int .i64 0])/\OwnV w.heap.size w' (.slice n4 41 c4) (.slice none 0 0) begD0:=by
 refine (zmc w 20 20).mono ?_
 rintro r w' ⟨hb,⟨-,-,v,rfl,hrow⟩ | ⟨hc,rfl⟩⟩
 ·
  obtain ⟨n,c,rfl⟩:=znl hrow
  exact ⟨hb,n,c,by kernel_rfl,⟨hrow,World.ownsRow_nil _ _ _ _,fun k _ e=>by cases e⟩⟩
 exact absurd hc (by decide)

end Go.Proofs.YtjdnmblggdobgaaGreat
