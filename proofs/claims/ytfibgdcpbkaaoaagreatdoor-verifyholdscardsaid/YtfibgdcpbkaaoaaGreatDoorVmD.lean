/- Package verify: what a method's states are, plainly. -/
import Derived.Test.YtfibgdcpbkaaoaaGreatDoorVkP
import Derived.Test.YtfibgdcpbkaaoaaGreatDoorLMk
import Derived.Test.YtfibgdcpbkaaoaaGreatDoorCdScan
namespace Go.Proofs.YtfibgdcpbkaaoaaGreatDoor
structure StD where
  comes : Bool
  locals : List KindD
  stack : List KindD
def st0 : StD := ⟨false, [], []⟩
structure Lkr where
  d : LinkD
  L : ByteArray → List ByteArray
  m : MethD
  ins : List Cd.Op4
structure SA where
  S : List StD
  A : List Bool
def methZ : MethD := ⟨⟨#[]⟩, false, [], ⟨0, ⟨#[]⟩⟩, 0, 0, ⟨#[]⟩, []⟩
def Lkr.fits (c : Lkr) (a b : KindD) : Bool := fitB topName c.L a b
def Lkr.join (c : Lkr) (a b : KindD) : KindD := joinB topName c.L a b
def Lkr.st (_ : Lkr) (s : SA) (n : Nat) : StD := (s.S[n]?).getD st0
def takeD (c : Lkr) (st asked : List KindD) : Option (List KindD × List KindD) :=
  if asked.length ≤ st.length then
    if ((st.drop (st.length - asked.length)).zip asked).all (fun p => c.fits p.1 p.2) then some (st.drop (st.length - asked.length), st.take (st.length - asked.length)) else none
  else none
def placeOfD (a : KindD) : Option KindD := if sameK a nulK then some nulK else if sameK a rowK then some numK else if a.kind = 4 then some ⟨3, a.cls⟩ else none
def maySetD (c : Lkr) (p v : KindD) : Bool := if sameK p nulK then !sameK v anyK else c.fits v p
def someD (k : KindD) : List KindD := if k.kind = 0 then [] else [k]
def Lkr.cls (c : Lkr) (x : Cd.Op4) : ClassD := clsAt c.d.classes x.a.toNat
def Lkr.flds (c : Lkr) (x : Cd.Op4) : List FieldD := (c.d.fields[x.a.toNat]?).getD []
def fld0 : FieldD := ⟨⟨#[]⟩, ⟨0, ⟨#[]⟩⟩⟩
def Lkr.fld (c : Lkr) (x : Cd.Op4) : KindD := (((c.flds x)[x.b.toNat]?).getD fld0).kind
def Lkr.told (c : Lkr) (x : Cd.Op4) : MethD := ((c.cls x).meths[x.b.toNat]?).getD methZ
def Lkr.ofC (c : Lkr) (x : Cd.Op4) : KindD := ⟨3, (c.cls x).name⟩
def tellsD (c : Lkr) (x : Cd.Op4) (nl : Nat) : Bool :=
  if x.op = 3 ∨ x.op = 4 then decide (x.a < nl)
  else if x.op = 18 ∨ x.op = 22 ∨ x.op = 29 ∨ x.op = 30 then decide (x.a < c.d.classes.length)
  else if x.op = 19 ∨ x.op = 20 then decide (x.a < c.d.classes.length) && decide (x.b < (c.flds x).length)
  else if x.op = 26 ∨ x.op = 34 then decide (x.a < c.d.classes.length) && decide (x.b < (c.cls x).meths.length)
  else true
def goesD (op : Int) : Bool := !decide (op = 13) && !decide (op = 27) && !decide (op = 28)
def brD (op : Int) : Bool := decide (op = 13) || decide (op = 14) || decide (op = 15) || decide (op = 16) || decide (op = 17)
abbrev LS := List KindD × List KindD
def tpD (c : Lkr) (lo st asked : List KindD) (puts : List KindD → Option (List KindD)) : Option LS :=
  (takeD c st asked).bind fun t => (puts t.1).map fun p => (lo, t.2 ++ p)
def kAt (l : List KindD) (n : Nat) : KindD := (l[n]?).getD numK
def stackD (c : Lkr) (x : Cd.Op4) (lo st : List KindD) : Option LS :=
  if x.op = 1 then some (lo, st ++ [numK])
  else if x.op = 2 then some (lo, st ++ [nulK])
  else if x.op = 3 then (if sameK (kAt lo x.a.toNat) anyK then none else some (lo, st ++ [kAt lo x.a.toNat]))
  else if x.op = 4 then (takeD c st [anyK]).map fun t => (lo.set x.a.toNat (kAt t.1 0), t.2)
  else if x.op = 5 then tpD c lo st [anyK] fun _ => some []
  else if x.op = 6 then tpD c lo st [anyK] fun t => some [kAt t 0, kAt t 0]
  else if x.op = 7 then tpD c lo st [anyK, anyK] fun t => some [kAt t 1, kAt t 0]
  else some (lo, st)
def branchD (c : Lkr) (x : Cd.Op4) (lo st : List KindD) : Option LS :=
  if x.op = 14 then tpD c lo st [numK] fun _ => some []
  else if x.op = 15 then tpD c lo st [numK, numK] fun _ => some []
  else if x.op = 16 then tpD c lo st [⟨3, topName⟩, ⟨3, topName⟩] fun _ => some []
  else if x.op = 17 then tpD c lo st [⟨3, topName⟩] fun _ => some []
  else some (lo, st)
def rowD (c : Lkr) (x : Cd.Op4) (lo st : List KindD) : Option LS :=
  if x.op = 21 then tpD c lo st [numK] fun _ => some [rowK]
  else if x.op = 22 then tpD c lo st [numK] fun _ => some [⟨4, (c.cls x).name⟩]
  else if x.op = 23 then tpD c lo st [anyK, numK] fun t => (placeOfD (kAt t 0)).map fun p => [p]
  else if x.op = 24 then tpD c lo st [anyK, numK, anyK] fun t => (placeOfD (kAt t 0)).bind fun p => if maySetD c p (kAt t 2) then some [] else none
  else if x.op = 25 then tpD c lo st [anyK] fun t => (placeOfD (kAt t 0)).map fun _ => [numK]
  else some (lo, st)
def thingD (c : Lkr) (x : Cd.Op4) (lo st : List KindD) : Option LS :=
  if x.op = 18 then some (lo, st ++ [c.ofC x])
  else if x.op = 19 then tpD c lo st [c.ofC x] fun _ => some [c.fld x]
  else if x.op = 20 then tpD c lo st [c.ofC x, c.fld x] fun _ => some []
  else if x.op = 29 ∨ x.op = 33 then tpD c lo st [⟨3, topName⟩] fun _ => some [numK]
  else if x.op = 30 then tpD c lo st [⟨3, topName⟩] fun _ => some [c.ofC x]
  else if x.op = 35 ∨ x.op = 36 then tpD c lo st [⟨3, topName⟩] fun _ => some []
  else some (lo, st)
def callD (c : Lkr) (x : Cd.Op4) (lo st : List KindD) : Option LS :=
  if x.op = 26 then tpD c lo st (if (c.told x).static then (c.told x).args else c.ofC x :: (c.told x).args) fun _ => some (someD (c.told x).ret)
  else if x.op = 27 then tpD c lo st (someD c.m.ret) fun _ => some []
  else if x.op = 28 then tpD c lo st [⟨3, errName⟩] fun _ => some []
  else if x.op = 34 then tpD c lo st (c.told x).args fun _ => some []
  else if x.op = 31 then tpD c lo st [numK] fun _ => some []
  else if x.op = 32 then some (lo, st ++ [numK])
  else some (lo, st)
def isCount (op : Int) : Bool := decide (op = 8) || decide (op = 9) || decide (op = 10) || decide (op = 11) || decide (op = 12)
def isBranch (op : Int) : Bool := decide (op = 14) || decide (op = 15) || decide (op = 16) || decide (op = 17)
def isRowOp (op : Int) : Bool := decide (op = 21) || decide (op = 22) || decide (op = 23) || decide (op = 24) || decide (op = 25)
def isThingOp (op : Int) : Bool := decide (op = 18) || decide (op = 19) || decide (op = 20) || decide (op = 29) || decide (op = 30) || decide (op = 33) || decide (op = 35) || decide (op = 36)
def isCallOp (op : Int) : Bool := decide (op = 26) || decide (op = 27) || decide (op = 28) || decide (op = 34) || decide (op = 31) || decide (op = 32)
def workD (c : Lkr) (x : Cd.Op4) (lo st : List KindD) : Option LS :=
  if isCount x.op then tpD c lo st [numK, numK] fun _ => some [numK]
  else if isBranch x.op then branchD c x lo st
  else if isRowOp x.op then rowD c x lo st
  else if isThingOp x.op then thingD c x lo st
  else if isCallOp x.op then callD c x lo st
  else stackD c x lo st
def spawnD (c : Lkr) (x : Cd.Op4) : Bool := !decide (x.op = 34) || ((c.told x).static && decide ((c.told x).ret.kind = 0))
def runD (c : Lkr) (x : Cd.Op4) (lo st : List KindD) : Option LS :=
  if tellsD c x lo.length && spawnD c x then
    (workD c x lo st).bind fun r => if decide ((r.2.length : Int) ≤ c.m.stack) then some r else none
  else none
def joinL (c : Lkr) (known come : List KindD) : List KindD := known.zipWith c.join come
def chgL (c : Lkr) (known come : List KindD) : Bool := (known.zip come).any fun p => !sameK (c.join p.1 p.2) p.1
def comeD (c : Lkr) (s : SA) (n : Nat) (lo st : List KindD) : Option SA :=
  if (!(c.st s n).comes || decide ((c.st s n).stack.length = st.length)) && decide ((st.length : Int) ≤ c.m.stack) then
    some (if (c.st s n).comes then ⟨s.S.set n ⟨true, joinL c (c.st s n).locals lo, joinL c (c.st s n).stack st⟩, if chgL c (c.st s n).locals lo || chgL c (c.st s n).stack st then s.A.set n true else s.A⟩
      else ⟨s.S.set n ⟨true, lo, st⟩, s.A.set n true⟩)
  else none
def comeAtD (c : Lkr) (s : SA) (loc : Int) (lo st : List KindD) : Option SA := comeD c s (Cd.placeN c.ins loc).toNat lo st
def handsD (c : Lkr) (loc : Int) (lo : List KindD) : List HandD → SA → Option SA
  | [], s => some s
  | h :: r, s => if decide (h.frm ≤ loc) && decide (loc < h.upto) then (comeAtD c s h.loc lo [⟨3, h.cls⟩]).bind (handsD c loc lo r) else handsD c loc lo r s
def lookD (c : Lkr) (s : SA) (n : Nat) : Option SA :=
  (runD c (Cd.get4 c.ins n) (c.st s n).locals (c.st s n).stack).bind fun r =>
    if decide (n + 1 = c.ins.length) && goesD (Cd.get4 c.ins n).op then none else
    (handsD c (Cd.get4 c.ins n).loc (c.st s n).locals c.m.hands s).bind fun s1 =>
    (if (Cd.get4 c.ins n).op = 4 then handsD c (Cd.get4 c.ins n).loc r.1 c.m.hands s1 else some s1).bind fun s2 =>
    (if goesD (Cd.get4 c.ins n).op then comeD c s2 (n + 1) r.1 r.2 else some s2).bind fun s3 =>
    if brD (Cd.get4 c.ins n).op then comeAtD c s3 (Cd.get4 c.ins n).a r.1 r.2 else some s3
def nextD (s : SA) : Option Nat := s.A.findIdx? (fun b => b)
def loopD (c : Lkr) : Nat → SA → Option SA
  | 0, _ => none
  | f + 1, s => match nextD s with
    | none => some s
    | some n => (lookD c ⟨s.S, s.A.set n false⟩ n).bind (loopD c f)
def firstL (d : LinkD) (m : MethD) (ci : Nat) : Option (List KindD) :=
  let l := (if m.static then [] else [⟨3, (clsAt d.classes ci).name⟩]) ++ m.args
  if decide ((l.length : Int) ≤ m.locals) then some (l ++ List.replicate (m.locals.toNat - l.length) anyK) else none
def beginsD (ins : List Cd.Op4) (n : Int) : Bool := decide (Cd.placeE ins n = 0)
def handOk (c : Lkr) (h : HandD) : Bool := (decide (h.frm < h.upto) && beginsD c.ins h.frm && beginsD c.ins h.loc) && (beginsD c.ins h.upto || decide (h.upto = c.m.code.size)) && inL (c.L h.cls) errName
end Go.Proofs.YtfibgdcpbkaaoaaGreatDoor
