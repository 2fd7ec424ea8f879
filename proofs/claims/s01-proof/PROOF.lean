import PyProof.Rows.All
import Wide.All
import OpenK.AllK
import Wide.FinOn
import Open.SpecLaws
import KE.OsHead
import KE.OsGo
import HandS.ForSpec
import HandS.Comp
import HandS.Iter
import HandS.Flow
import HandS.Zip
import HandS.More
import HandS.SetFor
import PySem.Challenge.RW_onelanedesk_s01_answers
set_option Elab.async false
set_option linter.all false
set_option maxRecDepth 100000
set_option maxHeartbeats 4000000

/-! ## rules that the layer lacks -/
namespace OL
open PySem PySem.Spec PyProof.Rows L2 PySem.SeqAt

/-! ### two instances of one class: == is identity -/
section
variable {prog : Program} {w : World} {A : Around} {E : Value → Shared → Prop} {s : Shared}
variable {K : PySem.W.Frag} {x y C : Addr} {ox oy : Obj} {od ody : Option Obj}

theorem instEqCall (kin : K.In s.heap) (ix : PySem.W.InstAt s.heap x ox C od) (iy : PySem.W.InstAt s.heap y oy C ody) (ne : x ≠ y)
    (hm : PySem.W.mroIn K C (.type "object") = some true) {Q : Value → Shared → Prop} (hq : Q .notImplemented s) :
    wpAny (model prog w) A (call (.builtin "object.__eq__") [.ref x, .ref y]) Q E s := by
  refine wpAny_call (codeAny_call_builtin F.cmp_object.eq.plain F.cmpEntry_eq ?_)
  refine PySem.W.check_slot F.cmpKind_eq F.cmpSplit_eq (ix.type.andThen (PySem.W.looks_mroIn kin hm)) (F.cmpArgs_eq _ _) ?_
  obtain ⟨h1, h2⟩ := (⟨ix.at_, iy.at_⟩ : s.heap.get? x = some ox ∧ s.heap.get? y = some oy)
  exact objEq_entry_other ne h1 h2 (by rw [ix.cls]; intro z; cases z) hq

theorem instTry (kin : K.In s.heap) (ix : PySem.W.InstAt s.heap x ox C od) (iy : PySem.W.InstAt s.heap y oy C ody) (ne : x ≠ y)
    (hm : PySem.W.mroIn K C (.type "object") = some true) (he : PySem.W.findIn K (.ref C) "__eq__" = some (some (.builtin "object.__eq__"))) :
    wpAny (model prog w) A (tryCompare (.ref x) "__eq__" (.ref y)) (fun r s' => r = none ∧ s' = s) E s := by
  unfold tryCompare
  exact wpAny_bind (HN.ifBound_objEq kin ix he (instEqCall kin ix iy ne hm (wpAny_pure ⟨rfl, rfl⟩)))

theorem instRc (hu : A.units < cLine) (kin : K.In s.heap) (ix : PySem.W.InstAt s.heap x ox C od) (iy : PySem.W.InstAt s.heap y oy C ody) (ne : x ≠ y)
    (hm : PySem.W.mroIn K C (.type "object") = some true) (he : PySem.W.findIn K (.ref C) "__eq__" = some (some (.builtin "object.__eq__"))) :
    RcAt A s (.ref x) (.ref y) false := fun prog w E Q h => by
  have one := instTry (prog := prog) (w := w) (A := A) (E := E) kin ix iy ne hm he
  have two := instTry (prog := prog) (w := w) (A := A) (E := E) kin iy ix ne.symm hm he
  simp only [richCompare, cmpInfo_Eq, oneThing_ref]
  refine wpAny_holding (wpAny_bind (wpAny_cRoomFor hu ?_))
  refine wpAny_bind (ix.type.here ?_)
  refine wpAny_bind (iy.type.here ?_)
  rw [if_neg (by simp)]
  refine wpAny_bind (wpAny_pure ?_)
  simp only [Bool.false_eq_true, if_false, Bool.not_false, if_true]
  refine wpAny_bind (m := tryCompare (.ref x) _ (.ref y)) (wpAny_mono one (fun r s1 z => ?_) fun _ _ e => e)
  obtain ⟨z1, z2⟩ := z
  subst z1 z2
  refine wpAny_bind (m := tryCompare (.ref y) _ (.ref x)) (wpAny_mono two (fun r s2 z => ?_) fun _ _ e => e)
  obtain ⟨z1, z2⟩ := z
  subst z1 z2
  refine wpAny_bind (wpAny_rule (wpAny_bind ?_))
  refine wpAny_isSame_ref_other ne ix.at_ iy.at_ (by rw [ix.cls]; intro z; cases z) (wpAny_pure h)

theorem instEqAt (hu : A.units < cLine) (kin : K.In s.heap) (ix : PySem.W.InstAt s.heap x ox C od) (iy : PySem.W.InstAt s.heap y oy C ody) (ne : x ≠ y)
    (hm : PySem.W.mroIn K C (.type "object") = some true) (he : PySem.W.findIn K (.ref C) "__eq__" = some (some (.builtin "object.__eq__"))) :
    EqAt A s (.ref x) (.ref y) false := fun prog w E Q h => by
  unfold eqBool
  refine wpAny_holding (wpAny_ite_split (fun hab => ?_) fun _ => ?_)
  · exact absurd (by have z := eq_of_beq hab; injection z) ne
  · exact wpAny_bind (instRc hu kin ix iy ne hm he prog w E _ (wpAny_truthy_bool h))
end

/-! ### list.remove where == is told by the state at hand -/
open AutoSeq1 (wpAny_loadPart')
open MeetsSeq in
theorem removeLoopHere (l : Addr) (items : Array Value) (n : Nat) (x : Value) (e : Value → Bool) (j : Nat) (hj : j < items.size) (hit : e items[j] = true) (hs1 : items.size ≤ sizeLine) :
    ∀ (k i : Nat), j - i = k → i ≤ j → (∀ m (hm : m < items.size), i ≤ m → m < j → e items[m] = false) → Meets (Builtin.«list.remove.loop» ⟨[.ref l, x, rawInt i], []⟩)
      (fun A R s => (s.heap.get? l = some { cls := .type "list", dict := none, data := .seq items n, slots := #[] } ∧ (∀ y, y ∈ items → EqAt A.in1 s y x (e y))) ∧
        R (.ok (.ret .none)) { s with heap := s.heap.update l (Obj.mapSeq fun xs => xs.eraseIdxIfInBounds j) }) := by
  intro k
  induction k with
  | zero =>
    intro i hk hle _ prog w A R s ⟨⟨hl, he⟩, h⟩
    obtain rfl : i = j := Nat.le_antisymm hle (by omega)
    obtain ⟨hp, g, d, tk, os⟩ := s
    wp_walk using wpAny_loadPart' hl
    rw [show items[((i : Nat) : Int).toNat]? = some items[i] by simp [hj]]
    refine wpAny_bind (he _ (Array.getElem_mem hj) prog w _ _ ?_)
    rw [hit]
    have fits : (items.eraseIdxIfInBounds i).size ≤ sizeLine + 1 := Nat.le_trans (size_erased items _) (by omega)
    wp_walk using (wpAny_updateSeq hl rfl (hz := hs1) (_hz' := fits)), wpAny_loadPart' hl
    simpa using h
  | succ k ih =>
    intro i hk hle hno prog w A R s ⟨⟨hl, he⟩, h⟩
    have hlt : i < items.size := by omega
    obtain ⟨hp, g, d, tk, os⟩ := s
    wp_walk using wpAny_loadPart' hl
    rw [show items[((i : Nat) : Int).toNat]? = some items[i] by simp [hlt]]
    refine wpAny_bind (he _ (Array.getElem_mem hlt) prog w _ _ ?_)
    rw [hno i hlt (Nat.le_refl i) (by omega)]
    wp_walk
    rw [show ((i : Int) + 1) = ((i + 1 : Nat) : Int) by push_cast; rfl]
    refine ⟨plainId_quiet plain_remove_loop _, codeAny_builtin entry_remove_loop ?_⟩
    rw [Around.under_plainId plain_remove_loop _]
    have more := ih (i + 1) (by omega) (by omega) (fun m hm h1 h2 => hno m hm (by omega) h2)
    exact more prog w A R _ ⟨⟨hl, he⟩, h⟩
open MeetsSeq in
theorem removeHere (l : Addr) (items : Array Value) (n : Nat) (x : Value) (e : Value → Bool) (j : Nat) (hj : j < items.size) (hit : e items[j] = true)
    (hno : ∀ m (hm : m < items.size), m < j → e items[m] = false) (hs1 : items.size ≤ sizeLine) :
    Meets (Builtin.«list.remove» ⟨[.ref l, x], []⟩)
      (fun A R s => (s.heap.get? l = some { cls := .type "list", dict := none, data := .seq items n, slots := #[] } ∧ (∀ y, y ∈ items → EqAt A.in1 s y x (e y))) ∧
        R (.ok (.ret .none)) { s with heap := s.heap.update l (Obj.mapSeq fun xs => xs.eraseIdxIfInBounds j) }) := by
  intro prog w A R s ⟨⟨hl, he⟩, h⟩
  obtain ⟨hp, g, d, tk, os⟩ := s
  wp_walk using wpAny_loadPart' hl
  refine ⟨plainId_quiet plain_remove_loop _, codeAny_builtin entry_remove_loop ?_⟩
  rw [Around.under_plainId plain_remove_loop _]
  have loop := removeLoopHere l items n x e j hj hit hs1 j 0 rfl (Nat.zero_le j) (fun m hm _ h2 => hno m hm h2)
  exact loop prog w A R _ ⟨⟨hl, he⟩, h⟩

/-! ### lists of instances of one class, by their addresses -/
def isAt (a : Addr) (v : Value) : Bool := match v with
  | .ref b => b == a
  | _ => false
/-- what == of such instances asks of the class -/
structure EqC (K : PySem.W.Frag) (C : Addr) : Prop where
  m : PySem.W.mroIn K C (.type "object") = some true
  e : PySem.W.findIn K (.ref C) "__eq__" = some (some (.builtin "object.__eq__"))
/-- all of them stand there as instances -/
def Insts (C : Addr) (H : Hp) (as : List Addr) : Prop := ∀ a ∈ as, ∃ dx fs, H a = some (.ins C dx fs)
theorem refsVals : ∀ {as : List Addr} {us : List Value}, Vals (as.map V.ref) us → us = as.map Value.ref
  | [], us, r => by cases r; rfl
  | a :: as, us, r => by
    cases r with
    | cons h t => rw [show _ = Value.ref a from h, refsVals t]; rfl
section
variable {X : Cx}
theorem insts_eq {A : Around} {pins : List (Addr × Obj)} {σ : L2.St} {H : Hp} {s : Shared} {C a : Addr} {as : List Addr} (I : Inv X pins σ H s) (hu : A.units < cLine) (c : EqC X.K C)
    (hi : Insts C H as) (ha : a ∈ as) : ∀ y ∈ as.map Value.ref, EqAt A s y (.ref a) (isAt a y) := by
  intro y hy
  obtain ⟨b, hb, rfl⟩ := List.mem_map.mp hy
  by_cases q : b = a
  · subst q
    rw [show isAt b (.ref b) = true from beq_self_eq_true b]
    exact SeqAt.EqAt.same _
  · rw [show isAt a (.ref b) = false from beq_eq_false_iff_ne.mpr q]
    obtain ⟨dx, fs, e1⟩ := hi b hb
    obtain ⟨dy, gs, e2⟩ := hi a ha
    obtain ⟨mA, O, _⟩ := ins_get I.hok e1
    obtain ⟨mB, O2, _⟩ := ins_get I.hok e2
    obtain ⟨od, J, _⟩ := O.look
    obtain ⟨od2, J2, _⟩ := O2.look
    exact instEqAt hu I.kIn J J2 q c.m c.e
def rRemR (C : Addr) : V → List V → Hp → VK → Prop := fun x xs H Q => ∃ (l a : Addr) (as : List Addr) (j : Nat), x = .ref l ∧ xs = [.ref a] ∧ H l = some (.lst (as.map V.ref)) ∧ Insts C H as ∧
  as[j]? = some a ∧ (∀ m : Nat, m < j → as[m]? ≠ some a) ∧ Q .non (upd H l (.lst ((as.eraseIdx j).map V.ref)))
theorem erase_mapR : ∀ (l : List Addr) (j : Nat), (l.map V.ref).eraseIdx j = (l.eraseIdx j).map V.ref
  | [], _ => by simp
  | _ :: _, 0 => by simp
  | a :: r, j + 1 => by simp [erase_mapR r j]
theorem mt_removeR {C : Addr} (c : EqC X.K C) (hu : X.A.units + 1 < cLine) : MtM X "list.remove" (rRemR C) := by
  intro pins s σ H x xs v us Q I rx rxs h
  obtain ⟨l, a, as, j, rfl, rfl, hH, hi, hj, hno, q⟩ := h
  cases rx
  obtain ⟨u, rfl, ru⟩ := rxs.one
  cases ru
  obtain ⟨z, its, n, r, hl, e⟩ := I.lstM hH
  have ei := refsVals r
  rw [List.length_map] at hl z
  obtain ⟨hjn, hje⟩ := List.getElem?_eq_some_iff.mp hj
  have hsz : its.toArray.size = as.length := by rw [List.size_toArray, ei, List.length_map]
  have hjl : j < its.toArray.size := by omega
  have item : ∀ m (hm : m < its.toArray.size), its.toArray[m] = Value.ref (as[m]'(by omega)) := fun m hm => by simp [ei]
  refine call_meets PySem.F.slot_list_remove ⟨_, e, rfl⟩ PySem.F.entry_list_remove (PySem.F.args_list_remove_2 _ _)
    (removeHere l its.toArray n (.ref a) (isAt a) j hjl ?_ ?_ (by omega)) ⟨⟨e, ?_⟩, ?_⟩
  · rw [item j hjl, hje]
    exact beq_self_eq_true a
  · intro m hm hmj
    rw [item m hm]
    refine beq_eq_false_iff_ne.mpr fun e2 => hno m hmj ?_
    rw [List.getElem?_eq_getElem (by omega), e2]
  · intro y hy
    refine insts_eq I (by show X.A.units + 1 < cLine; exact hu) c hi (List.mem_of_getElem? hj) y ?_
    rw [← ei]
    simpa using hy
  · have rr := r.eraseIdx j
    rw [erase_mapR] at rr
    refine ⟨.non, _, I.lset (its' := its.eraseIdx j) (t' := s.toks) hH e ?_ rr ?_, rfl, q⟩
    · show its.toArray.eraseIdxIfInBounds j = _
      simp
    · rw [List.length_map]
      have := List.length_eraseIdx_le (l := as) (i := j)
      omega
def rIdxR (C : Addr) : V → List V → Hp → VK → Prop := fun x xs H Q => ∃ (l a : Addr) (as : List Addr) (j : Nat), x = .ref l ∧ xs = [.ref a] ∧ H l = some (.lst (as.map V.ref)) ∧ Insts C H as ∧
  as[j]? = some a ∧ (∀ m : Nat, m < j → as[m]? ≠ some a) ∧ Q (.int (j : Nat)) H
theorem mt_indexR {C : Addr} (c : EqC X.K C) (hu : X.A.units + 1 < cLine) : MtR X "list.index" (rIdxR C) := by
  intro pins s σ H x xs v us Q I rx rxs h
  obtain ⟨l, a, as, j, rfl, rfl, hH, hi, hj, hno, q⟩ := h
  cases rx
  obtain ⟨u, rfl, ru⟩ := rxs.one
  cases ru
  obtain ⟨z, its, n, r, hl, e⟩ := I.lstM hH
  have ei := refsVals r
  rw [List.length_map] at hl z
  obtain ⟨hjn, hje⟩ := List.getElem?_eq_some_iff.mp hj
  have hsz : its.toArray.size = as.length := by rw [List.size_toArray, ei, List.length_map]
  have hjl : j < its.toArray.size := by omega
  have hsl := sizeLine_eq
  have item : ∀ m (hm : m < its.toArray.size), its.toArray[m] = Value.ref (as[m]'(by omega)) := fun m hm => by simp [ei]
  refine call_meets PySem.F.slot_list_index ⟨_, e, rfl⟩ PySem.F.entry_list_index (PySem.F.args_list_index_2 _ _)
    (SeqAt.list_indexAt l its.toArray n none #[] (.ref a) (isAt a) j hjl (by omega) ?_ ?_) ⟨e, ?_, ?_⟩
  · rw [item j hjl, hje]
    exact beq_self_eq_true a
  · intro m hm hmj
    rw [item m hm]
    refine beq_eq_false_iff_ne.mpr fun e2 => hno m hmj ?_
    rw [List.getElem?_eq_getElem (by omega), e2]
  · intro y hy
    refine insts_eq I (by show X.A.units + 1 < cLine; exact hu) c hi (List.mem_of_getElem? hj) y ?_
    rw [← ei]
    simpa using hy
  · exact ⟨.int (j : Nat), H, I.tok _, ⟨_, rfl⟩, q⟩
end
end OL


/-! ## the mirror: one record for the bridge, one total function a def -/
namespace OL
/-- every second item -/
def every {α : Type} : List α → List α
  | [] => []
  | [a] => [a]
  | a :: _ :: r => a :: every r
/-- numbers from 1 to a most, of every second place -/
def areSpans (xs : List Nat) : Bool :=
  decide (xs.length % 2 = 0) && decide (1 ≤ xs.length / 2 ∧ xs.length / 2 ≤ 12) && ((every (xs.drop 0)).all fun n => decide (1 ≤ n ∧ n ≤ 5)) && ((every (xs.drop 1)).all fun n => decide (1 ≤ n ∧ n ≤ 1000))
structure Veh where
  side : Nat
  weight : Nat
  place : Nat
  cell : Nat
  went : Nat
structure M where
  turn : Nat
  cells : List Nat
  limits : List Nat
  cars : List Veh
  w0 : List Nat
  w1 : List Nat
  cross : List Nat
  side : Nat
  gone : Nat
  shut : Bool
  time : Nat
  most : List Nat
  mostAt : List Nat
def noVeh : Veh := ⟨0, 0, 0, 0, 0⟩
def spansFrom : Nat → List Nat → List Nat
  | _, [] => []
  | k, c :: r => List.replicate c k ++ spansFrom (k + 1) r
namespace M
def car (m : M) (i : Nat) : Veh := m.cars.getD i noVeh
def spanOf (m : M) : List Nat := spansFrom 0 m.cells
def N (m : M) : Nat := m.spanOf.length
def span (m : M) (c : Nat) : Nat := m.spanOf.getD c 0
def wait (m : M) (d : Nat) : List Nat := if d = 0 then m.w0 else m.w1
def limit (m : M) (k : Nat) : Nat := m.limits.getD k 0
def fresh (turn : Nat) (cells limits : List Nat) : M := ⟨turn, cells, limits, [], [], [], [], 0, 0, false, 0, List.replicate cells.length 0, List.replicate cells.length 0⟩
def setCar (m : M) (i : Nat) (v : Veh) : M := { m with cars := m.cars.set i v }
def put (m : M) (i place : Nat) : M := m.setCar i { m.car i with place := place, went := m.time }
def setCell (m : M) (i c : Nat) : M := m.setCar i { m.car i with cell := c }
def setWait (m : M) (d : Nat) (l : List Nat) : M := if d = 0 then { m with w0 := l } else { m with w1 := l }
def take (m : M) (i place : Nat) : M := (m.setWait (m.car i).side ((m.wait (m.car i).side).erase i)).put i place
def first (m : M) (d : Nat) : Nat := if d = 0 then 0 else m.N - 1
def last (m : M) (d : Nat) : Nat := m.first (1 - d)
def next (m : M) (i : Nat) : Nat := if (m.car i).side = 0 then (m.car i).cell + 1 else (m.car i).cell - 1
def free (m : M) (c : Nat) (ahead : List Nat) : Bool := ahead.all fun j => !decide ((m.car j).cell = c)
def on (m : M) (k : Nat) (ahead : List Nat) : List Nat := ahead.filter fun j => decide (m.span (m.car j).cell = k)
def borneBy (m : M) (k : Nat) (ahead : List Nat) : Nat := ((m.on k ahead).map fun j => (m.car j).weight).sum
def bearsIt (m : M) (k w : Nat) (ahead : List Nat) : Bool := decide (m.borneBy k ahead + w ≤ m.limit k)
def canMove (m : M) (i c : Nat) (ahead : List Nat) : Bool := m.free c ahead && (decide (m.span c = m.span (m.car i).cell) || m.bearsIt (m.span c) (m.car i).weight ahead)
/-- one turn of move_all's loop: the bridge, who has left, those ahead -/
def move1 (s : M × List Nat × List Nat) (i : Nat) : M × List Nat × List Nat :=
  if (s.1.car i).cell = s.1.last (s.1.car i).side then (s.1.put i 2, s.2.1 ++ [i], s.2.2)
  else (if s.1.canMove i (s.1.next i) s.2.2 = true then s.1.setCell i (s.1.next i) else s.1, s.2.1, s.2.2 ++ [i])
def moves (m : M) (l : List Nat) : M × List Nat × List Nat := l.foldl move1 (m, [], [])
def moveAll (m : M) : M := { (m.moves m.cross).1 with cross := (m.moves m.cross).2.2 }
def leaves (m : M) : List Nat := (m.moves m.cross).2.1
def over (m : M) : Bool := !(m.wait (1 - m.side)).isEmpty && ((m.wait m.side).isEmpty || decide (m.turn ≤ m.gone))
def change (m : M) : M := { m with side := 1 - m.side, gone := 0 }
def enters (m : M) (i : Nat) : M :=
  { ((m.take i 1).setCell i (m.first m.side)) with cross := m.cross ++ [i], gone := m.gone + 1 }
def letEnter (m : M) : M := match m.wait m.side with
  | [] => m
  | i :: _ => if m.free (m.first m.side) m.cross && m.bearsIt (m.span (m.first m.side)) (m.car i).weight m.cross then m.enters i else m
def borne1 (m : M) (ws : List Nat) (i : Nat) : List Nat := ws.set (m.span (m.car i).cell) (ws.getD (m.span (m.car i).cell) 0 + (m.car i).weight)
def borne (m : M) : List Nat := m.cross.foldl m.borne1 (List.replicate m.cells.length 0)
def most1 (m : M) (k w : Nat) : M := if m.most.getD k 0 < w then { m with most := m.most.set k w, mostAt := m.mostAt.set k m.time } else m
def mosts (m : M) : Nat → List Nat → M
  | _, [] => m
  | k, w :: r => mosts (m.most1 k w) (k + 1) r
def keepMost (m : M) : M := m.mosts 0 m.borne
def up (m : M) : M := { m with time := m.time + 1 }
def turned (m : M) : M := if m.cross.isEmpty && m.over then m.change else m
def entered (m : M) : M := if !m.shut && !m.over then m.letEnter else m
def tick (m : M) : M := (m.up.moveAll.turned.entered).keepMost
def left (m : M) : List Nat := m.up.leaves
def ticks : Nat → M → M
  | 0, m => m
  | n + 1, m => ticks n m.tick
def lefts : Nat → M → List Nat
  | 0, _ => []
  | n + 1, m => m.left ++ lefts n m.tick
def least (m : M) : Nat := m.limits.foldl min (m.limits.getD 0 0)
def heavy (m : M) : List Nat := (List.range m.cars.length).filter fun i => decide ((m.car i).place = 0) && decide (m.least < (m.car i).weight)
def send (m : M) (l : List Nat) : M := l.foldl (fun s i => s.take i 4) m
def sent (m : M) : M := m.send m.heavy
def add (m : M) (d w : Nat) : M := { (m.setWait d (m.wait d ++ [m.cars.length])) with cars := m.cars ++ [⟨d, w, 0, 0, 0⟩] }
def setLimit (m : M) (k w : Nat) : M := { m with limits := m.limits.set k w }
end M

/-- what a def may count on, ahead of an error -/
structure OK (m : M) : Prop where
  lim : m.limits.length = m.cells.length
  mo : m.most.length = m.cells.length
  ma : m.mostAt.length = m.cells.length
  some_ : 0 < m.cells.length
  few : m.cells.length ≤ 12
  pos : ∀ c ∈ m.cells, 1 ≤ c ∧ c ≤ 5
  sd : m.side ≤ 1
  num : m.cars.length ≤ 60
  csd : ∀ i, i < m.cars.length → (m.car i).side ≤ 1
  wt : ∀ d, d ≤ 1 → ∀ i ∈ m.wait d, i < m.cars.length ∧ (m.car i).side = d ∧ (m.car i).place = 0
  wnd : ∀ d, d ≤ 1 → (m.wait d).Nodup
  win : ∀ i, i < m.cars.length → (m.car i).place = 0 → i ∈ m.wait (m.car i).side
  cr : ∀ i ∈ m.cross, i < m.cars.length ∧ (m.car i).place = 1 ∧ (m.car i).cell < m.N
  cnd : m.cross.Nodup
  cin : ∀ i, i < m.cars.length → (m.car i).place = 1 → i ∈ m.cross
  len : m.w0.length + m.w1.length + m.cross.length ≤ m.cars.length
end OL


namespace OL
open PySem PySem.Spec PyProof.Rows L2 PySem.SeqAt

/-! ### every second item -/
theorem every_map {α β : Type} (f : α → β) : ∀ l : List α, every (l.map f) = (every l).map f
  | [] => rfl
  | [_] => rfl
  | a :: b :: r => by
    show f a :: every (r.map f) = f a :: (every r).map f
    rw [every_map f r]
theorem every_pick {α : Type} : ∀ l : List α, (List.range ((l.length + 1) / 2)).filterMap (fun k => l[2 * k]?) = every l
  | [] => by simp [every]
  | [a] => by simp [every]
  | a :: b :: r => by
    have e : ((a :: b :: r).length + 1) / 2 = (r.length + 1) / 2 + 1 := by simp only [List.length_cons]; omega
    rw [e, List.range_succ_eq_map, List.filterMap_cons]
    show a :: List.filterMap _ _ = a :: every r
    rw [← every_pick r, List.filterMap_map]
    congr 1
theorem every_len {α : Type} : ∀ l : List α, (every l).length = (l.length + 1) / 2
  | [] => by simp [every]
  | [_] => by simp [every]
  | _ :: _ :: r => by
    show (every r).length + 1 = (r.length + 1 + 1 + 1) / 2
    rw [every_len r]; omega
theorem pick_congr {α β : Type} {f g : α → Option β} : ∀ l : List α, (∀ x ∈ l, f x = g x) → l.filterMap f = l.filterMap g
  | [], _ => rfl
  | a :: r, h => by
    rw [List.filterMap_cons, List.filterMap_cons, h a (List.mem_cons_self ..), pick_congr r fun x hx => h x (List.mem_cons_of_mem _ hx)]
theorem slicePick_two (items : Array Value) (c : Nat) : slicePick items (some (c : Int)) none (some 2) = (every (items.toList.drop c)).toArray := by
  unfold slicePick sliceBounds
  simp only [Option.getD_some, show (2 : Int) > 0 by decide, if_true, show ¬ ((c : Int) < 0) by omega, if_false]
  rw [show max (0 : Int) (min (c : Int) (items.size : Int)) = ((min c items.size : Nat) : Int) by omega]
  unfold sliceRange
  simp only [show (2 : Int) > 0 by decide, if_true]
  rw [← every_pick]
  congr 1
  rw [List.filterMap_map]
  have hn : (if ((min c items.size : Nat) : Int) < (items.size : Int) then ((items.size : Int) - ((min c items.size : Nat) : Int) + 2 - 1) / 2 else 0).toNat = ((items.toList.drop c).length + 1) / 2 := by
    rw [List.length_drop, Array.length_toList]
    split <;> omega
  rw [hn]
  refine pick_congr _ fun k hk => ?_
  have hk := List.mem_range.mp hk
  rw [List.length_drop, Array.length_toList] at hk
  show items[(((min c items.size : Nat) : Int) + 2 * (k : Int)).toNat]? = (items.toList.drop c)[2 * k]?
  rw [List.getElem?_drop, Array.getElem?_toList]
  congr 1
  omega
theorem Vals_every : ∀ {xs : List V} {us : List Value}, Vals xs us → Vals (every xs) (every us)
  | _, _, .nil => .nil
  | _, _, .cons h .nil => .cons h .nil
  | _, _, .cons h (.cons _ t) => .cons h (Vals_every t)
section
variable {X : Cx}
def tTwo (K : PySem.W.Frag) (c : Nat) (te : TE) : TE := fun σ H Q => te σ H fun x H1 => ∃ a xs, x = .ref a ∧ SqL K H1 a xs ∧ ∀ p, H1 p = none → Q (.ref p) (upd H1 p (.lst (every (xs.drop c))))
theorem pe_two (c : Nat) {e : Expr} {te : TE} {k k2 : Nat} {p1 p2 p3 pos : Pos} (he : PE X e te) : PE X (.Subscript e (.Slice (some (.Constant (.int (c : Int)) k p1)) none (some (.Constant (.int 2) k2 p2)) p3) pos) (tTwo X.K c te) := by
  refine ⟨fun pins s σ H Q I h => ?_⟩
  refine Subscript_ (thn (he.run pins s σ H _ I h) fun v s1 ⟨x, H1, I1, r1, q1⟩ => ?_)
  obtain ⟨a, xs, rfl, hx, q⟩ := q1
  cases r1
  have lo : PO X (some (.Constant (.int (c : Int)) k p1)) (tPart (tC (.int (c : Int)))) := po_some pe_int
  have st : PO X (some (.Constant (.int 2) k2 p2)) (tPart (tC (.int 2))) := po_some pe_int
  refine wpAny_Slice (thn (lo.run pins s1 σ H1 (fun o H2 => o = some (c : Int) ∧ H2 = H1) I1 ⟨_, rfl, rfl, rfl⟩) fun vl s2 ⟨l, H2, I2, pl, el, e2⟩ => ?_)
  subst el e2
  refine thn (po_none.run pins s2 σ H2 (fun o H3 => o = none ∧ H3 = H2) I2 ⟨rfl, rfl⟩) fun vu s3 ⟨u, H3, I3, pu, eu, e3⟩ => ?_
  subst eu e3
  refine thn (st.run pins s3 σ H3 (fun o H4 => o = some 2 ∧ H4 = H3) I3 ⟨2, rfl, rfl, rfl⟩) fun vs s4 ⟨o, H4, I4, ps, eo, e4⟩ => ?_
  subst eo e4
  have I5 : Inv X pins σ H4 { s4 with heap := s4.heap.push { cls := .type "slice", data := .fields #[vl, vu, vs] } } := I4.kept (t' := s4.toks) fun b ob z => Heap.get?_push_of_some _ z
  obtain ⟨its, r, ht, hz⟩ := I5.list hx
  have hlen := r.length
  show wpAny _ X.A (subscriptTail e _ (.ref a) (.ref s4.heap.objs.size)) _ X.xe _
  refine tail_any (ops := [.ref a, .ref s4.heap.objs.size]) ht.isList.typeIs (PySem.slot_list_getitem.lookup) ?_ (by with_unfolding_all rfl)
  refine wpAny_getItem_list_slice ht.isList (Heap.IsSliceOf.new _ vl vu vs) pl pu ps (by decide) ?_ (by rw [List.size_toArray]; omega)
  rw [slicePick_two]
  refine ⟨.ref _, _, I5.laid (t' := s4.toks) (o := .lst (every (xs.drop c))) (fun b ob z => Heap.get?_push_of_some _ z) (Nat.le_refl _) ?_, rfl, q _ (I5.hok.fresh (Nat.le_refl _))⟩
  refine ⟨?_, _, 0, Vals_every (r.drop c), Heap.get?_push_size _ rfl⟩
  rw [every_len, List.length_drop]
  omega

/-! ### o[i] op= e of a list -/
def rGetL (K : PySem.W.Frag) : R2 := fun x y H Q => ∃ (p : Addr) (xs : List V) (j : Nat) (v : V), x = .ref p ∧ y = .int (j : Int) ∧ SqL K H p xs ∧ xs[j]? = some v ∧ Q v H
theorem pg_ixL : PGet X (rGetL X.K) := by
  intro pins s σ H o i ov iv Q I ro ri h
  obtain ⟨p, xs, j, z, rfl, rfl, hq, he, q⟩ := h
  cases ro
  obtain ⟨t, rfl⟩ := ri
  obtain ⟨its, r, pl, hz⟩ := I.list hq
  obtain ⟨w, ew, rw'⟩ := r.get he
  have hl := (List.getElem?_eq_some_iff.mp he).1
  have hn := line63
  exact wpAny_getItem_list pl.isList (by omega) (by omega) (by simpa using ew) ⟨z, H, I, rw', q⟩

/-! ### names of the module; calls in short -/
theorem gl {x : Str} {v : V} {pos : Pos} (h : ∃ u, X.mg x = some u ∧ RelV v u) (hg : Gl X x := by rfl) (hd : (x == ("__debug__" : Str)) = false := by decide) : PE X (.Name x pos) (tC v) := by
  obtain ⟨u, hm, r⟩ := h
  exact pe_glob hg hm r hd
end
section
variable (P : Program) (w : World) (K : PySem.W.Frag) (mg : Str → Option Value) (base : Heap)
/-- a def under its name, with its promise -/
structure Cal (k : Nat) (x : Str) (sp : Sp) : Prop where
  ex : ∃ (f : Addr) (fd : FuncData) (ps : List Str), FnOk P w K mg base CX0 k f fd ps sp ∧ mg x = some (.ref f) ∧ PySem.W.keepIn K (.ref f) = true ∧ Binds K fd ps []
/-- a method of the class at C -/
structure Met (k : Nat) (C : Addr) (m : Str) (sp : Sp) : Prop where
  ex : ∃ (f : Addr) (fd : FuncData) (ps : List Str), Cls K C ∧ L2.Meth K C m f ∧ FnOk P w K mg base CX0 k f fd ps sp ∧ Binds K fd ps []
/-- a class that is called; sp: its __init__ -/
structure Mak (k : Nat) (x : Str) (C : Addr) (sp : Sp) : Prop where
  ex : ∃ (f : Addr) (fd : FuncData) (ps : List Str), L2.Mk K C f ∧ FnOk P w K mg base CX0 k f fd ps sp ∧ mg x = some (.ref C) ∧ Binds K fd ps []
end
section
variable {X : Cx} {k j : Nat} {C : Addr} {x m : Str} {sp : Sp} {p pos apos : Pos} {e o : Expr} {es : List Expr} {ta : TE} {t : TA}
theorem pe_c (c : Cal X.prog X.w X.K X.mg X.base k x sp) (hr : Room j X.A) (hk : k ≤ j) (ha : PA X (e :: es) t) (hg : Gl X x := by rfl)
    (hdb : (x == ("__debug__" : Str)) = false := by decide) (he : starEach (e :: es) X.env = (false, eval e X.env) :: starEach es X.env := by rfl) (hpl : (backTo pos (starEach es X.env)).any (·.1) = false := by rfl) :
    PE X (.Call (.Name x p) (e :: es) [] pos) (tCall sp [] E0 t) := by
  obtain ⟨f, fd, ps, F, hm, kp, b⟩ := c.ex
  exact pe_call F (hr.mono hk) hg hm kp b .nil pass0 ha hdb he hpl
theorem pe_k (c : Mak X.prog X.w X.K X.mg X.base k x C sp) (hr : Room j X.A) (hk : k + 1 ≤ j) (ha : PA X (e :: es) t) (hg : Gl X x := by rfl)
    (hdb : (x == ("__debug__" : Str)) = false := by decide) (he : starEach (e :: es) X.env = (false, eval e X.env) :: starEach es X.env := by rfl) (hpl : (backTo pos (starEach es X.env)).any (·.1) = false := by rfl) :
    PE X (.Call (.Name x p) (e :: es) [] pos) (tMake C sp [] E0 t) := by
  obtain ⟨f, fd, ps, M, F, hm, b⟩ := c.ex
  exact pe_make M F (hr.mono hk) hg hm b .nil pass0 ha hdb he hpl
theorem pe_k0 (c : Mak X.prog X.w X.K X.mg X.base k x C sp) (hr : Room j X.A) (hk : k + 1 ≤ j) (hg : Gl X x := by rfl)
    (hdb : (x == ("__debug__" : Str)) = false := by decide) :
    PE X (.Call (.Name x p) [] [] pos) (tMake C sp [] E0 tNil) := by
  obtain ⟨f, fd, ps, M, F, hm, b⟩ := c.ex
  exact pe_make0 M F (hr.mono hk) hg hm b .nil pass0 hdb
theorem pe_m {pl : Sem Bool} (c : Met X.prog X.w X.K X.mg X.base k C m sp) (hr : Room j X.A) (hk : k ≤ j) (he : PE X o ta) (ha : PA X (e :: es) t)
    (hst : starEach (e :: es) X.env = (false, eval e X.env) :: starEach es X.env := by rfl) (hpl : (backTo pos (starEach es X.env)).any (·.1) = false := by rfl)
    (ht : eval (.Call (.Attribute o m apos) (e :: es) [] pos) X.env = (do
      let ov ← eval o X.env
      standAt apos.atName
      let (f, first) ← holding [ov] (getMethod ov m pl)
      callWith pos f first (backTo pos (starEach (e :: es) X.env)) (backToKw pos (keywordEach [] X.env))) := by rfl) :
    PE X (.Call (.Attribute o m apos) (e :: es) [] pos) (tMeth C m sp [] E0 ta t) := by
  obtain ⟨f, fd, ps, hc, hm, F, b⟩ := c.ex
  exact pe_meth (pl := pl) he hc hm F (hr.mono hk) b .nil pass0 ha hst hpl ht
theorem pe_m0 {pl : Sem Bool} (c : Met X.prog X.w X.K X.mg X.base k C m sp) (hr : Room j X.A) (hk : k ≤ j) (he : PE X o ta)
    (ht : eval (.Call (.Attribute o m apos) [] [] pos) X.env = (do
      let ov ← eval o X.env
      standAt apos.atName
      let (f, first) ← holding [ov] (getMethod ov m pl)
      callWith pos f first (backTo pos (starEach [] X.env)) (backToKw pos (keywordEach [] X.env))) := by rfl) :
    PE X (.Call (.Attribute o m apos) [] [] pos) (tMeth C m sp [] E0 ta tNil) := by
  obtain ⟨f, fd, ps, hc, hm, F, b⟩ := c.ex
  exact pe_meth0 (pl := pl) he hc hm F (hr.mono hk) b .nil pass0 ht
/-- a def that a value is, called: the promise goes with the address -/
structure Held (P : Program) (w : World) (K : PySem.W.Frag) (mg : Str → Option Value) (base : Heap) (k : Nat) (f : Addr) (sp : Sp) : Prop where
  ex : ∃ (fd : FuncData) (ps : List Str), FnOk P w K mg base CX0 k f fd ps sp ∧ PySem.W.keepIn K (.ref f) = true ∧ Binds K fd ps []
def tCallS (S : Addr → Sp → Prop) (tf : TE) (t : TA) : TE := fun σ H Q => tf σ H fun v H1 => ∃ f sp, v = .ref f ∧ S f sp ∧ t σ H1 fun vs H2 => sp vs H2 Q E0
/-- xs[i](e, ..) -/
theorem pe_callS {S : Addr → Sp → Prop} {a b : Expr} {tf : TE} (hf : PE X (.Subscript a b p) tf) (A : ∀ f sp, S f sp → Held X.prog X.w X.K X.mg X.base k f sp) (hr : Room j X.A) (hk : k ≤ j) (ha : PA X (e :: es) t)
    (he : starEach (e :: es) X.env = (false, eval e X.env) :: starEach es X.env := by rfl) (hpl : (backTo pos (starEach es X.env)).any (·.1) = false := by rfl) :
    PE X (.Call (.Subscript a b p) (e :: es) [] pos) (tCallS S tf t) := by
  refine ⟨fun pins s σ H Q I h => ?_⟩
  show wpAny _ X.A (do callWith pos (← eval (.Subscript a b p) X.env) [] (backTo pos (starEach (e :: es) X.env)) (backToKw pos (keywordEach [] X.env))) _ X.xe s
  refine wpAny_bind (thn (hf.run pins s σ H _ I h) fun u s1 ⟨v, H1, I1, r1, f, sp, ev, hS, ht⟩ => ?_)
  subst ev
  cases r1
  obtain ⟨fd, ps, F, kp, hb⟩ := (A f sp hS).ex
  refine PySem.W.callWith_K (h₀ := X.base) I1.ok.mod.kin kp (thn (ha.run pos pins s1 σ _ _ I1 ht) fun us s2 ⟨vs, H2, I2, r, q⟩ => ⟨I2.kIn, ?_⟩) he hpl
  exact run_fn (dvs := []) F (hr.mono hk) hb .nil pass0 I2 r (by rw [List.append_nil]; exact q)
end
end OL


namespace OL
open PySem PySem.Spec PyProof.Rows L2
/-! ## the text by places -/
def top (i : Nat) : Stmt := PySem.Challenge.pw_onelanedesk_s01_answers.main.body.getD i (.Pass ⟨0, 0, 0, 0⟩)
abbrev s_Vehicle_init : Stmt := inClass (top 15) 0
abbrev n_Vehicle_init : List Str := ["self", "number", "side", "weight"]
theorem sc_Vehicle_init : FnScope n_Vehicle_init ["self", "number", "side", "weight"] (defScope s_Vehicle_init) := ⟨rfl, rfl, rfl, by decide +kernel, rfl, by decide +kernel, by decide +kernel⟩
abbrev s_Vehicle_twin : Stmt := inClass (top 15) 1
abbrev n_Vehicle_twin : List Str := ["self", "other"]
theorem sc_Vehicle_twin : FnScope n_Vehicle_twin ["self"] (defScope s_Vehicle_twin) := ⟨rfl, rfl, rfl, by decide +kernel, rfl, by decide +kernel, by decide +kernel⟩
abbrev s_Bridge_init : Stmt := inClass (top 16) 0
abbrev n_Bridge_init : List Str := ["self"]
theorem sc_Bridge_init : FnScope n_Bridge_init ["self"] (defScope s_Bridge_init) := ⟨rfl, rfl, rfl, by decide +kernel, rfl, by decide +kernel, by decide +kernel⟩
abbrev s_Bridge_renew : Stmt := inClass (top 16) 1
abbrev n_Bridge_renew : List Str := ["self", "turn", "cells", "limits", "span", "many"]
theorem sc_Bridge_renew : FnScope n_Bridge_renew ["self", "turn", "cells", "limits"] (defScope s_Bridge_renew) := ⟨rfl, rfl, rfl, by decide +kernel, rfl, by decide +kernel, by decide +kernel⟩
abbrev s_Bridge_copied : Stmt := inClass (top 16) 2
abbrev n_Bridge_copied : List Str := ["self", "other", "side", "vehicle"]
theorem sc_Bridge_copied : FnScope n_Bridge_copied ["self"] (defScope s_Bridge_copied) := ⟨rfl, rfl, rfl, by decide +kernel, rfl, by decide +kernel, by decide +kernel⟩
abbrev s_Bridge_least_limit : Stmt := inClass (top 16) 3
abbrev n_Bridge_least_limit : List Str := ["self"]
theorem sc_Bridge_least_limit : FnScope n_Bridge_least_limit ["self"] (defScope s_Bridge_least_limit) := ⟨rfl, rfl, rfl, by decide +kernel, rfl, by decide +kernel, by decide +kernel⟩
abbrev s_Bridge_how_many_wait : Stmt := inClass (top 16) 4
abbrev n_Bridge_how_many_wait : List Str := ["self"]
theorem sc_Bridge_how_many_wait : FnScope n_Bridge_how_many_wait ["self"] (defScope s_Bridge_how_many_wait) := ⟨rfl, rfl, rfl, by decide +kernel, rfl, by decide +kernel, by decide +kernel⟩
abbrev s_Bridge_add_vehicle : Stmt := inClass (top 16) 5
abbrev n_Bridge_add_vehicle : List Str := ["self", "side", "weight", "vehicle"]
theorem sc_Bridge_add_vehicle : FnScope n_Bridge_add_vehicle ["self", "side", "weight"] (defScope s_Bridge_add_vehicle) := ⟨rfl, rfl, rfl, by decide +kernel, rfl, by decide +kernel, by decide +kernel⟩
abbrev s_Bridge_put : Stmt := inClass (top 16) 6
abbrev n_Bridge_put : List Str := ["self", "vehicle", "place"]
theorem sc_Bridge_put : FnScope n_Bridge_put ["self", "vehicle", "place"] (defScope s_Bridge_put) := ⟨rfl, rfl, rfl, by decide +kernel, rfl, by decide +kernel, by decide +kernel⟩
abbrev s_Bridge_take_from_waiting : Stmt := inClass (top 16) 7
abbrev n_Bridge_take_from_waiting : List Str := ["self", "vehicle", "place"]
theorem sc_Bridge_take_from_waiting : FnScope n_Bridge_take_from_waiting ["self", "vehicle", "place"] (defScope s_Bridge_take_from_waiting) := ⟨rfl, rfl, rfl, by decide +kernel, rfl, by decide +kernel, by decide +kernel⟩
abbrev s_Bridge_send_heavy_away : Stmt := inClass (top 16) 8
abbrev n_Bridge_send_heavy_away : List Str := ["self", "least", "sent", "vehicle"]
theorem sc_Bridge_send_heavy_away : FnScope n_Bridge_send_heavy_away ["self"] (defScope s_Bridge_send_heavy_away) := ⟨rfl, rfl, rfl, by decide +kernel, rfl, by decide +kernel, by decide +kernel⟩
abbrev s_Bridge_first_cell : Stmt := inClass (top 16) 9
abbrev n_Bridge_first_cell : List Str := ["self", "side"]
theorem sc_Bridge_first_cell : FnScope n_Bridge_first_cell ["self", "side"] (defScope s_Bridge_first_cell) := ⟨rfl, rfl, rfl, by decide +kernel, rfl, by decide +kernel, by decide +kernel⟩
abbrev s_Bridge_last_cell : Stmt := inClass (top 16) 10
abbrev n_Bridge_last_cell : List Str := ["self", "side"]
theorem sc_Bridge_last_cell : FnScope n_Bridge_last_cell ["self", "side"] (defScope s_Bridge_last_cell) := ⟨rfl, rfl, rfl, by decide +kernel, rfl, by decide +kernel, by decide +kernel⟩
abbrev s_Bridge_next_cell : Stmt := inClass (top 16) 11
abbrev n_Bridge_next_cell : List Str := ["self", "vehicle"]
theorem sc_Bridge_next_cell : FnScope n_Bridge_next_cell ["self", "vehicle"] (defScope s_Bridge_next_cell) := ⟨rfl, rfl, rfl, by decide +kernel, rfl, by decide +kernel, by decide +kernel⟩
abbrev s_Bridge_is_free : Stmt := inClass (top 16) 12
abbrev n_Bridge_is_free : List Str := ["self", "cell", "ahead", "other"]
theorem sc_Bridge_is_free : FnScope n_Bridge_is_free ["self", "cell", "ahead"] (defScope s_Bridge_is_free) := ⟨rfl, rfl, rfl, by decide +kernel, rfl, by decide +kernel, by decide +kernel⟩
abbrev s_Bridge_can_bear : Stmt := inClass (top 16) 13
abbrev n_Bridge_can_bear : List Str := ["self", "span", "weight", "ahead", "borne", "other"]
theorem sc_Bridge_can_bear : FnScope n_Bridge_can_bear ["self", "span", "weight", "ahead"] (defScope s_Bridge_can_bear) := ⟨rfl, rfl, rfl, by decide +kernel, rfl, by decide +kernel, by decide +kernel⟩
abbrev s_Bridge_can_move : Stmt := inClass (top 16) 14
abbrev n_Bridge_can_move : List Str := ["self", "vehicle", "cell", "ahead", "span"]
theorem sc_Bridge_can_move : FnScope n_Bridge_can_move ["self", "vehicle", "cell", "ahead"] (defScope s_Bridge_can_move) := ⟨rfl, rfl, rfl, by decide +kernel, rfl, by decide +kernel, by decide +kernel⟩
abbrev s_Bridge_move_all : Stmt := inClass (top 16) 15
abbrev n_Bridge_move_all : List Str := ["self", "gone", "ahead", "vehicle", "cell"]
theorem sc_Bridge_move_all : FnScope n_Bridge_move_all ["self"] (defScope s_Bridge_move_all) := ⟨rfl, rfl, rfl, by decide +kernel, rfl, by decide +kernel, by decide +kernel⟩
abbrev s_Bridge_turn_is_over : Stmt := inClass (top 16) 16
abbrev n_Bridge_turn_is_over : List Str := ["self"]
theorem sc_Bridge_turn_is_over : FnScope n_Bridge_turn_is_over ["self"] (defScope s_Bridge_turn_is_over) := ⟨rfl, rfl, rfl, by decide +kernel, rfl, by decide +kernel, by decide +kernel⟩
abbrev s_Bridge_change_sides : Stmt := inClass (top 16) 17
abbrev n_Bridge_change_sides : List Str := ["self"]
theorem sc_Bridge_change_sides : FnScope n_Bridge_change_sides ["self"] (defScope s_Bridge_change_sides) := ⟨rfl, rfl, rfl, by decide +kernel, rfl, by decide +kernel, by decide +kernel⟩
abbrev s_Bridge_let_enter : Stmt := inClass (top 16) 18
abbrev n_Bridge_let_enter : List Str := ["self", "vehicle", "cell"]
theorem sc_Bridge_let_enter : FnScope n_Bridge_let_enter ["self"] (defScope s_Bridge_let_enter) := ⟨rfl, rfl, rfl, by decide +kernel, rfl, by decide +kernel, by decide +kernel⟩
abbrev s_Bridge_borne : Stmt := inClass (top 16) 19
abbrev n_Bridge_borne : List Str := ["self", "weights", "vehicle"]
theorem sc_Bridge_borne : FnScope n_Bridge_borne ["self"] (defScope s_Bridge_borne) := ⟨rfl, rfl, rfl, by decide +kernel, rfl, by decide +kernel, by decide +kernel⟩
abbrev s_Bridge_keep_most : Stmt := inClass (top 16) 20
abbrev n_Bridge_keep_most : List Str := ["self", "span", "weight"]
theorem sc_Bridge_keep_most : FnScope n_Bridge_keep_most ["self"] (defScope s_Bridge_keep_most) := ⟨rfl, rfl, rfl, by decide +kernel, rfl, by decide +kernel, by decide +kernel⟩
abbrev s_Bridge_tick : Stmt := inClass (top 16) 21
abbrev n_Bridge_tick : List Str := ["self", "gone"]
theorem sc_Bridge_tick : FnScope n_Bridge_tick ["self"] (defScope s_Bridge_tick) := ⟨rfl, rfl, rfl, by decide +kernel, rfl, by decide +kernel, by decide +kernel⟩
abbrev s_Bridge_will_leave : Stmt := inClass (top 16) 22
abbrev n_Bridge_will_leave : List Str := ["self", "vehicle"]
theorem sc_Bridge_will_leave : FnScope n_Bridge_will_leave ["self", "vehicle"] (defScope s_Bridge_will_leave) := ⟨rfl, rfl, rfl, by decide +kernel, rfl, by decide +kernel, by decide +kernel⟩
abbrev s_Bridge_ticks_until_left : Stmt := inClass (top 16) 23
abbrev n_Bridge_ticks_until_left : List Str := ["self", "number", "foreseen", "vehicle"]
theorem sc_Bridge_ticks_until_left : FnScope n_Bridge_ticks_until_left ["self", "number"] (defScope s_Bridge_ticks_until_left) := ⟨rfl, rfl, rfl, by decide +kernel, rfl, by decide +kernel, by decide +kernel⟩
abbrev s_is_within : Stmt := top 17
abbrev n_is_within : List Str := ["number", "highest"]
theorem sc_is_within : FnScope n_is_within ["number", "highest"] (defScope s_is_within) := ⟨rfl, rfl, rfl, by decide +kernel, rfl, by decide +kernel, by decide +kernel⟩
abbrev s_with_row : Stmt := top 18
abbrev n_with_row : List Str := ["first", "row"]
theorem sc_with_row : FnScope n_with_row ["first", "row"] (defScope s_with_row) := ⟨rfl, rfl, rfl, by decide +kernel, rfl, by decide +kernel, by decide +kernel⟩
abbrev s_by_twos : Stmt := top 19
abbrev n_by_twos : List Str := ["firsts", "seconds", "row", "first", "second"]
theorem sc_by_twos : FnScope n_by_twos ["firsts", "seconds"] (defScope s_by_twos) := ⟨rfl, rfl, rfl, by decide +kernel, rfl, by decide +kernel, by decide +kernel⟩
abbrev s_numbers_of : Stmt := top 20
abbrev n_numbers_of : List Str := ["vehicles", "vehicle"]
theorem sc_numbers_of : FnScope n_numbers_of ["vehicles"] (defScope s_numbers_of) := ⟨rfl, rfl, rfl, by decide +kernel, rfl, by decide +kernel, by decide +kernel⟩
abbrev s_are_spans : Stmt := top 21
abbrev n_are_spans : List Str := ["spans", "cells_fit", "many", "bound"]
theorem sc_are_spans : FnScope n_are_spans ["spans"] (defScope s_are_spans) := ⟨rfl, rfl, rfl, by decide +kernel, rfl, by decide +kernel, by decide +kernel⟩
abbrev s_begins : Stmt := top 22
abbrev n_begins : List Str := ["bridge", "numbers", "turn", "spans"]
theorem sc_begins : FnScope n_begins ["bridge", "numbers"] (defScope s_begins) := ⟨rfl, rfl, rfl, by decide +kernel, rfl, by decide +kernel, by decide +kernel⟩
abbrev s_comes : Stmt := top 23
abbrev n_comes : List Str := ["bridge", "numbers", "side", "weight"]
theorem sc_comes : FnScope n_comes ["bridge", "numbers"] (defScope s_comes) := ⟨rfl, rfl, rfl, by decide +kernel, rfl, by decide +kernel, by decide +kernel⟩
abbrev s_gives : Stmt := top 24
abbrev n_gives : List Str := ["bridge", "numbers", "number", "vehicle"]
theorem sc_gives : FnScope n_gives ["bridge", "numbers"] (defScope s_gives) := ⟨rfl, rfl, rfl, by decide +kernel, rfl, by decide +kernel, by decide +kernel⟩
abbrev s_ticks : Stmt := top 25
abbrev n_ticks : List Str := ["bridge", "numbers", "many", "gone", "past"]
theorem sc_ticks : FnScope n_ticks ["bridge", "numbers"] (defScope s_ticks) := ⟨rfl, rfl, rfl, by decide +kernel, rfl, by decide +kernel, by decide +kernel⟩
abbrev s_limit : Stmt := top 26
abbrev n_limit : List Str := ["bridge", "numbers", "span", "bound", "sent"]
theorem sc_limit : FnScope n_limit ["bridge", "numbers"] (defScope s_limit) := ⟨rfl, rfl, rfl, by decide +kernel, rfl, by decide +kernel, by decide +kernel⟩
abbrev s_shut : Stmt := top 27
abbrev n_shut : List Str := ["bridge", "numbers", "truth"]
theorem sc_shut : FnScope n_shut ["bridge", "numbers"] (defScope s_shut) := ⟨rfl, rfl, rfl, by decide +kernel, rfl, by decide +kernel, by decide +kernel⟩
abbrev s_where : Stmt := top 28
abbrev n_where : List Str := ["bridge", "numbers", "number", "vehicle"]
theorem sc_where : FnScope n_where ["bridge", "numbers"] (defScope s_where) := ⟨rfl, rfl, rfl, by decide +kernel, rfl, by decide +kernel, by decide +kernel⟩
abbrev s_when : Stmt := top 29
abbrev n_when : List Str := ["bridge", "numbers", "number"]
theorem sc_when : FnScope n_when ["bridge", "numbers"] (defScope s_when) := ⟨rfl, rfl, rfl, by decide +kernel, rfl, by decide +kernel, by decide +kernel⟩
abbrev s_loads : Stmt := top 30
abbrev n_loads : List Str := ["bridge", "numbers"]
theorem sc_loads : FnScope n_loads ["bridge", "numbers"] (defScope s_loads) := ⟨rfl, rfl, rfl, by decide +kernel, rfl, by decide +kernel, by decide +kernel⟩
abbrev s_queue : Stmt := top 31
abbrev n_queue : List Str := ["bridge", "numbers", "side", "waiting"]
theorem sc_queue : FnScope n_queue ["bridge", "numbers"] (defScope s_queue) := ⟨rfl, rfl, rfl, by decide +kernel, rfl, by decide +kernel, by decide +kernel⟩
abbrev s_most : Stmt := top 32
abbrev n_most : List Str := ["bridge", "numbers"]
theorem sc_most : FnScope n_most ["bridge", "numbers"] (defScope s_most) := ⟨rfl, rfl, rfl, by decide +kernel, rfl, by decide +kernel, by decide +kernel⟩
abbrev s_state : Stmt := top 33
abbrev n_state : List Str := ["bridge", "numbers", "turns", "spans", "crossing", "answer", "row", "vehicle"]
theorem sc_state : FnScope n_state ["bridge", "numbers"] (defScope s_state) := ⟨rfl, rfl, rfl, by decide +kernel, rfl, by decide +kernel, by decide +kernel⟩
abbrev s_end_of_call : Stmt := top 37
abbrev n_end_of_call : List Str := ["calls", "start", "end"]
theorem sc_end_of_call : FnScope n_end_of_call ["calls", "start"] (defScope s_end_of_call) := ⟨rfl, rfl, rfl, by decide +kernel, rfl, by decide +kernel, by decide +kernel⟩
abbrev s_answers : Stmt := top 38
abbrev n_answers : List Str := ["calls", "bridge", "given", "start", "end", "answer"]
theorem sc_answers : FnScope n_answers ["calls"] (defScope s_answers) := ⟨rfl, rfl, rfl, by decide +kernel, rfl, by decide +kernel, by decide +kernel⟩
/-- what the top has written -/
structure Txt (K : PySem.W.Frag) (mg : Str → Option Value) (CV CB CT PN : Addr) : Prop where
  clV : Cls K CV
  clB : Cls K CB
  eqV : EqC K CV
  v_number : NoAttr K CV "number"
  v_side : NoAttr K CV "side"
  v_weight : NoAttr K CV "weight"
  v_place : NoAttr K CV "place"
  v_cell : NoAttr K CV "cell"
  v_went_at : NoAttr K CV "went_at"
  a_turn : NoAttr K CB "turn"
  a_cells : NoAttr K CB "cells"
  a_limits : NoAttr K CB "limits"
  a_span_of : NoAttr K CB "span_of"
  a_came : NoAttr K CB "came"
  a_waiting : NoAttr K CB "waiting"
  a_crossing : NoAttr K CB "crossing"
  a_open_side : NoAttr K CB "open_side"
  a_entered : NoAttr K CB "entered"
  a_is_shut : NoAttr K CB "is_shut"
  a_time : NoAttr K CB "time"
  a_most_borne : NoAttr K CB "most_borne"
  a_most_borne_at : NoAttr K CB "most_borne_at"
  g_LEFT : ∃ u, mg "LEFT" = some u ∧ RelV (.int 0) u
  g_RIGHT : ∃ u, mg "RIGHT" = some u ∧ RelV (.int 1) u
  g_MOST_TURN : ∃ u, mg "MOST_TURN" = some u ∧ RelV (.int 20) u
  g_MOST_SPANS : ∃ u, mg "MOST_SPANS" = some u ∧ RelV (.int 12) u
  g_MOST_CELLS : ∃ u, mg "MOST_CELLS" = some u ∧ RelV (.int 5) u
  g_MOST_LIMIT : ∃ u, mg "MOST_LIMIT" = some u ∧ RelV (.int 1000) u
  g_MOST_WEIGHT : ∃ u, mg "MOST_WEIGHT" = some u ∧ RelV (.int 1000) u
  g_MOST_TICKS : ∃ u, mg "MOST_TICKS" = some u ∧ RelV (.int 1000) u
  g_MOST_VEHICLES : ∃ u, mg "MOST_VEHICLES" = some u ∧ RelV (.int 60) u
  g_WAITS : ∃ u, mg "WAITS" = some u ∧ RelV (.int 0) u
  g_CROSSES : ∃ u, mg "CROSSES" = some u ∧ RelV (.int 1) u
  g_HAS_LEFT : ∃ u, mg "HAS_LEFT" = some u ∧ RelV (.int 2) u
  g_GAVE_UP : ∃ u, mg "GAVE_UP" = some u ∧ RelV (.int 3) u
  g_SENT_AWAY : ∃ u, mg "SENT_AWAY" = some u ∧ RelV (.int 4) u
  g_BEGINS : ∃ u, mg "BEGINS" = some u ∧ RelV (.int 0) u
  b_len : mg "len" = none
  b_list : mg "list" = none
  b_min : mg "min" = none
  b_sum : mg "sum" = none
  b_all : mg "all" = none
  b_range : mg "range" = none
  b_enumerate : mg "enumerate" = none
  b_zip : mg "zip" = none
  g_CALLS : ∃ u, mg "CALLS" = some u ∧ RelV (.ref CT) u
  g_PLAIN_NUMBERS : ∃ u, mg "PLAIN_NUMBERS" = some u ∧ RelV (.ref PN) u
  plain : ∀ H, SqT K H PN [.int 1, .int 2, .int 1, .int 1, .int 2, .int 1, .int 1, .int 1, .int 0, .int 1, .int 0, .int 0]
end OL


namespace OL
open PySem PySem.Spec PyProof.Rows L2
/-! ## how the mirror lies in the heap -/
/-! ### fields by place -/
theorem zlook {ks : List Str} (nd : ks.Nodup) : ∀ {vs : List V} {i : Nat} {f : Str} {v : V}, ks[i]? = some f → vs[i]? = some v → (ks.zip vs).lookup f = some v := by
  induction ks with
  | nil => intro vs i f v h _; simp at h
  | cons k r ih =>
    intro vs i f v h hv
    cases vs with
    | nil => simp at hv
    | cons x xs =>
      obtain ⟨n1, n2⟩ := List.nodup_cons.mp nd
      cases i with
      | zero =>
        have e1 : k = f := Option.some.inj h
        have e2 : x = v := Option.some.inj hv
        subst e1 e2
        show List.lookup k ((k, x) :: r.zip xs) = some x
        simp
      | succ i =>
        have h' : r[i]? = some f := h
        have hv' : xs[i]? = some v := hv
        have ne : (f == k) = false := beq_eq_false_iff_ne.mpr fun e => n1 (e ▸ List.mem_of_getElem? h')
        show List.lookup f ((k, x) :: r.zip xs) = some v
        rw [List.lookup_cons, ne]
        exact ih n2 h' hv'
theorem zno {ks : List Str} : ∀ {vs : List V} {f : Str}, f ∉ ks → (ks.zip vs).lookup f = none := by
  induction ks with
  | nil => intro vs f _; rfl
  | cons k r ih =>
    intro vs f h
    cases vs with
    | nil => rfl
    | cons x xs =>
      have ne : (f == k) = false := beq_eq_false_iff_ne.mpr fun e => h (e ▸ List.mem_cons_self ..)
      show List.lookup f ((k, x) :: r.zip xs) = none
      rw [List.lookup_cons, ne]
      exact ih fun m => h (List.mem_cons_of_mem _ m)
theorem zput {ks : List Str} (nd : ks.Nodup) : ∀ {vs : List V} {i : Nat} {f : Str} {v : V}, ks[i]? = some f → ks.length = vs.length → putF f v (ks.zip vs) = ks.zip (vs.set i v) := by
  induction ks with
  | nil => intro vs i f v h _; simp at h
  | cons k r ih =>
    intro vs i f v h hl
    cases vs with
    | nil => simp at hl
    | cons x xs =>
      obtain ⟨n1, n2⟩ := List.nodup_cons.mp nd
      cases i with
      | zero =>
        have e1 : k = f := Option.some.inj h
        subst e1
        show (if k = k then (k, v) :: r.zip xs else _) = (k, v) :: r.zip xs
        rw [if_pos rfl]
      | succ i =>
        have h' : r[i]? = some f := h
        have ne : ¬ k = f := fun e => n1 (e ▸ List.mem_of_getElem? h')
        show (if k = f then _ else (k, x) :: putF f v (r.zip xs)) = (k, x) :: r.zip (xs.set i v)
        rw [if_neg ne, ih n2 h' (Nat.succ.inj hl)]
def vK : List Str := ["number", "side", "weight", "place", "cell", "went_at"]
def bK : List Str := ["turn", "cells", "limits", "span_of", "came", "waiting", "crossing", "open_side", "entered", "is_shut", "time", "most_borne", "most_borne_at"]
theorem vK_nd : vK.Nodup := by decide +kernel
theorem bK_nd : bK.Nodup := by decide +kernel

/-! ### the data -/
/-- where a bridge's things stand; cars: each with its own dict -/
structure Adr where
  dx : Addr
  cells : Addr
  lims : Addr
  spans : Addr
  came : Addr
  wait : Addr
  w0 : Addr
  w1 : Addr
  cross : Addr
  most : Addr
  mostAt : Addr
  cars : List (Addr × Addr)
abbrev nat (n : Nat) : V := .int (n : Int)
abbrev nums (l : List Nat) : List V := l.map nat
def Adr.at_ (A : Adr) (i : Nat) : Addr := (A.cars.getD i (0, 0)).1
def Adr.refs (A : Adr) (l : List Nat) : List V := (l.map A.at_).map V.ref
def vV (i : Nat) (v : Veh) : List V := [nat i, nat v.side, nat v.weight, nat v.place, nat v.cell, nat v.went]
def bV (A : Adr) (m : M) : List V := [nat m.turn, .ref A.cells, .ref A.lims, .ref A.spans, .ref A.came, .ref A.wait, .ref A.cross, nat m.side, nat m.gone, .bl m.shut, nat m.time, .ref A.most, .ref A.mostAt]
def vF (i : Nat) (v : Veh) : List (Str × V) := vK.zip (vV i v)
def bF (A : Adr) (m : M) : List (Str × V) := bK.zip (bV A m)
def listsOf (A : Adr) (m : M) : List (Addr × HO) :=
  [(A.cells, .lst (nums m.cells)), (A.lims, .lst (nums m.limits)), (A.spans, .lst (nums m.spanOf)), (A.came, .lst ((A.cars.map (·.1)).map V.ref)),
   (A.w0, .lst (A.refs m.w0)), (A.w1, .lst (A.refs m.w1)), (A.wait, .tup [.ref A.w0, .ref A.w1]), (A.cross, .lst (A.refs m.cross)), (A.most, .lst (nums m.most)), (A.mostAt, .lst (nums m.mostAt))]
def carsFrom (CV : Addr) : Nat → List (Addr × Addr) → List Veh → List (Addr × HO)
  | i, a :: as, v :: vs => (a.1, .ins CV a.2 (vF i v)) :: carsFrom CV (i + 1) as vs
  | _, _, _ => []
def objs (CV CB b : Addr) (A : Adr) (m : M) : List (Addr × HO) := ((b, .ins CB A.dx (bF A m)) :: listsOf A m) ++ carsFrom CV 0 A.cars m.cars
def own (b : Addr) (A : Adr) : List Addr := [b, A.cells, A.lims, A.spans, A.came, A.w0, A.w1, A.wait, A.cross, A.most, A.mostAt] ++ A.cars.map (·.1)
theorem carsFrom_fst {CV : Addr} : ∀ {as : List (Addr × Addr)} {vs : List Veh} {k : Nat}, as.length = vs.length → (carsFrom CV k as vs).map (·.1) = as.map (·.1)
  | [], [], _, _ => rfl
  | a :: as, v :: vs, k, h => by
    show a.1 :: (carsFrom CV (k + 1) as vs).map (·.1) = a.1 :: as.map (·.1)
    rw [carsFrom_fst (Nat.succ.inj h)]
  | [], _ :: _, _, h => by simp at h
  | _ :: _, [], _, h => by simp at h
theorem carsFrom_at {CV : Addr} : ∀ {as : List (Addr × Addr)} {vs : List Veh} {k i : Nat} {a : Addr × Addr} {v : Veh}, as[i]? = some a → vs[i]? = some v → (carsFrom CV k as vs)[i]? = some (a.1, .ins CV a.2 (vF (k + i) v))
  | [], _, _, _, _, _, h, _ => by simp at h
  | _ :: _, [], _, _, _, _, _, h => by simp at h
  | a :: as, v :: vs, k, 0, b, w, h, h2 => by
    have e1 : a = b := Option.some.inj h
    have e2 : v = w := Option.some.inj h2
    subst e1 e2
    rfl
  | a :: as, v :: vs, k, i + 1, b, w, h, h2 => by
    have ih := carsFrom_at (CV := CV) (as := as) (vs := vs) (k := k + 1) (i := i) (a := b) (v := w) h h2
    show (carsFrom CV (k + 1) as vs)[i]? = _
    rw [ih, Nat.add_right_comm k 1 i]
    rfl
theorem carsFrom_set {CV : Addr} : ∀ {as : List (Addr × Addr)} {vs : List Veh} {k i : Nat} {a : Addr × Addr} {w : Veh}, as[i]? = some a → carsFrom CV k as (vs.set i w) = (carsFrom CV k as vs).set i (a.1, .ins CV a.2 (vF (k + i) w))
  | [], _, _, _, _, _, h => by simp at h
  | _ :: _, [], _, _, _, _, _ => rfl
  | a :: as, v :: vs, k, 0, b, w, h => by
    have e1 : a = b := Option.some.inj h
    subst e1
    rfl
  | a :: as, v :: vs, k, i + 1, b, w, h => by
    have ih := carsFrom_set (CV := CV) (as := as) (vs := vs) (k := k + 1) (i := i) (a := b) (w := w) h
    show _ :: carsFrom CV (k + 1) as (vs.set i w) = _ :: (carsFrom CV (k + 1) as vs).set i _
    rw [ih, Nat.add_right_comm k 1 i]
    rfl
theorem carsFrom_add {CV : Addr} : ∀ {as : List (Addr × Addr)} {vs : List Veh} {k : Nat} {a : Addr × Addr} {w : Veh}, as.length = vs.length → carsFrom CV k (as ++ [a]) (vs ++ [w]) = carsFrom CV k as vs ++ [(a.1, .ins CV a.2 (vF (k + as.length) w))]
  | [], [], _, _, _, _ => rfl
  | a :: as, v :: vs, k, b, w, h => by
    have ih := carsFrom_add (CV := CV) (as := as) (vs := vs) (k := k + 1) (a := b) (w := w) (Nat.succ.inj h)
    show _ :: carsFrom CV (k + 1) (as ++ [b]) (vs ++ [w]) = _ :: (carsFrom CV (k + 1) as vs ++ _)
    rw [ih, Nat.add_right_comm k 1 as.length]
    rfl
  | [], _ :: _, _, _, _, h => by simp at h
  | _ :: _, [], _, _, _, h => by simp at h

/-- the bridge m stands at b, its things at A -/
structure Br (CV CB : Addr) (H : Hp) (b : Addr) (A : Adr) (m : M) : Prop where
  len : A.cars.length = m.cars.length
  nd : (own b A).Nodup
  at_ : ∀ p ∈ objs CV CB b A m, H p.1 = some p.2
theorem objs_fst {CV CB b : Addr} {A : Adr} {m : M} (h : A.cars.length = m.cars.length) : (objs CV CB b A m).map (·.1) = own b A := by
  unfold objs own
  rw [List.map_append, carsFrom_fst h]
  rfl
theorem lays_set : ∀ {l : List (Addr × HO)} {H : Hp} {k : Nat} {a : Addr} {o o' : HO}, (l.map (·.1)).Nodup → (∀ p ∈ l, H p.1 = some p.2) → l[k]? = some (a, o) → ∀ p ∈ l.set k (a, o'), upd H a o' p.1 = some p.2
  | [], _, _, _, _, _, _, _, h => by simp at h
  | x :: l, H, 0, a, o, o', nd, hl, h => by
    have e : x = (a, o) := Option.some.inj h
    subst e
    intro p hp
    obtain ⟨n1, _⟩ := List.nodup_cons.mp nd
    rcases List.mem_cons.mp hp with e | hp
    · subst e; exact upd_same
    · have ne : p.1 ≠ a := fun e => n1 (by
        have z := List.mem_map_of_mem (f := (·.1)) hp
        rw [show p.1 = a from e] at z
        exact z)
      rw [upd_ne ne]
      exact hl p (List.mem_cons_of_mem _ hp)
  | x :: l, H, k + 1, a, o, o', nd, hl, h => by
    intro p hp
    obtain ⟨n1, n2⟩ := List.nodup_cons.mp nd
    have h' : l[k]? = some (a, o) := h
    rcases List.mem_cons.mp hp with e | hp
    · subst e
      have : (a, o) ∈ l := List.mem_of_getElem? h'
      have ne : p.1 ≠ a := fun e => n1 (by
        have z := List.mem_map_of_mem (f := (·.1)) this
        rw [show (a, o).1 = p.1 from e.symm] at z
        exact z)
      rw [upd_ne ne]
      exact hl p (List.mem_cons_self ..)
    · exact lays_set n2 (fun q hq => hl q (List.mem_cons_of_mem _ hq)) h' p hp

/-! ### what is left of the heap -/
structure Step (F : List Addr) (H : Hp) (F' : List Addr) (H' : Hp) : Prop where
  keep : ∀ a o, H a = some o → a ∉ F → H' a = some o
  grow : ∀ a ∈ F', a ∈ F ∨ H a = none
theorem Step.refl {F : List Addr} {H : Hp} : Step F H F H := ⟨fun _ _ e _ => e, fun _ h => .inl h⟩
theorem Step.trans {F F1 F2 : List Addr} {H H1 H2 : Hp} (x : Step F H F1 H1) (y : Step F1 H1 F2 H2) : Step F H F2 H2 := by
  refine ⟨fun a o e n => ?_, fun a h => ?_⟩
  · refine y.keep a o (x.keep a o e n) fun h1 => ?_
    rcases x.grow a h1 with h | h
    · exact n h
    · rw [e] at h; cases h
  · rcases y.grow a h with h | h
    · exact x.grow a h
    · by_cases q : a ∈ F
      · exact .inl q
      · refine .inr ?_
        cases e : H a with
        | none => rfl
        | some o => rw [x.keep a o e q] at h; cases h
theorem Step.same {F : List Addr} {H H' : Hp} (s : Same H H') : Step F H F H' := ⟨fun a o e _ => s a o e, fun _ h => .inl h⟩
theorem Step.at_ {F : List Addr} {H : Hp} {a : Addr} {o : HO} (h : a ∈ F) : Step F H F (upd H a o) := by
  refine ⟨fun b u e n => ?_, fun _ h => .inl h⟩
  have ne : b ≠ a := fun z => n (by rw [z]; exact h)
  rw [upd_ne ne]
  exact e
theorem Step.wide {F F' F1 : List Addr} {H H' : Hp} (s : Step F H F1 H') (h : ∀ a ∈ F, a ∈ F') : Step F' H F1 H' :=
  ⟨fun a o e n => s.keep a o e fun z => n (h a z), fun a z => (s.grow a z).imp (h a) id⟩
theorem same_new {H : Hp} {p : Addr} {o : HO} (h : H p = none) : Same H (upd H p o) := fun b x e => by
  rw [upd_ne (ne_of_none e h)]
  exact e

section
variable {CV CB CT PN : Addr} {K : PySem.W.Frag} {mg : Str → Option Value} {H H' : Hp} {b : Addr} {A : Adr} {m m' : M}
theorem Br.same (B : Br CV CB H b A m) (s : Same H H') : Br CV CB H' b A m := ⟨B.len, B.nd, fun p hp => s _ _ (B.at_ p hp)⟩
theorem Br.has (B : Br CV CB H b A m) {a : Addr} (h : a ∈ own b A) : ∃ o, H a = some o := by
  rw [← objs_fst (CV := CV) (CB := CB) B.len] at h
  obtain ⟨p, hp, rfl⟩ := List.mem_map.mp h
  exact ⟨_, B.at_ p hp⟩
theorem Br.away (B : Br CV CB H b A m) {p : Addr} (h : H p = none) : p ∉ own b A := fun q => by
  obtain ⟨o, e⟩ := B.has q
  rw [h] at e; cases e
/-- the bridge is elsewhere -/
theorem Br.apart (B : Br CV CB H b A m) {F F' : List Addr} (s : Step F H F' H') (h : ∀ a ∈ own b A, a ∉ F) : Br CV CB H' b A m :=
  ⟨B.len, B.nd, fun p hp => s.keep _ _ (B.at_ p hp) (h _ (by rw [← objs_fst (CV := CV) (CB := CB) B.len]; exact List.mem_map_of_mem hp))⟩
/-- one thing of it is changed -/
theorem Br.set (B : Br CV CB H b A m) (k : Nat) {a : Addr} {o o' : HO} (hk : (objs CV CB b A m)[k]? = some (a, o)) (e : objs CV CB b A m' = (objs CV CB b A m).set k (a, o')) (hl : m'.cars.length = m.cars.length) :
    Br CV CB (upd H a o') b A m' := by
  refine ⟨B.len.trans hl.symm, B.nd, ?_⟩
  rw [e]
  refine lays_set ?_ B.at_ hk
  rw [objs_fst B.len]
  exact B.nd
theorem Br.ob (B : Br CV CB H b A m) : H b = some (.ins CB A.dx (bF A m)) := B.at_ (b, _) (List.mem_append_left _ (List.mem_cons_self ..))
theorem Br.lst (B : Br CV CB H b A m) (k : Nat) {a : Addr} {o : HO} (h : (listsOf A m)[k]? = some (a, o)) : H a = some o := B.at_ (a, o) (List.mem_append_left _ (List.mem_cons_of_mem _ (List.mem_of_getElem? h)))
theorem Br.l_cells (B : Br CV CB H b A m) : H A.cells = some (.lst (nums m.cells)) := B.lst 0 rfl
theorem Br.l_lims (B : Br CV CB H b A m) : H A.lims = some (.lst (nums m.limits)) := B.lst 1 rfl
theorem Br.l_spans (B : Br CV CB H b A m) : H A.spans = some (.lst (nums m.spanOf)) := B.lst 2 rfl
theorem Br.l_came (B : Br CV CB H b A m) : H A.came = some (.lst ((A.cars.map (·.1)).map V.ref)) := B.lst 3 rfl
theorem Br.l_wait (B : Br CV CB H b A m) : H A.wait = some (.tup [.ref A.w0, .ref A.w1]) := B.lst 6 rfl
theorem Br.l_w0 (B : Br CV CB H b A m) : H A.w0 = some (.lst (A.refs m.w0)) := B.lst 4 rfl
theorem Br.l_w1 (B : Br CV CB H b A m) : H A.w1 = some (.lst (A.refs m.w1)) := B.lst 5 rfl
theorem Br.l_cross (B : Br CV CB H b A m) : H A.cross = some (.lst (A.refs m.cross)) := B.lst 7 rfl
theorem Br.l_most (B : Br CV CB H b A m) : H A.most = some (.lst (nums m.most)) := B.lst 8 rfl
theorem Br.l_mostAt (B : Br CV CB H b A m) : H A.mostAt = some (.lst (nums m.mostAt)) := B.lst 9 rfl
theorem car_at {i : Nat} (h : i < m.cars.length) : m.cars[i]? = some (m.car i) := by
  unfold M.car
  rw [List.getD_eq_getElem?_getD, List.getElem?_eq_getElem h]
  rfl
theorem Br.adr (B : Br CV CB H b A m) {i : Nat} (h : i < m.cars.length) : A.cars[i]? = some (A.cars.getD i (0, 0)) := by
  rw [List.getD_eq_getElem?_getD, List.getElem?_eq_getElem (by rw [B.len]; exact h)]
  rfl
def Adr.dxAt (A : Adr) (i : Nat) : Addr := (A.cars.getD i (0, 0)).2
theorem objs_car (B : Br CV CB H b A m) {i : Nat} (h : i < m.cars.length) : (objs CV CB b A m)[11 + i]? = some (A.at_ i, .ins CV (A.dxAt i) (vF i (m.car i))) := by
  unfold objs
  rw [List.getElem?_append_right (by show 11 ≤ 11 + i; omega)]
  show (carsFrom CV 0 A.cars m.cars)[11 + i - 11]? = _
  rw [Nat.add_sub_cancel_left, carsFrom_at (B.adr h) (car_at h), Nat.zero_add]
  rfl
theorem Br.car (B : Br CV CB H b A m) {i : Nat} (h : i < m.cars.length) : H (A.at_ i) = some (.ins CV (A.dxAt i) (vF i (m.car i))) :=
  B.at_ _ (List.mem_of_getElem? (objs_car B h))
theorem Br.mem_car (B : Br CV CB H b A m) {i : Nat} (h : i < m.cars.length) : A.at_ i ∈ own b A := by
  rw [← objs_fst (CV := CV) (CB := CB) B.len]
  exact List.mem_map_of_mem (f := (·.1)) (List.mem_of_getElem? (objs_car B h))
theorem Br.came_at (B : Br CV CB H b A m) {i : Nat} (h : i < m.cars.length) : ((A.cars.map (·.1)).map V.ref)[i]? = some (.ref (A.at_ i)) := by
  rw [List.getElem?_map, List.getElem?_map, B.adr h]
  rfl
/-- different cars stand apart -/
theorem Br.inj (B : Br CV CB H b A m) {i j : Nat} (hi : i < m.cars.length) (hj : j < m.cars.length) (e : A.at_ i = A.at_ j) : i = j := by
  have nd : (A.cars.map (·.1)).Nodup := (List.nodup_append.mp B.nd).2.1
  have gi : (A.cars.map (·.1))[i]? = some (A.at_ i) := by rw [List.getElem?_map, B.adr hi]; rfl
  have gj : (A.cars.map (·.1))[j]? = some (A.at_ i) := by rw [List.getElem?_map, B.adr hj, e]; rfl
  exact nd_ix nd gi gj
theorem Br.mem_b (_ : Br CV CB H b A m) : b ∈ own b A := List.mem_append_left _ (List.mem_cons_self ..)
theorem Br.mem_l (_ : Br CV CB H b A m) (k : Nat) {a : Addr} {o : HO} (h : (listsOf A m)[k]? = some (a, o)) : a ∈ own b A :=
  List.mem_append_left _ (List.mem_cons_of_mem _ (List.mem_map_of_mem (f := (·.1)) (List.mem_of_getElem? h)))
/-- a field of it is changed that no list hangs on -/
theorem Br.setF (B : Br CV CB H b A m) (i : Nat) {f : Str} {y : V} (hf : bK[i]? = some f) (hm : (bV A m).set i y = bV A m') (ho : listsOf A m' = listsOf A m) (hc : m'.cars = m.cars) :
    Br CV CB (upd H b (.ins CB A.dx (putF f y (bF A m)))) b A m' := by
  have e : putF f y (bF A m) = bF A m' := (zput bK_nd hf rfl).trans (by rw [hm]; rfl)
  rw [e]
  refine B.set 0 (o := .ins CB A.dx (bF A m)) rfl ?_ (by rw [hc])
  unfold objs
  rw [ho, hc]
  rfl
/-- a list of it is changed -/
theorem Br.setL (B : Br CV CB H b A m) (k : Nat) {a : Addr} {o o' : HO} (hk : (listsOf A m)[k]? = some (a, o)) (hm : bV A m' = bV A m) (ho : listsOf A m' = (listsOf A m).set k (a, o')) (hc : m'.cars = m.cars) :
    Br CV CB (upd H a o') b A m' := by
  have hkl : k < (listsOf A m).length := (List.getElem?_eq_some_iff.mp hk).1
  have hk2 : (objs CV CB b A m)[k + 1]? = some (a, o) := by
    unfold objs
    rw [List.getElem?_append_left (by show k + 1 < (listsOf A m).length + 1; omega)]
    exact hk
  refine B.set (k + 1) hk2 ?_ (by rw [hc])
  unfold objs
  rw [ho, hc, show bF A m' = bF A m by unfold bF; rw [hm], List.set_append_left _ _ (by show k + 1 < (listsOf A m).length + 1; omega)]
  rfl
/-- a car of it is changed -/
theorem Br.setC (B : Br CV CB H b A m) {i : Nat} {v : Veh} (h : i < m.cars.length) : Br CV CB (upd H (A.at_ i) (.ins CV (A.dxAt i) (vF i v))) b A (m.setCar i v) := by
  refine B.set (11 + i) (objs_car B h) ?_ (by unfold M.setCar; simp)
  unfold objs
  rw [List.set_append_right _ _ (by show 11 ≤ 11 + i; omega)]
  show _ ++ carsFrom CV 0 A.cars (m.cars.set i v) = _ ++ (carsFrom CV 0 A.cars m.cars).set (11 + i - 11) _
  rw [Nat.add_sub_cancel_left, carsFrom_set (B.adr h), Nat.zero_add]
  rfl

/-! ### a field is read -/
theorem Br.fld (B : Br CV CB H b A m) (T : Txt K mg CV CB CT PN) (i : Nat) {f : Str} {v : V} (hf : bK[i]? = some f) (hv : (bV A m)[i]? = some v) (n : NoAttr K CB f) {P : V → Prop} (p : P v) :
    ∃ a C dx fs z, V.ref b = .ref a ∧ H a = some (.ins C dx fs) ∧ Cls K C ∧ NoAttr K C f ∧ fs.lookup f = some z ∧ P z :=
  ⟨b, CB, A.dx, _, v, rfl, B.ob, T.clB, n, zlook bK_nd hf hv, p⟩
theorem Br.vfld (B : Br CV CB H b A m) (T : Txt K mg CV CB CT PN) (i : Nat) {j : Nat} (hj : j < m.cars.length) {f : Str} {v : V} (hf : vK[i]? = some f) (hv : (vV j (m.car j))[i]? = some v) (n : NoAttr K CV f) {P : V → Prop} (p : P v) :
    ∃ a C dx fs z, V.ref (A.at_ j) = .ref a ∧ H a = some (.ins C dx fs) ∧ Cls K C ∧ NoAttr K C f ∧ fs.lookup f = some z ∧ P z :=
  ⟨A.at_ j, CV, A.dxAt j, _, v, rfl, B.car hj, T.clV, n, zlook vK_nd hf hv, p⟩
theorem Br.r_turn (B : Br CV CB H b A m) (T : Txt K mg CV CB CT PN) {P : V → Prop} (p : P (nat m.turn)) :
    ∃ a C dx fs z, V.ref b = .ref a ∧ H a = some (.ins C dx fs) ∧ Cls K C ∧ NoAttr K C "turn" ∧ fs.lookup ("turn" : Str) = some z ∧ P z := B.fld T 0 rfl rfl T.a_turn p
theorem Br.r_cells (B : Br CV CB H b A m) (T : Txt K mg CV CB CT PN) {P : V → Prop} (p : P (.ref A.cells)) :
    ∃ a C dx fs z, V.ref b = .ref a ∧ H a = some (.ins C dx fs) ∧ Cls K C ∧ NoAttr K C "cells" ∧ fs.lookup ("cells" : Str) = some z ∧ P z := B.fld T 1 rfl rfl T.a_cells p
theorem Br.r_limits (B : Br CV CB H b A m) (T : Txt K mg CV CB CT PN) {P : V → Prop} (p : P (.ref A.lims)) :
    ∃ a C dx fs z, V.ref b = .ref a ∧ H a = some (.ins C dx fs) ∧ Cls K C ∧ NoAttr K C "limits" ∧ fs.lookup ("limits" : Str) = some z ∧ P z := B.fld T 2 rfl rfl T.a_limits p
theorem Br.r_span_of (B : Br CV CB H b A m) (T : Txt K mg CV CB CT PN) {P : V → Prop} (p : P (.ref A.spans)) :
    ∃ a C dx fs z, V.ref b = .ref a ∧ H a = some (.ins C dx fs) ∧ Cls K C ∧ NoAttr K C "span_of" ∧ fs.lookup ("span_of" : Str) = some z ∧ P z := B.fld T 3 rfl rfl T.a_span_of p
theorem Br.r_came (B : Br CV CB H b A m) (T : Txt K mg CV CB CT PN) {P : V → Prop} (p : P (.ref A.came)) :
    ∃ a C dx fs z, V.ref b = .ref a ∧ H a = some (.ins C dx fs) ∧ Cls K C ∧ NoAttr K C "came" ∧ fs.lookup ("came" : Str) = some z ∧ P z := B.fld T 4 rfl rfl T.a_came p
theorem Br.r_waiting (B : Br CV CB H b A m) (T : Txt K mg CV CB CT PN) {P : V → Prop} (p : P (.ref A.wait)) :
    ∃ a C dx fs z, V.ref b = .ref a ∧ H a = some (.ins C dx fs) ∧ Cls K C ∧ NoAttr K C "waiting" ∧ fs.lookup ("waiting" : Str) = some z ∧ P z := B.fld T 5 rfl rfl T.a_waiting p
theorem Br.r_crossing (B : Br CV CB H b A m) (T : Txt K mg CV CB CT PN) {P : V → Prop} (p : P (.ref A.cross)) :
    ∃ a C dx fs z, V.ref b = .ref a ∧ H a = some (.ins C dx fs) ∧ Cls K C ∧ NoAttr K C "crossing" ∧ fs.lookup ("crossing" : Str) = some z ∧ P z := B.fld T 6 rfl rfl T.a_crossing p
theorem Br.r_open_side (B : Br CV CB H b A m) (T : Txt K mg CV CB CT PN) {P : V → Prop} (p : P (nat m.side)) :
    ∃ a C dx fs z, V.ref b = .ref a ∧ H a = some (.ins C dx fs) ∧ Cls K C ∧ NoAttr K C "open_side" ∧ fs.lookup ("open_side" : Str) = some z ∧ P z := B.fld T 7 rfl rfl T.a_open_side p
theorem Br.r_entered (B : Br CV CB H b A m) (T : Txt K mg CV CB CT PN) {P : V → Prop} (p : P (nat m.gone)) :
    ∃ a C dx fs z, V.ref b = .ref a ∧ H a = some (.ins C dx fs) ∧ Cls K C ∧ NoAttr K C "entered" ∧ fs.lookup ("entered" : Str) = some z ∧ P z := B.fld T 8 rfl rfl T.a_entered p
theorem Br.r_is_shut (B : Br CV CB H b A m) (T : Txt K mg CV CB CT PN) {P : V → Prop} (p : P (.bl m.shut)) :
    ∃ a C dx fs z, V.ref b = .ref a ∧ H a = some (.ins C dx fs) ∧ Cls K C ∧ NoAttr K C "is_shut" ∧ fs.lookup ("is_shut" : Str) = some z ∧ P z := B.fld T 9 rfl rfl T.a_is_shut p
theorem Br.r_time (B : Br CV CB H b A m) (T : Txt K mg CV CB CT PN) {P : V → Prop} (p : P (nat m.time)) :
    ∃ a C dx fs z, V.ref b = .ref a ∧ H a = some (.ins C dx fs) ∧ Cls K C ∧ NoAttr K C "time" ∧ fs.lookup ("time" : Str) = some z ∧ P z := B.fld T 10 rfl rfl T.a_time p
theorem Br.r_most_borne (B : Br CV CB H b A m) (T : Txt K mg CV CB CT PN) {P : V → Prop} (p : P (.ref A.most)) :
    ∃ a C dx fs z, V.ref b = .ref a ∧ H a = some (.ins C dx fs) ∧ Cls K C ∧ NoAttr K C "most_borne" ∧ fs.lookup ("most_borne" : Str) = some z ∧ P z := B.fld T 11 rfl rfl T.a_most_borne p
theorem Br.r_most_borne_at (B : Br CV CB H b A m) (T : Txt K mg CV CB CT PN) {P : V → Prop} (p : P (.ref A.mostAt)) :
    ∃ a C dx fs z, V.ref b = .ref a ∧ H a = some (.ins C dx fs) ∧ Cls K C ∧ NoAttr K C "most_borne_at" ∧ fs.lookup ("most_borne_at" : Str) = some z ∧ P z := B.fld T 12 rfl rfl T.a_most_borne_at p
theorem Br.v_number (B : Br CV CB H b A m) (T : Txt K mg CV CB CT PN) {j : Nat} (hj : j < m.cars.length) {P : V → Prop} (p : P (nat j)) :
    ∃ a C dx fs z, V.ref (A.at_ j) = .ref a ∧ H a = some (.ins C dx fs) ∧ Cls K C ∧ NoAttr K C "number" ∧ fs.lookup ("number" : Str) = some z ∧ P z := B.vfld T 0 hj rfl rfl T.v_number p
theorem Br.v_side (B : Br CV CB H b A m) (T : Txt K mg CV CB CT PN) {j : Nat} (hj : j < m.cars.length) {P : V → Prop} (p : P (nat (m.car j).side)) :
    ∃ a C dx fs z, V.ref (A.at_ j) = .ref a ∧ H a = some (.ins C dx fs) ∧ Cls K C ∧ NoAttr K C "side" ∧ fs.lookup ("side" : Str) = some z ∧ P z := B.vfld T 1 hj rfl rfl T.v_side p
theorem Br.v_weight (B : Br CV CB H b A m) (T : Txt K mg CV CB CT PN) {j : Nat} (hj : j < m.cars.length) {P : V → Prop} (p : P (nat (m.car j).weight)) :
    ∃ a C dx fs z, V.ref (A.at_ j) = .ref a ∧ H a = some (.ins C dx fs) ∧ Cls K C ∧ NoAttr K C "weight" ∧ fs.lookup ("weight" : Str) = some z ∧ P z := B.vfld T 2 hj rfl rfl T.v_weight p
theorem Br.v_place (B : Br CV CB H b A m) (T : Txt K mg CV CB CT PN) {j : Nat} (hj : j < m.cars.length) {P : V → Prop} (p : P (nat (m.car j).place)) :
    ∃ a C dx fs z, V.ref (A.at_ j) = .ref a ∧ H a = some (.ins C dx fs) ∧ Cls K C ∧ NoAttr K C "place" ∧ fs.lookup ("place" : Str) = some z ∧ P z := B.vfld T 3 hj rfl rfl T.v_place p
theorem Br.v_cell (B : Br CV CB H b A m) (T : Txt K mg CV CB CT PN) {j : Nat} (hj : j < m.cars.length) {P : V → Prop} (p : P (nat (m.car j).cell)) :
    ∃ a C dx fs z, V.ref (A.at_ j) = .ref a ∧ H a = some (.ins C dx fs) ∧ Cls K C ∧ NoAttr K C "cell" ∧ fs.lookup ("cell" : Str) = some z ∧ P z := B.vfld T 4 hj rfl rfl T.v_cell p
theorem Br.v_went_at (B : Br CV CB H b A m) (T : Txt K mg CV CB CT PN) {j : Nat} (hj : j < m.cars.length) {P : V → Prop} (p : P (nat (m.car j).went)) :
    ∃ a C dx fs z, V.ref (A.at_ j) = .ref a ∧ H a = some (.ins C dx fs) ∧ Cls K C ∧ NoAttr K C "went_at" ∧ fs.lookup ("went_at" : Str) = some z ∧ P z := B.vfld T 5 hj rfl rfl T.v_went_at p
end
end OL


namespace OL
open PySem PySem.Spec PyProof.Rows L2
/-! ## the promises -/
def sp_is_within (K : PySem.W.Frag) (CV CB : Addr) : Sp := fun vs H Q _ => ∃ (n h : Nat), vs = [nat n, nat h] ∧ Q (.bl (decide (1 ≤ n ∧ n ≤ h))) H
def sp_with_row (K : PySem.W.Frag) (CV CB : Addr) : Sp := fun vs H Q _ => ∃ (n : Nat) (l : Addr) (xs : List Nat), vs = [nat n, .ref l] ∧ H l = some (.lst (nums xs)) ∧ xs.length ≤ 1000000 ∧
  ∀ p H', H p = none → Same H H' → H' p = some (.lst (nums (n :: xs.length :: xs))) → Q (.ref p) H'
def sp_by_twos (K : PySem.W.Frag) (CV CB : Addr) : Sp := fun vs H Q _ => ∃ (l r : Addr) (xs ys : List Nat), vs = [.ref l, .ref r] ∧ H l = some (.lst (nums xs)) ∧ H r = some (.lst (nums ys)) ∧ xs.length = ys.length ∧ xs.length ≤ 1000 ∧
  ∀ p H', H p = none → Same H H' → H' p = some (.lst (nums ((xs.zip ys).flatMap fun x => [x.1, x.2]))) → Q (.ref p) H'
def sp_Vehicle (K : PySem.W.Frag) (CV CB : Addr) : Sp := fun vs H Q _ => ∃ (p dx : Addr) (i d w : Nat), vs = [.ref p, nat i, nat d, nat w] ∧ H p = some (.ins CV dx []) ∧ Q .non (upd H p (.ins CV dx (vF i ⟨d, w, 0, 0, 0⟩)))
def sp_twin (K : PySem.W.Frag) (CV CB : Addr) : Sp := fun vs H Q _ => ∃ (a dx : Addr) (i : Nat) (v : Veh), vs = [.ref a] ∧ H a = some (.ins CV dx (vF i v)) ∧
  ∀ p d' H', H p = none → Same H H' → H' p = some (.ins CV d' (vF i v)) → Q (.ref p) H'
def sp_least_limit (K : PySem.W.Frag) (CV CB : Addr) : Sp := fun vs H Q _ => ∃ (b : Addr) (A : Adr) (m : M), vs = [.ref b] ∧ Br CV CB H b A m ∧ OK m ∧ Q (nat m.least) H
def sp_how_many_wait (K : PySem.W.Frag) (CV CB : Addr) : Sp := fun vs H Q _ => ∃ (b : Addr) (A : Adr) (m : M), vs = [.ref b] ∧ Br CV CB H b A m ∧ Q (nat (m.w0.length + m.w1.length)) H
def sp_first_cell (K : PySem.W.Frag) (CV CB : Addr) : Sp := fun vs H Q _ => ∃ (b : Addr) (A : Adr) (m : M) (d : Nat), vs = [.ref b, nat d] ∧ Br CV CB H b A m ∧ 0 < m.N ∧ Q (nat (m.first d)) H
def sp_last_cell (K : PySem.W.Frag) (CV CB : Addr) : Sp := fun vs H Q _ => ∃ (b : Addr) (A : Adr) (m : M) (d : Nat), vs = [.ref b, nat d] ∧ Br CV CB H b A m ∧ 0 < m.N ∧ d ≤ 1 ∧ Q (nat (m.last d)) H
def sp_next_cell (K : PySem.W.Frag) (CV CB : Addr) : Sp := fun vs H Q _ => ∃ (b : Addr) (A : Adr) (m : M) (i : Nat), vs = [.ref b, .ref (A.at_ i)] ∧ Br CV CB H b A m ∧ i < m.cars.length ∧ ((m.car i).side ≠ 0 → 0 < (m.car i).cell) ∧ Q (nat (m.next i)) H
def sp_turn_is_over (K : PySem.W.Frag) (CV CB : Addr) : Sp := fun vs H Q _ => ∃ (b : Addr) (A : Adr) (m : M), vs = [.ref b] ∧ Br CV CB H b A m ∧ m.side ≤ 1 ∧ Q (.bl m.over) H
def sp_will_leave (K : PySem.W.Frag) (CV CB : Addr) : Sp := fun vs H Q _ => ∃ (b : Addr) (A : Adr) (m : M) (i : Nat), vs = [.ref b, .ref (A.at_ i)] ∧ Br CV CB H b A m ∧ i < m.cars.length ∧
  Q (.bl (decide ((m.car i).place = 1) || (decide ((m.car i).place = 0) && !m.shut))) H
def sp_put (K : PySem.W.Frag) (CV CB : Addr) : Sp := fun vs H Q _ => ∃ (b : Addr) (A : Adr) (m : M) (i p : Nat), vs = [.ref b, .ref (A.at_ i), nat p] ∧ Br CV CB H b A m ∧ i < m.cars.length ∧
  ∀ H', Br CV CB H' b A (m.put i p) → Step (own b A) H (own b A) H' → Q .non H'
def sp_change_sides (K : PySem.W.Frag) (CV CB : Addr) : Sp := fun vs H Q _ => ∃ (b : Addr) (A : Adr) (m : M), vs = [.ref b] ∧ Br CV CB H b A m ∧ m.side ≤ 1 ∧
  ∀ H', Br CV CB H' b A m.change → Step (own b A) H (own b A) H' → Q .non H'

section
variable {P : Program} {w : World} {K : PySem.W.Frag} {mg : Str → Option Value} {base : Heap} {CV CB CT PN : Addr}
/-! ## the bodies -/
theorem itT {c : Bool} {A B : Prop} (hc : c = true) (h : A) : if c = true then A else B := by
  rw [if_pos hc]; exact h
theorem itF {c : Bool} {A B : Prop} (hc : c = false) (h : B) : if c = true then A else B := by
  rw [hc, if_neg Bool.false_ne_true]; exact h
theorem small6 (i : Nat) (v : Veh) : (vF i v).length < 1000 := by show 6 < 1000; decide
theorem small13 (A : Adr) (m : M) : (bF A m).length < 1000 := by show 13 < 1000; decide
theorem decide_le {a b : Nat} : decide ((a : Int) ≤ (b : Int)) = decide (a ≤ b) := decide_eq_decide.mpr Int.ofNat_le
theorem decide_lt {a b : Nat} : decide ((a : Int) < (b : Int)) = decide (a < b) := decide_eq_decide.mpr Int.ofNat_lt
theorem dec_nat {a b : Nat} : decide (nat a = nat b) = decide (a = b) := decide_eq_decide.mpr ⟨fun e => Int.ofNat.inj (V.int.inj e), fun e => by rw [e]⟩
theorem ok_is_within {f : Addr} {fd : FuncData} (F : L2.Fun K "is_within" "is_within" s_is_within f fd) (T : Txt K mg CV CB CT PN)  : FnOk P w K mg base CX0 1 f fd ["number", "highest"] (sp_is_within K CV CB) := by
  refine F.ok sc_is_within (fun vs H Q E h => ?_) (fun cdv Ar outer s H vs Q E hr h => ?_)
  · obtain ⟨n, h, rfl, _⟩ := h
    rfl
  · have hu := hu_of hr
    refine ⟨_, (pss_one (ps_ret (pe_chain op_le op_le pe_int (pv 0) (pv 1)))), ?_⟩
    obtain ⟨n, h, rfl, k⟩ := h
    refine ⟨_, rfl, 1, n, rfl, rfl, _, rfl, ?_⟩
    by_cases c : 1 ≤ n
    · rw [if_pos (by rw [show (1 : Int) = ((1 : Nat) : Int) from rfl, decide_le]; exact decide_eq_true c)]
      refine ⟨_, rfl, n, h, rfl, rfl, ?_⟩
      show Q (.bl (decide ((n : Int) ≤ (h : Int)))) H
      rw [decide_le, show decide (n ≤ h) = decide (1 ≤ n ∧ n ≤ h) by simp [c]]
      exact k
    · rw [if_neg (by rw [show (1 : Int) = ((1 : Nat) : Int) from rfl, decide_le]; simp [c])]
      rw [show decide (1 ≤ n ∧ n ≤ h) = false by simp [c]] at k
      exact k
theorem ok_with_row {f : Addr} {fd : FuncData} (F : L2.Fun K "with_row" "with_row" s_with_row f fd) (T : Txt K mg CV CB CT PN)  : FnOk P w K mg base CX0 1 f fd ["first", "row"] (sp_with_row K CV CB) := by
  refine F.ok sc_with_row (fun vs H Q E h => ?_) (fun cdv Ar outer s H vs Q E hr h => ?_)
  · obtain ⟨n, l, xs, rfl, _⟩ := h
    rfl
  · have hu := hu_of hr
    refine ⟨_, (pss_one (ps_ret (pe_op op_cat (pe_lst (pa_cons (pv 0) (pa_cons (pe_callB call_len_seq (by rfl) T.b_len (by decide +kernel) (pa_cons (pv 1) pa_nil)) pa_nil))) (pv 1)))), ?_⟩
    obtain ⟨n, l, xs, rfl, hl, hz, k⟩ := h
    have hs := sizeLine_eq
    refine ⟨_, rfl, _, rfl, l, _, rfl, .inl (SqL.of hl), ?_⟩
    refine ⟨(by show 2 ≤ sizeLine; omega), fun p np => ?_⟩
    have npl : l ≠ p := ne_of_none hl np
    refine ⟨_, rfl, p, l, _, _, rfl, rfl, upd_same, (by rw [upd_ne npl]; exact hl), (by rw [List.length_map]; show 2 + xs.length ≤ sizeLine; omega), fun q nq => ?_⟩
    have nqp : q ≠ p := (ne_of_none upd_same nq).symm
    rw [upd_ne nqp] at nq
    refine k q _ nq ?_ ?_
    · exact (same_new np).trans (same_new (by rw [upd_ne nqp]; exact nq))
    · rw [upd_same, List.length_map]
      rfl
theorem ok_Vehicle_init {f : Addr} {fd : FuncData} (F : L2.Fun K "__init__" "Vehicle.__init__" s_Vehicle_init f fd) (T : Txt K mg CV CB CT PN)  : FnOk P w K mg base CX0 1 f fd ["self", "number", "side", "weight"] (sp_Vehicle K CV CB) := by
  refine F.ok sc_Vehicle_init (fun vs H Q E h => ?_) (fun cdv Ar outer s H vs Q E hr h => ?_)
  · obtain ⟨p, dx, i, d, w, rfl, _⟩ := h
    rfl
  · have hu := hu_of hr
    refine ⟨_, (pss_cons (ps_fld (pv 0) (pv 1) rfl)
      (pss_cons (ps_fld (pv 0) (pv 2) rfl)
      (pss_cons (ps_fld (pv 0) (pv 3) rfl)
      (pss_cons (ps_fld (pv 0) (gl T.g_WAITS) rfl)
      (pss_cons (ps_fld (pv 0) pe_int rfl)
      (pss_one (ps_fld (pv 0) pe_int rfl))))))), ?_⟩
    obtain ⟨p, dx, i, d, w, rfl, hp, k⟩ := h
    refine ⟨_, rfl, _, rfl, p, CV, dx, [], rfl, hp, T.clV, T.v_number, (by show 0 < 1000; decide), ?_⟩
    refine ⟨_, rfl, _, rfl, p, CV, dx, _, rfl, upd_same, T.clV, T.v_side, (by show 1 < 1000; decide), ?_⟩
    refine ⟨_, rfl, _, rfl, p, CV, dx, _, rfl, upd_same, T.clV, T.v_weight, (by show 2 < 1000; decide), ?_⟩
    refine ⟨_, rfl, p, CV, dx, _, rfl, upd_same, T.clV, T.v_place, (by show 3 < 1000; decide), ?_⟩
    refine ⟨_, rfl, p, CV, dx, _, rfl, upd_same, T.clV, T.v_cell, (by show 4 < 1000; decide), ?_⟩
    refine ⟨_, rfl, p, CV, dx, _, rfl, upd_same, T.clV, T.v_went_at, (by show 5 < 1000; decide), ?_⟩
    rw [upd_upd, upd_upd, upd_upd, upd_upd, upd_upd]
    exact k
/-- a vehicle's field that is read -/
theorem vread {H : Hp} (T : Txt K mg CV CB CT PN) {a dx : Addr} {j : Nat} {v : Veh} (ha : H a = some (.ins CV dx (vF j v))) (i : Nat) {f : Str} {z : V} (hf : vK[i]? = some f) (hv : (vV j v)[i]? = some z) (n : NoAttr K CV f) {P : V → Prop} (p : P z) :
    ∃ a' C dx fs z, V.ref a = .ref a' ∧ H a' = some (.ins C dx fs) ∧ Cls K C ∧ NoAttr K C f ∧ fs.lookup f = some z ∧ P z :=
  ⟨a, CV, dx, _, z, rfl, ha, T.clV, n, zlook vK_nd hf hv, p⟩
theorem vput {j : Nat} {v v' : Veh} (i : Nat) {f : Str} {z : V} (hf : vK[i]? = some f) (hv : (vV j v).set i z = vV j v') : putF f z (vF j v) = vF j v' :=
  (zput vK_nd hf rfl).trans (by rw [hv]; rfl)
theorem ok_Vehicle_twin {f : Addr} {fd : FuncData} (F : L2.Fun K "twin" "Vehicle.twin" s_Vehicle_twin f fd) (T : Txt K mg CV CB CT PN) (c_Vehicle : Mak P w K mg base 1 "Vehicle" CV (sp_Vehicle K CV CB)) : FnOk P w K mg base CX0 3 f fd ["self"] (sp_twin K CV CB) := by
  refine F.ok sc_Vehicle_twin (fun vs H Q E h => ?_) (fun cdv Ar outer s H vs Q E hr h => ?_)
  · obtain ⟨a, dx, i, v, rfl, _⟩ := h
    rfl
  · have hu := hu_of hr
    refine ⟨_, (pss_cons (ps_set (i := 1) sc_Vehicle_twin.nd rfl (Or.inl rfl) (pe_k c_Vehicle hr (by decide) (pa_cons (pe_fld (pv 0) rfl) (pa_cons (pe_fld (pv 0) rfl) (pa_cons (pe_fld (pv 0) rfl) pa_nil)))))
      (pss_cons (ps_fld (pv 1) (pe_fld (pv 0) rfl) rfl)
      (pss_cons (ps_fld (pv 1) (pe_fld (pv 0) rfl) rfl)
      (pss_cons (ps_fld (pv 1) (pe_fld (pv 0) rfl) rfl)
      (pss_one (ps_ret (pv 1))))))), ?_⟩
    obtain ⟨a, dx, i, v, rfl, ha, k⟩ := h
    refine ⟨_, rfl, vread T ha 0 rfl rfl T.v_number ?_⟩
    refine ⟨_, rfl, vread T ha 1 rfl rfl T.v_side ?_⟩
    refine ⟨_, rfl, vread T ha 2 rfl rfl T.v_weight ?_⟩
    intro p d' np nd ne
    have hd : H d' = none := nd
    refine ⟨p, d', i, v.side, v.weight, rfl, upd_same, ⟨rfl, ?_⟩⟩
    rw [upd_upd]
    have nap : a ≠ p := ne_of_none ha np
    have nad : a ≠ d' := ne_of_none ha nd
    have pl : ∀ {H1 : Hp} {o : HO}, H1 a = some (.ins CV dx (vF i v)) → upd H1 p o a = some (.ins CV dx (vF i v)) := fun e => by rw [upd_ne nap]; exact e
    have ha1 : upd H d' (.own p) a = some (.ins CV dx (vF i v)) := by rw [upd_ne nad]; exact ha
    have ha2 := pl (o := .ins CV d' (vF i ⟨v.side, v.weight, 0, 0, 0⟩)) ha1
    refine ⟨_, rfl, vread T ha2 3 rfl rfl T.v_place ?_⟩
    refine ⟨_, rfl, p, CV, d', _, rfl, upd_same, T.clV, T.v_place, small6 _ _, ?_⟩
    rw [upd_upd, vput (v := ⟨v.side, v.weight, 0, 0, 0⟩) 3 (v' := ⟨v.side, v.weight, v.place, 0, 0⟩) rfl rfl]
    refine ⟨_, rfl, vread T (pl ha1) 4 rfl rfl T.v_cell ?_⟩
    refine ⟨_, rfl, p, CV, d', _, rfl, upd_same, T.clV, T.v_cell, small6 _ _, ?_⟩
    rw [upd_upd, vput (v := ⟨v.side, v.weight, v.place, 0, 0⟩) 4 (v' := ⟨v.side, v.weight, v.place, v.cell, 0⟩) rfl rfl]
    refine ⟨_, rfl, vread T (pl ha1) 5 rfl rfl T.v_went_at ?_⟩
    refine ⟨_, rfl, p, CV, d', _, rfl, upd_same, T.clV, T.v_went_at, small6 _ _, ?_⟩
    rw [upd_upd, vput (v := ⟨v.side, v.weight, v.place, v.cell, 0⟩) 5 (v' := v) rfl rfl]
    refine ⟨_, rfl, ?_⟩
    refine k p d' _ np (fun c o e => ?_) upd_same
    rw [upd_ne (ne_of_none e np), upd_ne (ne_of_none e nd)]
    exact e
theorem least_mem : ∀ (l : List Nat) (a : Nat), (l.foldl min a = a ∨ l.foldl min a ∈ l) ∧ l.foldl min a ≤ a ∧ ∀ y ∈ l, l.foldl min a ≤ y
  | [], a => ⟨.inl rfl, Nat.le_refl a, fun y h => by cases h⟩
  | x :: r, a => by
    obtain ⟨h1, h2, h3⟩ := least_mem r (min a x)
    show (r.foldl min (min a x) = a ∨ r.foldl min (min a x) ∈ x :: r) ∧ _
    refine ⟨?_, Nat.le_trans h2 (Nat.min_le_left a x), fun y hy => ?_⟩
    · rcases h1 with h1 | h1
      · rw [h1]
        by_cases c : a ≤ x
        · exact .inl (Nat.min_eq_left c)
        · exact .inr (by rw [Nat.min_eq_right (by omega)]; exact List.mem_cons_self ..)
      · exact .inr (List.mem_cons_of_mem _ h1)
    · rcases List.mem_cons.mp hy with rfl | hy
      · exact Nat.le_trans h2 (Nat.min_le_right a y)
      · exact h3 y hy
theorem least_is {m : M} (ok : OK m) : m.least ∈ m.limits ∧ ∀ y ∈ m.limits, m.least ≤ y := by
  have hl := ok.lim
  have hp := ok.some_
  obtain ⟨h1, h2, h3⟩ := least_mem m.limits (m.limits.getD 0 0)
  refine ⟨?_, h3⟩
  rcases h1 with h1 | h1
  · show m.limits.foldl min (m.limits.getD 0 0) ∈ m.limits
    rw [h1, List.getD_eq_getElem?_getD, List.getElem?_eq_getElem (by omega)]
    exact List.getElem_mem _
  · exact h1
theorem nums_int (l : List Nat) : nums l = (l.map fun (n : Nat) => (n : Int)).map V.int := by rw [List.map_map]; rfl
theorem ok_Bridge_least_limit {f : Addr} {fd : FuncData} (F : L2.Fun K "least_limit" "Bridge.least_limit" s_Bridge_least_limit f fd) (T : Txt K mg CV CB CT PN)  : FnOk P w K mg base CX0 1 f fd ["self"] (sp_least_limit K CV CB) := by
  refine F.ok sc_Bridge_least_limit (fun vs H Q E h => ?_) (fun cdv Ar outer s H vs Q E hr h => ?_)
  · obtain ⟨b, A, m, rfl, _⟩ := h
    rfl
  · have hu := hu_of hr
    refine ⟨_, (pss_one (ps_ret (pe_callB (cr_min rfl) (by rfl) T.b_min (by decide +kernel) (pa_cons (pe_fld (pv 0) rfl) pa_nil)))), ?_⟩
    obtain ⟨b, A, m, rfl, B, ok, k⟩ := h
    refine ⟨_, rfl, B.r_limits T ?_⟩
    obtain ⟨hm, hle⟩ := least_is ok
    refine ⟨A.lims, m.limits.map fun (n : Nat) => (n : Int), rfl, by rw [← nums_int]; exact SqL.of B.l_lims, by rw [List.length_map, ok.lim]; exact ok.some_, fun z hz hmin => ?_⟩
    obtain ⟨n, hn, rfl⟩ := List.mem_map.mp hz
    have h1 := hle n hn
    have h2 := Int.ofNat_le.mp (hmin _ (List.mem_map_of_mem hm))
    have e : n = m.least := Nat.le_antisymm h2 h1
    rw [e]
    exact k
theorem refs_len (A : Adr) (l : List Nat) : (A.refs l).length = l.length := by unfold Adr.refs; simp
theorem ok_Bridge_how_many_wait {f : Addr} {fd : FuncData} (F : L2.Fun K "how_many_wait" "Bridge.how_many_wait" s_Bridge_how_many_wait f fd) (T : Txt K mg CV CB CT PN)  : FnOk P w K mg base CX0 1 f fd ["self"] (sp_how_many_wait K CV CB) := by
  refine F.ok sc_Bridge_how_many_wait (fun vs H Q E h => ?_) (fun cdv Ar outer s H vs Q E hr h => ?_)
  · obtain ⟨b, A, m, rfl, _⟩ := h
    rfl
  · have hu := hu_of hr
    refine ⟨_, (pss_one (ps_ret (pe_op op_add (pe_callB call_len_seq (by rfl) T.b_len (by decide +kernel) (pa_cons (pe_ix ix_tup (pe_fld (pv 0) rfl) (gl T.g_LEFT) (fun _ _ => rfl)) pa_nil)) (pe_callB call_len_seq (by rfl) T.b_len (by decide +kernel) (pa_cons (pe_ix ix_tup (pe_fld (pv 0) rfl) (gl T.g_RIGHT) (fun _ _ => rfl)) pa_nil))))), ?_⟩
    obtain ⟨b, A, m, rfl, B, k⟩ := h
    refine ⟨_, rfl, B.r_waiting T ?_⟩
    refine ⟨A.wait, _, _, _, rfl, rfl, SqT.of B.l_wait, atI_nat (j := 0) rfl, ?_⟩
    refine ⟨A.w0, _, rfl, .inl (SqL.of B.l_w0), ?_⟩
    refine ⟨_, rfl, B.r_waiting T ?_⟩
    refine ⟨A.wait, _, _, _, rfl, rfl, SqT.of B.l_wait, atI_nat (j := 1) rfl, ?_⟩
    refine ⟨A.w1, _, rfl, .inl (SqL.of B.l_w1), ?_⟩
    refine ⟨_, _, rfl, rfl, ?_⟩
    rw [refs_len, refs_len]
    exact k
theorem ok_Bridge_first_cell {f : Addr} {fd : FuncData} (F : L2.Fun K "first_cell" "Bridge.first_cell" s_Bridge_first_cell f fd) (T : Txt K mg CV CB CT PN)  : FnOk P w K mg base CX0 1 f fd ["self", "side"] (sp_first_cell K CV CB) := by
  refine F.ok sc_Bridge_first_cell (fun vs H Q E h => ?_) (fun cdv Ar outer s H vs Q E hr h => ?_)
  · obtain ⟨b, A, m, d, rfl, _⟩ := h
    rfl
  · have hu := hu_of hr
    refine ⟨_, (pss_cons (ps_if (pt_cmpR op_eq (pv 1) (gl T.g_LEFT) (nomark _)) (pss_one (ps_ret pe_int)) pss_nil)
      (pss_one (ps_ret (pe_op op_sub (pe_callB call_len_seq (by rfl) T.b_len (by decide +kernel) (pa_cons (pe_fld (pv 0) rfl) pa_nil)) pe_int)))), ?_⟩
    obtain ⟨b, A, m, d, rfl, B, hN, k⟩ := h
    refine ⟨_, rfl, rfl, _, rfl, ?_⟩
    rw [show V.int 0 = nat 0 from rfl, dec_nat]
    unfold M.first at k
    by_cases c : d = 0
    · refine itT (decide_eq_true c) ?_
      rw [if_pos c] at k
      exact k
    · refine itF (decide_eq_false c) ?_
      rw [if_neg c] at k
      refine ⟨_, rfl, B.r_span_of T ?_⟩
      refine ⟨A.spans, _, rfl, .inl (SqL.of B.l_spans), ?_⟩
      refine ⟨_, _, rfl, rfl, ?_⟩
      rw [List.length_map]
      show Q (.int ((m.spanOf.length : Int) - 1)) H
      rw [show ((m.spanOf.length : Nat) : Int) - 1 = ((m.N - 1 : Nat) : Int) by unfold M.N at *; omega]
      exact k
theorem ok_Bridge_last_cell {f : Addr} {fd : FuncData} (F : L2.Fun K "last_cell" "Bridge.last_cell" s_Bridge_last_cell f fd) (T : Txt K mg CV CB CT PN) (c_first_cell : Met P w K mg base 1 CB "first_cell" (sp_first_cell K CV CB)) : FnOk P w K mg base CX0 2 f fd ["self", "side"] (sp_last_cell K CV CB) := by
  refine F.ok sc_Bridge_last_cell (fun vs H Q E h => ?_) (fun cdv Ar outer s H vs Q E hr h => ?_)
  · obtain ⟨b, A, m, d, rfl, _⟩ := h
    rfl
  · have hu := hu_of hr
    refine ⟨_, (pss_one (ps_ret (pe_m c_first_cell hr (by decide) (pv 0) (pa_cons (pe_op op_sub pe_int (pv 1)) pa_nil)))), ?_⟩
    obtain ⟨b, A, m, d, rfl, B, hN, hd, k⟩ := h
    refine ⟨_, rfl, b, A.dx, _, rfl, B.ob, zno (by decide +kernel), _, rfl, _, _, rfl, rfl, ?_⟩
    refine ⟨b, A, m, 1 - d, ?_, B, hN, k⟩
    show [V.ref b, .int (1 - (d : Int))] = _
    rw [show (1 : Int) - (d : Int) = ((1 - d : Nat) : Int) by omega]
theorem ok_Bridge_next_cell {f : Addr} {fd : FuncData} (F : L2.Fun K "next_cell" "Bridge.next_cell" s_Bridge_next_cell f fd) (T : Txt K mg CV CB CT PN)  : FnOk P w K mg base CX0 1 f fd ["self", "vehicle"] (sp_next_cell K CV CB) := by
  refine F.ok sc_Bridge_next_cell (fun vs H Q E h => ?_) (fun cdv Ar outer s H vs Q E hr h => ?_)
  · obtain ⟨b, A, m, i, rfl, _⟩ := h
    rfl
  · have hu := hu_of hr
    refine ⟨_, (pss_cons (ps_if (pt_cmpR op_eq (pe_fld (pv 1) rfl) (gl T.g_LEFT) (nomark _)) (pss_one (ps_ret (pe_op op_add (pe_fld (pv 1) rfl) pe_int))) pss_nil)
      (pss_one (ps_ret (pe_op op_sub (pe_fld (pv 1) rfl) pe_int)))), ?_⟩
    obtain ⟨b, A, m, i, rfl, B, hi, hc, k⟩ := h
    refine ⟨_, rfl, B.v_side T hi ?_⟩
    refine ⟨rfl, _, rfl, ?_⟩
    rw [show V.int 0 = nat 0 from rfl, dec_nat]
    unfold M.next at k
    by_cases c : (m.car i).side = 0
    · refine itT (decide_eq_true c) ?_
      rw [if_pos c] at k
      refine ⟨_, rfl, B.v_cell T hi ?_⟩
      exact ⟨_, _, rfl, rfl, k⟩
    · refine itF (decide_eq_false c) ?_
      rw [if_neg c] at k
      refine ⟨_, rfl, B.v_cell T hi ?_⟩
      refine ⟨_, _, rfl, rfl, ?_⟩
      have := hc c
      show Q (.int (((m.car i).cell : Int) - 1)) H
      rw [show ((m.car i).cell : Int) - 1 = (((m.car i).cell - 1 : Nat) : Int) by omega]
      exact k
theorem Br.l_at {H : Hp} {b : Addr} {A : Adr} {m : M} (B : Br CV CB H b A m) {d : Nat} (hd : d ≤ 1) : H (if d = 0 then A.w0 else A.w1) = some (.lst (A.refs (m.wait d))) := by
  unfold M.wait
  by_cases c : d = 0
  · rw [if_pos c, if_pos c]; exact B.l_w0
  · rw [if_neg c, if_neg c]; exact B.l_w1
theorem atW {A : Adr} {d : Nat} (hd : d ≤ 1) : atI [V.ref A.w0, V.ref A.w1] (d : Int) = some (.ref (if d = 0 then A.w0 else A.w1)) := by
  match d, hd with
  | 0, _ => exact atI_nat (j := 0) rfl
  | 1, _ => exact atI_nat (j := 1) rfl
  | d + 2, h => exact absurd h (by omega)
theorem tru_refs {H : Hp} {l : Addr} {A : Adr} {xs : List Nat} (h : H l = some (.lst (A.refs xs))) : TruV K (.ref l) H (!xs.isEmpty) := by
  refine .inl ⟨_, SqL.of h, ?_⟩
  cases xs <;> rfl
theorem ok_Bridge_turn_is_over {f : Addr} {fd : FuncData} (F : L2.Fun K "turn_is_over" "Bridge.turn_is_over" s_Bridge_turn_is_over f fd) (T : Txt K mg CV CB CT PN)  : FnOk P w K mg base CX0 1 f fd ["self"] (sp_turn_is_over K CV CB) := by
  refine F.ok sc_Bridge_turn_is_over (fun vs H Q E h => ?_) (fun cdv Ar outer s H vs Q E hr h => ?_)
  · obtain ⟨b, A, m, rfl, _⟩ := h
    rfl
  · have hu := hu_of hr
    refine ⟨_, (pss_cons (ps_if (pt_not (pt_truth (pe_ix ix_tup (pe_fld (pv 0) rfl) (pe_op op_sub pe_int (pe_fld (pv 0) rfl)) (fun _ _ => rfl)) (by intro _; rfl))) (pss_one (ps_ret pe_bl)) pss_nil)
      (pss_one (ps_ret (pe_or (pe_notT (pe_ix ix_tup (pe_fld (pv 0) rfl) (pe_fld (pv 0) rfl) (fun _ _ => rfl))) (pe_one (pe_cmpR op_ge (pe_fld (pv 0) rfl) (pe_fld (pv 0) rfl) (nomark _))))))), ?_⟩
    obtain ⟨b, A, m, rfl, B, hd, k⟩ := h
    have e1 : (1 : Int) - (m.side : Int) = ((1 - m.side : Nat) : Int) := by omega
    have h1 : 1 - m.side ≤ 1 := by omega
    refine ⟨_, rfl, B.r_waiting T ?_⟩
    refine ⟨_, rfl, B.r_open_side T ?_⟩
    refine ⟨_, _, rfl, rfl, ?_⟩
    refine ⟨A.wait, _, _, _, rfl, rfl, SqT.of B.l_wait, (by rw [e1]; exact atW h1), ?_⟩
    refine ⟨_, tru_refs (B.l_at h1), ?_⟩
    unfold M.over at k
    by_cases c : (m.wait (1 - m.side)).isEmpty = true
    · rw [c] at k ⊢
      exact k
    · rw [Bool.not_eq_true] at c
      rw [c] at k ⊢
      refine itF rfl ?_
      refine ⟨_, rfl, B.r_waiting T ?_⟩
      refine ⟨_, rfl, B.r_open_side T ?_⟩
      refine ⟨A.wait, _, _, _, rfl, rfl, SqT.of B.l_wait, atW hd, ?_⟩
      refine ⟨_, tru_refs (B.l_at hd), ?_⟩
      refine ⟨_, rfl, ?_⟩
      rw [Bool.not_not]
      by_cases c2 : (m.wait m.side).isEmpty = true
      · rw [c2] at k ⊢
        exact k
      · rw [Bool.not_eq_true] at c2
        rw [c2] at k ⊢
        rw [if_neg Bool.false_ne_true]
        refine ⟨_, rfl, B.r_entered T ?_⟩
        refine ⟨_, rfl, B.r_turn T ?_⟩
        refine ⟨_, _, rfl, rfl, ?_⟩
        show Q (.bl (decide ((m.turn : Int) ≤ (m.gone : Int)))) H
        rw [decide_le]
        simpa using k
theorem ok_Bridge_will_leave {f : Addr} {fd : FuncData} (F : L2.Fun K "will_leave" "Bridge.will_leave" s_Bridge_will_leave f fd) (T : Txt K mg CV CB CT PN)  : FnOk P w K mg base CX0 1 f fd ["self", "vehicle"] (sp_will_leave K CV CB) := by
  refine F.ok sc_Bridge_will_leave (fun vs H Q E h => ?_) (fun cdv Ar outer s H vs Q E hr h => ?_)
  · obtain ⟨b, A, m, i, rfl, _⟩ := h
    rfl
  · have hu := hu_of hr
    refine ⟨_, (pss_one (ps_ret (pe_or (pe_cmpR op_eq (pe_fld (pv 1) rfl) (gl T.g_CROSSES) (nomark _)) (pe_one (pe_and (pe_cmpR op_eq (pe_fld (pv 1) rfl) (gl T.g_WAITS) (nomark _)) (pe_one (pe_not (pe_fld (pv 0) rfl)))))))), ?_⟩
    obtain ⟨b, A, m, i, rfl, B, hi, k⟩ := h
    refine ⟨_, rfl, B.v_place T hi ?_⟩
    refine ⟨rfl, _, rfl, ?_⟩
    rw [show V.int 1 = nat 1 from rfl, dec_nat]
    by_cases c : (m.car i).place = 1
    · refine itT (decide_eq_true c) ?_
      simpa [c] using k
    · refine itF (decide_eq_false c) ?_
      refine ⟨_, rfl, B.v_place T hi ?_⟩
      refine ⟨rfl, _, rfl, ?_⟩
      rw [show V.int 0 = nat 0 from rfl, dec_nat]
      by_cases c2 : (m.car i).place = 0
      · refine itT (decide_eq_true c2) ?_
        refine ⟨_, rfl, B.r_is_shut T ?_⟩
        refine ⟨_, rfl, ?_⟩
        simpa [c2] using k
      · refine itF (decide_eq_false c2) ?_
        simpa [c, c2] using k
theorem ok_Bridge_put {f : Addr} {fd : FuncData} (F : L2.Fun K "put" "Bridge.put" s_Bridge_put f fd) (T : Txt K mg CV CB CT PN)  : FnOk P w K mg base CX0 1 f fd ["self", "vehicle", "place"] (sp_put K CV CB) := by
  refine F.ok sc_Bridge_put (fun vs H Q E h => ?_) (fun cdv Ar outer s H vs Q E hr h => ?_)
  · obtain ⟨b, A, m, i, p, rfl, _⟩ := h
    rfl
  · have hu := hu_of hr
    refine ⟨_, (pss_cons (ps_fld (pv 1) (pv 2) rfl)
      (pss_one (ps_fld (pv 1) (pe_fld (pv 0) rfl) rfl))), ?_⟩
    obtain ⟨b, A, m, i, p, rfl, B, hi, k⟩ := h
    refine ⟨_, rfl, _, rfl, A.at_ i, CV, _, _, rfl, B.car hi, T.clV, T.v_place, small6 _ _, ?_⟩
    have e1 : putF "place" (nat p) (vF i (m.car i)) = vF i { m.car i with place := p } := vput 3 rfl rfl
    rw [e1]
    have B1 := B.setC (v := { m.car i with place := p }) hi
    have hi1 : i < (m.setCar i { m.car i with place := p }).cars.length := by unfold M.setCar; simp; exact hi
    refine ⟨_, rfl, B1.r_time T ?_⟩
    refine ⟨_, rfl, A.at_ i, CV, _, _, rfl, upd_same, T.clV, T.v_went_at, small6 _ _, ?_⟩
    have e2 : putF "went_at" (nat (m.setCar i { m.car i with place := p }).time) (vF i { m.car i with place := p }) = vF i { m.car i with place := p, went := m.time } := vput 5 rfl rfl
    rw [e2, upd_upd]
    exact k _ (B.setC hi) (Step.at_ (B.mem_car hi))
theorem ok_Bridge_change_sides {f : Addr} {fd : FuncData} (F : L2.Fun K "change_sides" "Bridge.change_sides" s_Bridge_change_sides f fd) (T : Txt K mg CV CB CT PN)  : FnOk P w K mg base CX0 1 f fd ["self"] (sp_change_sides K CV CB) := by
  refine F.ok sc_Bridge_change_sides (fun vs H Q E h => ?_) (fun cdv Ar outer s H vs Q E hr h => ?_)
  · obtain ⟨b, A, m, rfl, _⟩ := h
    rfl
  · have hu := hu_of hr
    refine ⟨_, (pss_cons (ps_fld (pv 0) (pe_op op_sub pe_int (pe_fld (pv 0) rfl)) rfl)
      (pss_one (ps_fld (pv 0) pe_int rfl))), ?_⟩
    obtain ⟨b, A, m, rfl, B, hd, k⟩ := h
    refine ⟨_, rfl, B.r_open_side T ?_⟩
    refine ⟨_, _, rfl, rfl, ?_⟩
    refine ⟨_, rfl, b, CB, _, _, rfl, B.ob, T.clB, T.a_open_side, small13 _ _, ?_⟩
    have B1 := B.setF (m' := { m with side := 1 - m.side }) 7 (f := "open_side") (y := .int (1 - (m.side : Int))) rfl (by rw [show (1 : Int) - (m.side : Int) = ((1 - m.side : Nat) : Int) by omega]; rfl) rfl rfl
    refine ⟨_, rfl, b, CB, _, _, rfl, B1.ob, T.clB, T.a_entered, small13 _ _, ?_⟩
    have B2 := B1.setF (m' := m.change) 8 (f := "entered") (y := .int 0) rfl rfl rfl rfl
    exact k _ B2 ((Step.at_ B.mem_b).trans (Step.at_ B.mem_b))
end
end OL


namespace OL
open PySem PySem.Spec PyProof.Rows L2
/-! ## comprehensions, and the defs that have one -/
theorem same_at {H H' : Hp} {D : Addr} {o : HO} (s : Same H H') (h : H D = none) : Same H (upd H' D o) := fun b x e => by
  rw [upd_ne (ne_of_none e h)]
  exact s b x e
theorem take_one {α : Type} {l : List α} {i : Nat} {x : α} (h : l[i]? = some x) : l.take (i + 1) = l.take i ++ [x] := by
  rw [List.take_add_one, h]
  rfl
/-- a comprehension over a list: what each item gives, or that it is left out -/
theorem lcR {K : PySem.W.Frag} {σ : L2.St} {H : Hp} {Q : VK} {a : Addr} {xs : List V} {tl te : TE} {tt : TT} {j : Nat} (zs : List (Option V)) (htl : ∀ R : VK, R (.ref a) H → tl σ H R) (hs : SqL K H a xs) (hl : zs.length = xs.length) (hz : xs.length ≤ 100000)
    (hev : ∀ (i : Nat) (x : V) (z : Option V) (H' : Hp), xs[i]? = some x → zs[i]? = some z → Same H H' → ∀ (Q1 : VK) (Q0 : Hp → Prop), (∀ y H'', z = some y → Same H' H'' → Q1 y H'') → (∀ H'', z = none → Same H' H'' → Q0 H'') →
      tt ((σ.set j none).set j (some x)) H' fun b H3 => if b = true then te ((σ.set j none).set j (some x)) H3 Q1 else Q0 H3)
    (k : ∀ D H', H D = none → Same H H' → H' D = some (.lst (zs.filterMap id)) → Q (.ref D) H') : tLc (iList K tl) (gName j) tt te [j] σ H Q := by
  have hsl := sizeLine_eq
  refine htl _ ⟨a, rfl, ⟨_, hs⟩, fun D nD => ?_⟩
  refine lc_list (K := K) (a := a) (xs := xs) (fun i H' => Same H H' ∧ H' D = some (.lst ((zs.take i).filterMap id))) ⟨same_new nD, upd_same⟩ (fun i H' _ h => h.1.seq hs) (fun i x H' hx h => ?_) (fun H' h => ?_)
  · obtain ⟨s, hD⟩ := h
    have hi := (List.getElem?_eq_some_iff.mp hx).1
    obtain ⟨z, ez⟩ : ∃ z, zs[i]? = some z := ⟨_, List.getElem?_eq_getElem (by omega)⟩
    refine ⟨?_, ?_⟩
    · show (((σ.set j none).set j (some x)).set j none) = σ.set j none
      rw [List.set_set, List.set_set]
    · have hlen : ((zs.take i).filterMap id).length ≤ i := Nat.le_trans (List.length_filterMap_le _ _) (by rw [List.length_take]; omega)
      refine hev i x z H' hx ez s _ _ (fun y H'' e s2 => ?_) (fun H'' e s2 => ?_)
      · refine ⟨_, s2 _ _ hD, by omega, same_at (s.trans s2) nD, ?_⟩
        rw [upd_same, take_one ez, List.filterMap_append, e]
        rfl
      · refine ⟨s.trans s2, ?_⟩
        rw [take_one ez, List.filterMap_append, e, List.filterMap_cons_none rfl, List.filterMap_nil, List.append_nil]
        exact s2 _ _ hD
  · obtain ⟨s, hD⟩ := h
    rw [← hl, List.take_length] at hD
    exact k D H' nD s hD
theorem refs_at {A : Adr} {l : List Nat} {i : Nat} {x : V} (h : (A.refs l)[i]? = some x) : ∃ j, l[i]? = some j ∧ x = .ref (A.at_ j) := by
  unfold Adr.refs at h
  rw [List.getElem?_map, List.getElem?_map] at h
  cases e : l[i]? with
  | none => rw [e] at h; cases h
  | some j => rw [e] at h; exact ⟨j, rfl, (Option.some.inj h).symm⟩
theorem map_at {α β : Type} {f : α → β} {l : List α} {i : Nat} {j : α} {z : β} (hj : l[i]? = some j) (h : (l.map f)[i]? = some z) : z = f j := by
  rw [List.getElem?_map, hj] at h
  exact (Option.some.inj h).symm
theorem fm_some {α : Type} (f : α → V) : ∀ l : List α, (l.map fun x => some (f x)).filterMap id = l.map f
  | [] => rfl
  | a :: r => by
    show f a :: ((r.map fun x => some (f x)).filterMap id) = f a :: r.map f
    rw [fm_some f r]
theorem fm_if {α : Type} (c : α → Bool) (f : α → V) : ∀ l : List α, (l.map fun x => if c x = true then some (f x) else none).filterMap id = (l.filter c).map f
  | [] => rfl
  | a :: r => by
    have ih := fm_if c f r
    rw [List.map_cons]
    by_cases h : c a = true
    · rw [if_pos h, List.filter_cons_of_pos h]
      show f a :: List.filterMap id _ = f a :: _
      rw [ih]
    · rw [if_neg h, List.filter_cons_of_neg h, List.filterMap_cons_none rfl, ih]
/-- where the items are all kept -/
theorem lcM {K : PySem.W.Frag} {σ : L2.St} {H : Hp} {Q : VK} {a : Addr} {A : Adr} {l : List Nat} {tl te : TE} {j : Nat} (f : Nat → V) (htl : ∀ R : VK, R (.ref a) H → tl σ H R) (hs : SqL K H a (A.refs l)) (hz : l.length ≤ 100000)
    (hev : ∀ i ∈ l, ∀ H', Same H H' → ∀ Q1 : VK, (∀ H'', Same H' H'' → Q1 (f i) H'') → te ((σ.set j none).set j (some (.ref (A.at_ i)))) H' Q1)
    (k : ∀ D H', H D = none → Same H H' → H' D = some (.lst (l.map f)) → Q (.ref D) H') : tLc (iList K tl) (gName j) tYes te [j] σ H Q := by
  refine lcR (l.map fun x => some (f x)) htl hs (by rw [List.length_map, refs_len]) (by rw [refs_len]; exact hz) (fun i x z H' hx hzz s Q1 Q0 h1 _ => ?_) (fun D H' nD s hD => k D H' nD s (by rw [hD, fm_some]))
  obtain ⟨n, hn, rfl⟩ := refs_at hx
  have e := map_at hn hzz
  show te _ H' Q1
  exact hev n (List.mem_of_getElem? hn) H' s Q1 fun H'' s2 => h1 _ H'' e s2

def sp_numbers_of (K : PySem.W.Frag) (CV CB : Addr) : Sp := fun vs H Q _ => ∃ (b l : Addr) (A : Adr) (m : M) (xs : List Nat), vs = [.ref l] ∧ Br CV CB H b A m ∧ H l = some (.lst (A.refs xs)) ∧ (∀ i ∈ xs, i < m.cars.length) ∧ xs.length ≤ 1000 ∧
  ∀ p H', H p = none → Same H H' → H' p = some (.lst (nums xs)) → Q (.ref p) H'
def sp_is_free (K : PySem.W.Frag) (CV CB : Addr) : Sp := fun vs H Q _ => ∃ (b l : Addr) (A : Adr) (m : M) (c : Nat) (xs : List Nat), vs = [.ref b, nat c, .ref l] ∧ Br CV CB H b A m ∧ H l = some (.lst (A.refs xs)) ∧ (∀ i ∈ xs, i < m.cars.length) ∧ xs.length ≤ 1000 ∧
  ∀ H', Same H H' → Q (.bl (m.free c xs)) H'
def sp_can_bear (K : PySem.W.Frag) (CV CB : Addr) : Sp := fun vs H Q _ => ∃ (b l : Addr) (A : Adr) (m : M) (n wt : Nat) (xs : List Nat), vs = [.ref b, nat n, nat wt, .ref l] ∧ Br CV CB H b A m ∧ H l = some (.lst (A.refs xs)) ∧ (∀ i ∈ xs, i < m.cars.length ∧ (m.car i).cell < m.N) ∧ xs.length ≤ 1000 ∧ n < m.limits.length ∧
  ∀ H', Same H H' → Q (.bl (m.bearsIt n wt xs)) H'
def sp_can_move (K : PySem.W.Frag) (CV CB : Addr) : Sp := fun vs H Q _ => ∃ (b l : Addr) (A : Adr) (m : M) (i c : Nat) (xs : List Nat), vs = [.ref b, .ref (A.at_ i), nat c, .ref l] ∧ Br CV CB H b A m ∧ H l = some (.lst (A.refs xs)) ∧ (∀ i ∈ xs, i < m.cars.length ∧ (m.car i).cell < m.N) ∧ xs.length ≤ 1000 ∧
  m.limits.length = m.cells.length ∧ i < m.cars.length ∧ (m.car i).cell < m.N ∧ c < m.N ∧ ∀ H', Same H H' → Q (.bl (m.canMove i c xs)) H'
section
variable {P : Program} {w : World} {K : PySem.W.Frag} {mg : Str → Option Value} {base : Heap} {CV CB CT PN : Addr}
theorem ok_numbers_of {f : Addr} {fd : FuncData} (F : L2.Fun K "numbers_of" "numbers_of" s_numbers_of f fd) (T : Txt K mg CV CB CT PN)  : FnOk P w K mg base CX0 1 f fd ["vehicles"] (sp_numbers_of K CV CB) := by
  refine F.ok sc_numbers_of (fun vs H Q E h => ?_) (fun cdv Ar outer s H vs Q E hr h => ?_)
  · obtain ⟨b, l, A, m, xs, rfl, _⟩ := h
    rfl
  · have hu := hu_of hr
    refine ⟨_, (pss_one (ps_ret (pe_lc (own := [("vehicle", 1)]) (g := gName 1) (te := (tFld K (tVar 1) "number")) (tt := tYes) (by rfl) sc_numbers_of.nd (pi_list (pv 0)) (blkOk_by (own := [("vehicle", 1)]) (N := n_numbers_of) (sc := defScope s_numbers_of) (by decide +kernel)) (fun _ _ _ _ _ => pg_name (i := 1) sc_numbers_of.nd rfl (Or.inl rfl)) (fun _ _ _ _ _ => by exact pts_nil) (fun _ _ _ _ _ => by exact (pe_fld (pv 1) rfl))))), ?_⟩
    obtain ⟨b, l, A, m, xs, rfl, B, hl, hx, hz, k⟩ := h
    refine lcM (fun i => nat i) (fun R r => ⟨_, rfl, r⟩) (SqL.of hl) (by omega) (fun i hi H' s Q1 q => ?_) (fun D H' nD s hD => k D H' nD s hD)
    exact ⟨_, rfl, (B.same s).v_number T (hx i hi) (q H' (Same.refl _))⟩
theorem all_dec {l : List Nat} {c : Nat → Bool} : ((l.map c).all id) = l.all c := by rw [List.all_map]; rfl
theorem ok_Bridge_is_free {f : Addr} {fd : FuncData} (F : L2.Fun K "is_free" "Bridge.is_free" s_Bridge_is_free f fd) (T : Txt K mg CV CB CT PN)  : FnOk P w K mg base CX0 1 f fd ["self", "cell", "ahead"] (sp_is_free K CV CB) := by
  refine F.ok sc_Bridge_is_free (fun vs H Q E h => ?_) (fun cdv Ar outer s H vs Q E hr h => ?_)
  · obtain ⟨b, l, A, m, c, xs, rfl, _⟩ := h
    rfl
  · have hu := hu_of hr
    refine ⟨_, (pss_one (ps_ret (pe_callB (cr_all rfl) (by rfl) T.b_all (by decide +kernel) (pa_cons (pe_lc (own := [("other", 3)]) (g := gName 3) (te := (tOp rNe (tFld K (tVar 3) "cell") (tVar 1))) (tt := tYes) (by rfl) sc_Bridge_is_free.nd (pi_list (pv 2)) (blkOk_by (own := [("other", 3)]) (N := n_Bridge_is_free) (sc := defScope s_Bridge_is_free) (by decide +kernel)) (fun _ _ _ _ _ => pg_name (i := 3) sc_Bridge_is_free.nd rfl (Or.inl rfl)) (fun _ _ _ _ _ => by exact pts_nil) (fun _ _ _ _ _ => by exact (pe_cmpR op_ne (pe_fld (pv 3) rfl) (pv 1) (nomark _)))) pa_nil)))), ?_⟩
    obtain ⟨b, l, A, m, c, xs, rfl, B, hl, hx, hz, k⟩ := h
    unfold tRet tCB tCons
    refine lcM (fun i => .bl (!decide ((m.car i).cell = c))) (fun R r => ⟨_, rfl, r⟩) (SqL.of hl) (by omega) (fun i hi H' s Q1 q => ?_) (fun D H' nD s hD => ?_)
    · refine ⟨_, rfl, (B.same s).v_cell T (hx i hi) ?_⟩
      refine ⟨_, rfl, rfl, ?_⟩
      rw [dec_nat]
      exact q H' (Same.refl _)
    · refine ⟨D, xs.map fun i => !decide ((m.car i).cell = c), rfl, SqL.of (by rw [hD, List.map_map]; rfl), ?_⟩
      have e : (xs.map fun i => !decide ((m.car i).cell = c)).all id = m.free c xs := all_dec
      rw [e]
      exact k H' s
theorem sum_cast : ∀ l : List Nat, (l.map fun (n : Nat) => (n : Int)).sum = ((l.sum : Nat) : Int)
  | [] => rfl
  | a :: r => by
    rw [List.map_cons, List.sum_cons, List.sum_cons, sum_cast r]
    omega
theorem span_at {m : M} {c : Nat} (h : c < m.N) : atI (nums m.spanOf) (c : Int) = some (nat (m.span c)) := by
  refine atI_nat ?_
  unfold M.span
  rw [List.getElem?_map, List.getD_eq_getElem?_getD, List.getElem?_eq_getElem h]
  rfl
theorem ok_Bridge_can_bear {f : Addr} {fd : FuncData} (F : L2.Fun K "can_bear" "Bridge.can_bear" s_Bridge_can_bear f fd) (T : Txt K mg CV CB CT PN)  : FnOk P w K mg base CX0 1 f fd ["self", "span", "weight", "ahead"] (sp_can_bear K CV CB) := by
  refine F.ok sc_Bridge_can_bear (fun vs H Q E h => ?_) (fun cdv Ar outer s H vs Q E hr h => ?_)
  · obtain ⟨b, l, A, m, n, wt, xs, rfl, _⟩ := h
    rfl
  · have hu := hu_of hr
    refine ⟨_, (pss_cons (ps_set (i := 4) sc_Bridge_can_bear.nd rfl (Or.inl rfl) (pe_callB (cr_sum rfl) (by rfl) T.b_sum (by decide +kernel) (pa_cons (pe_lc (own := [("other", 5)]) (g := gName 5) (te := (tFld K (tVar 5) "weight")) (tt := (tTest (tOp rEq (tOp (rIxL K) (tFld K (tVar 0) "span_of") (tFld K (tVar 5) "cell")) (tVar 1)))) (by rfl) sc_Bridge_can_bear.nd (pi_list (pv 3)) (blkOk_by (own := [("other", 5)]) (N := n_Bridge_can_bear) (sc := defScope s_Bridge_can_bear) (by decide +kernel)) (fun _ _ _ _ _ => pg_name (i := 5) sc_Bridge_can_bear.nd rfl (Or.inl rfl)) (fun _ _ _ _ _ => by exact pts_one (pt_cmpR op_eq (pe_ix ix_list (pe_fld (pv 0) rfl) (pe_fld (pv 5) rfl) (fun _ _ => rfl)) (pv 1) (nomark _))) (fun _ _ _ _ _ => by exact (pe_fld (pv 5) rfl))) pa_nil)))
      (pss_one (ps_ret (pe_cmpR op_le (pe_op op_add (pv 4) (pv 2)) (pe_ix ix_list (pe_fld (pv 0) rfl) (pv 1) (fun _ _ => rfl)) (nomark _))))), ?_⟩
    obtain ⟨b, l, A, m, n, wt, xs, rfl, B, hl, hx, hz, hn, k⟩ := h
    unfold tSeq tAsg tCB tCons
    refine lcR (xs.map fun i => if decide (m.span (m.car i).cell = n) = true then some (nat (m.car i).weight) else none) (fun R r => ⟨_, rfl, r⟩) (SqL.of hl) (by rw [List.length_map, refs_len]) (by rw [refs_len]; omega) (fun i x z H' hxi hzi s Q1 Q0 h1 h0 => ?_) (fun D H' nD s hD => ?_)
    · obtain ⟨j, hj, rfl⟩ := refs_at hxi
      have ez := map_at hj hzi
      obtain ⟨j1, j2⟩ := hx j (List.mem_of_getElem? hj)
      have B' := B.same s
      refine ⟨_, rfl, B'.r_span_of T ?_⟩
      refine ⟨_, rfl, B'.v_cell T j1 ?_⟩
      refine ⟨A.spans, _, _, _, rfl, rfl, SqL.of B'.l_spans, span_at j2, ?_⟩
      refine ⟨_, rfl, rfl, _, rfl, ?_⟩
      rw [dec_nat]
      by_cases c : m.span (m.car j).cell = n
      · refine itT (decide_eq_true c) ?_
        rw [if_pos (decide_eq_true c)] at ez
        exact ⟨_, rfl, B'.v_weight T j1 (h1 _ H' ez (Same.refl _))⟩
      · refine itF (decide_eq_false c) ?_
        rw [if_neg (by simp [c])] at ez
        exact h0 H' ez (Same.refl _)
    · rw [fm_if] at hD
      have B' := B.same s
      refine ⟨D, ((m.on n xs).map fun j => (m.car j).weight).map fun (n : Nat) => (n : Int), rfl, SqL.of (by rw [hD, List.map_map, List.map_map]; rfl), ?_⟩
      refine ⟨_, rfl, _, rfl, ?_⟩
      refine ⟨_, _, rfl, rfl, ?_⟩
      refine ⟨_, rfl, B'.r_limits T ?_⟩
      refine ⟨_, rfl, ?_⟩
      refine ⟨A.lims, _, _, nat (m.limit n), rfl, rfl, SqL.of B'.l_lims, ?_, ?_⟩
      · refine atI_nat ?_
        unfold M.limit
        rw [List.getElem?_map, List.getD_eq_getElem?_getD, List.getElem?_eq_getElem hn]
        rfl
      · refine ⟨_, _, rfl, rfl, ?_⟩
        show Q (.bl (decide (((((m.on n xs).map fun j => (m.car j).weight).map fun (n : Nat) => (n : Int)).sum + (wt : Int)) ≤ ((m.limit n : Nat) : Int)))) H'
        rw [sum_cast, show ((((m.on n xs).map fun j => (m.car j).weight).sum : Nat) : Int) + (wt : Int) = ((m.borneBy n xs + wt : Nat) : Int) by unfold M.borneBy; omega, decide_le]
        exact k H' s
theorem spans_lt : ∀ (cs : List Nat) (k x : Nat), x ∈ spansFrom k cs → x < k + cs.length
  | [], k, x, h => by cases h
  | c :: r, k, x, h => by
    rcases List.mem_append.mp h with h | h
    · have := List.eq_of_mem_replicate h
      rw [List.length_cons]; omega
    · have := spans_lt r (k + 1) x h
      rw [List.length_cons]; omega
theorem span_lt {m : M} {c : Nat} (h : c < m.N) : m.span c < m.cells.length := by
  have h1 : m.span c ∈ m.spanOf := by
    unfold M.span
    rw [List.getD_eq_getElem?_getD, List.getElem?_eq_getElem h]
    exact List.getElem_mem _
  have := spans_lt m.cells 0 _ h1
  omega
theorem ok_Bridge_can_move {f : Addr} {fd : FuncData} (F : L2.Fun K "can_move" "Bridge.can_move" s_Bridge_can_move f fd) (T : Txt K mg CV CB CT PN) (c_can_bear : Met P w K mg base 1 CB "can_bear" (sp_can_bear K CV CB)) (c_is_free : Met P w K mg base 1 CB "is_free" (sp_is_free K CV CB)) : FnOk P w K mg base CX0 2 f fd ["self", "vehicle", "cell", "ahead"] (sp_can_move K CV CB) := by
  refine F.ok sc_Bridge_can_move (fun vs H Q E h => ?_) (fun cdv Ar outer s H vs Q E hr h => ?_)
  · obtain ⟨b, l, A, m, i, c, xs, rfl, _⟩ := h
    rfl
  · have hu := hu_of hr
    refine ⟨_, (pss_cons (ps_if (pt_not (pt_val (pe_m c_is_free hr (by decide) (pv 0) (pa_cons (pv 2) (pa_cons (pv 3) pa_nil))))) (pss_one (ps_ret pe_bl)) pss_nil)
      (pss_cons (ps_set (i := 4) sc_Bridge_can_move.nd rfl (Or.inl rfl) (pe_ix ix_list (pe_fld (pv 0) rfl) (pv 2) (fun _ _ => rfl)))
      (pss_one (ps_ret (pe_or (pe_cmpR op_eq (pv 4) (pe_ix ix_list (pe_fld (pv 0) rfl) (pe_fld (pv 1) rfl) (fun _ _ => rfl)) (nomark _)) (pe_one (pe_m c_can_bear hr (by decide) (pv 0) (pa_cons (pv 4) (pa_cons (pe_fld (pv 1) rfl) (pa_cons (pv 3) pa_nil)))))))))), ?_⟩
    obtain ⟨b, l, A, m, i, c, xs, rfl, B, hl, hx, hz, hlc, hi, hci, hc, k⟩ := h
    refine ⟨_, rfl, b, A.dx, _, rfl, B.ob, zno (by decide +kernel), _, rfl, _, rfl, ?_⟩
    refine ⟨b, l, A, m, c, xs, rfl, B, hl, fun j hj => (hx j hj).1, hz, fun H1 s1 => ?_⟩
    refine ⟨_, rfl, ?_⟩
    unfold M.canMove at k
    cases e : m.free c xs with
    | false =>
      refine itT rfl ?_
      rw [e] at k
      exact k H1 s1
    | true =>
      refine itF rfl ?_
      rw [e, Bool.true_and] at k
      have B1 := B.same s1
      refine ⟨_, rfl, B1.r_span_of T ?_⟩
      refine ⟨_, rfl, ?_⟩
      refine ⟨A.spans, _, _, _, rfl, rfl, SqL.of B1.l_spans, span_at hc, ?_⟩
      refine ⟨_, rfl, ?_⟩
      refine ⟨_, rfl, B1.r_span_of T ?_⟩
      refine ⟨_, rfl, B1.v_cell T hi ?_⟩
      refine ⟨A.spans, _, _, _, rfl, rfl, SqL.of B1.l_spans, span_at hci, ?_⟩
      refine ⟨rfl, _, rfl, ?_⟩
      rw [dec_nat]
      by_cases g : m.span c = m.span (m.car i).cell
      · rw [if_pos (decide_eq_true g)]
        rw [decide_eq_true g] at k
        exact k H1 s1
      · rw [if_neg (by simp [g])]
        rw [decide_eq_false g, Bool.false_or] at k
        refine ⟨_, rfl, b, A.dx, _, rfl, B1.ob, zno (by decide +kernel), _, rfl, _, rfl, B1.v_weight T hi ?_⟩
        refine ⟨_, rfl, ?_⟩
        exact ⟨b, l, A, m, _, _, xs, rfl, B1, s1 _ _ hl, hx, hz, by rw [hlc]; exact span_lt hc, fun H2 s2 => k H2 (s1.trans s2)⟩
end
end OL


namespace OL
open PySem PySem.Spec PyProof.Rows L2
/-! ## loops -/
/-- a loop over enumerate of a list that stands still -/
theorem forEnum {K : PySem.W.Frag} {a : Addr} {xs : List V} {g : TG} {tb : TS} {D : Ends} {σ : L2.St} {H : Hp} (Pv : Nat → L2.St → Hp → Prop) (h0 : Pv 0 σ H) (hq : ∀ i σ H, Pv i σ H → SqL K H a xs)
    (hs : ∀ (i : Nat) (x : V) (T : Addr) (σ : L2.St) (H : Hp), xs[i]? = some x → Pv i σ H → H T = none → g (.ref T) σ (upd H T (.tup [.int (i : Nat), x])) fun σ2 H2 => tb { D with nx := Pv (i + 1), ct := Pv (i + 1), bk := D.nx } σ2 H2) (hd : ∀ σ H, Pv xs.length σ H → D.nx σ H) :
    ∃ W : Nat → Nat → L2.St → Hp → Prop, (∃ m, W 0 m σ H) ∧ ∀ i m σ H, W i m σ H →
      ((Ite K a).stop i H ∧ D.nx σ H) ∨ ((Ite K a).go i H ∧ ∃ N : L2.St → Hp → Prop, (∀ σ' H', N σ' H' → ∃ m', m' < m ∧ W (i + 1) m' σ' H') ∧ ∀ v H', (Ite K a).yld i H v H' → g v σ H' fun σ2 H2 => tb { D with nx := N, ct := N, bk := D.nx } σ2 H2) := by
  refine ⟨fun i n σ H => n = xs.length - i ∧ i ≤ xs.length ∧ Pv i σ H, ⟨_, rfl, Nat.zero_le _, h0⟩, ?_⟩
  rintro i n σ H ⟨rfl, hi, p⟩
  have q := hq i σ H p
  rcases Nat.lt_or_ge i xs.length with lt | ge
  · have hx : xs[i]? = some xs[i] := List.getElem?_eq_getElem lt
    refine .inr ⟨⟨xs, _, q, hx⟩, Pv (i + 1), fun σ' H' p' => ⟨xs.length - (i + 1), by omega, rfl, lt, p'⟩, fun v H' y => ?_⟩
    obtain ⟨T, x, rfl, hT, rfl, f⟩ := y
    exact hs i x T σ H (f xs q) p hT
  · obtain rfl : i = xs.length := by omega
    exact .inl ⟨⟨xs, q, Nat.le_refl _⟩, hd σ H p⟩
def sp_borne (K : PySem.W.Frag) (CV CB : Addr) : Sp := fun vs H Q _ => ∃ (b : Addr) (A : Adr) (m : M), vs = [.ref b] ∧ Br CV CB H b A m ∧ (∀ i ∈ m.cross, i < m.cars.length ∧ (m.car i).cell < m.N) ∧ m.cells.length ≤ 12 ∧
  ∀ p H', H p = none → Same H H' → H' p = some (.lst (nums m.borne)) → Q (.ref p) H'
def sp_keep_most (K : PySem.W.Frag) (CV CB : Addr) : Sp := fun vs H Q _ => ∃ (b : Addr) (A : Adr) (m : M), vs = [.ref b] ∧ Br CV CB H b A m ∧ (∀ i ∈ m.cross, i < m.cars.length ∧ (m.car i).cell < m.N) ∧ m.cells.length ≤ 12 ∧ m.most.length = m.cells.length ∧ m.mostAt.length = m.cells.length ∧
  ∀ H', Br CV CB H' b A m.keepMost → Step (own b A) H (own b A) H' → Q .non H'
def sp_are_spans (K : PySem.W.Frag) (CV CB : Addr) : Sp := fun vs H Q _ => ∃ (l : Addr) (xs : List Nat), vs = [.ref l] ∧ H l = some (.lst (nums xs)) ∧ xs.length ≤ 60 ∧ ∀ H', Same H H' → Q (.bl (areSpans xs)) H'
section
variable {P : Program} {w : World} {K : PySem.W.Frag} {mg : Str → Option Value} {base : Heap} {CV CB CT PN : Addr}
theorem nums_app (a b : List Nat) : nums (a ++ b) = nums a ++ nums b := List.map_append ..
theorem nums_set (a : List Nat) (i n : Nat) : nums (a.set i n) = (nums a).set i (nat n) := List.map_set ..
theorem nums_len (a : List Nat) : (nums a).length = a.length := List.length_map ..
theorem nums_at {l : List Nat} {i : Nat} {x : V} (h : (nums l)[i]? = some x) : ∃ n, l[i]? = some n ∧ x = nat n := by
  rw [List.getElem?_map] at h
  cases e : l[i]? with
  | none => rw [e] at h; cases h
  | some n => rw [e] at h; exact ⟨n, rfl, (Option.some.inj h).symm⟩
theorem take_zip {xs ys : List Nat} {i x y : Nat} (hx : xs[i]? = some x) (hy : ys[i]? = some y) : (xs.zip ys).take (i + 1) = (xs.zip ys).take i ++ [(x, y)] :=
  take_one (by rw [List.getElem?_zip_eq_some]; exact ⟨hx, hy⟩)
theorem twos_len : ∀ l : List (Nat × Nat), (l.flatMap fun x => [x.1, x.2]).length = 2 * l.length
  | [] => rfl
  | a :: r => by
    rw [List.flatMap_cons, List.length_append, twos_len r, List.length_cons (as := r)]
    show 2 + 2 * r.length = 2 * (r.length + 1)
    omega
theorem ok_by_twos {f : Addr} {fd : FuncData} (F : L2.Fun K "by_twos" "by_twos" s_by_twos f fd) (T : Txt K mg CV CB CT PN)  : FnOk P w K mg base CX0 1 f fd ["firsts", "seconds"] (sp_by_twos K CV CB) := by
  refine F.ok sc_by_twos (fun vs H Q E h => ?_) (fun cdv Ar outer s H vs Q E hr h => ?_)
  · obtain ⟨l, r, xs, ys, rfl, _⟩ := h
    rfl
  · have hu := hu_of hr
    refine ⟨_, (pss_cons (ps_set (i := 2) sc_by_twos.nd rfl (Or.inl rfl) (pe_lst pa_nil))
      (pss_cons (ps_for PassesOwn.never rfl (pi_zip (by rfl) T.b_zip (pa_cons (pv 0) (pa_cons (pv 1) pa_nil))) (pg_tup rfl (pgs_cons (pg_name (i := 3) sc_by_twos.nd rfl (Or.inl rfl)) (pgs_cons (pg_name (i := 4) sc_by_twos.nd rfl (Or.inl rfl)) pgs_nil)))
        (pss_one (ps_expr (pe_bm PySem.F.plainAttrs_list PySem.F.slot_list_extend PySem.F.type_list_extend mt_extend (pv 2) (pa_cons (pe_lst (pa_cons (pv 3) (pa_cons (pv 4) pa_nil))) pa_nil)))))
      (pss_one (ps_ret (pv 2))))), ?_⟩
    obtain ⟨l, r, xs, ys, rfl, hl, hr2, hlen, hz, k⟩ := h
    have hsl := sizeLine_eq
    refine ⟨Nat.zero_le _, fun o no => ?_⟩
    have nlo : l ≠ o := ne_of_none hl no
    have nro : r ≠ o := ne_of_none hr2 no
    refine ⟨_, rfl, _, rfl, l, r, nums xs, nums ys, rfl, SqL.of (by rw [upd_ne nlo]; exact hl), SqL.of (by rw [upd_ne nro]; exact hr2), ?_⟩
    refine RZ.for_zipL (xs := nums xs) (ys := nums ys) (by rw [List.length_map, List.length_map, hlen]) (fun i σ H' => ∃ v3 v4, σ = [some (.ref l), some (.ref r), some (.ref o), v3, v4] ∧ Same H H' ∧ H' o = some (.lst (nums (((xs.zip ys).take i).flatMap fun x => [x.1, x.2])))) ⟨_, _, rfl, same_new no, upd_same⟩ (fun i σ H' h => ?_) ?_ ?_
    · obtain ⟨_, _, _, s, _⟩ := h
      exact ⟨SqL.of (s _ _ hl), SqL.of (s _ _ hr2)⟩
    · rintro i x y t σ H' hx hy ⟨v3, v4, rfl, s, ho⟩ nt
      obtain ⟨n, hn, rfl⟩ := nums_at hx
      obtain ⟨n2, hn2, rfl⟩ := nums_at hy
      have not_ : o ≠ t := ne_of_none ho nt
      have s1 : Same H' (upd H' t (.tup [nat n, nat n2])) := same_new nt
      refine ⟨t, _, rfl, SqT.of upd_same, rfl, _, _, rfl, _, _, rfl, rfl, ?_⟩
      refine ⟨_, rfl, .inl ⟨rfl, _, SqL.of (s1 _ _ ho)⟩, ?_⟩
      refine ⟨_, rfl, _, rfl, (by show 2 ≤ sizeLine; omega), fun q nq => ?_⟩
      have noq : o ≠ q := ne_of_none (s1 _ _ ho) nq
      have e0 : (((xs.zip ys).take i).flatMap fun x => [x.1, x.2]).length ≤ 2000 := by
        rw [twos_len, List.length_take, List.length_zip]; omega
      refine ⟨o, q, _, _, rfl, rfl, (same_new nq) _ _ (s1 _ _ ho), upd_same, (by rw [List.length_map]; show _ + 2 ≤ sizeLine; omega), ?_⟩
      refine ⟨_, _, rfl, same_at ((s.trans s1).trans (same_new nq)) no, ?_⟩
      rw [upd_same, take_zip hn hn2, List.flatMap_append, nums_app]
      rfl
    · rintro σ H' ⟨v3, v4, rfl, s, ho⟩
      refine ⟨_, rfl, ?_⟩
      refine k o H' no s ?_
      rw [ho, List.length_map, List.take_of_length_le (by rw [List.length_zip]; omega)]
theorem rep_nums (n c : Nat) : (List.replicate n [nat c]).flatten = nums (List.replicate n c) := by
  induction n with
  | zero => rfl
  | succ n ih => rw [List.replicate_succ, List.flatten_cons, ih, List.replicate_succ]; rfl
theorem borne_len (m : M) : ∀ (l : List Nat) (ws : List Nat), (l.foldl m.borne1 ws).length = ws.length
  | [], _ => rfl
  | i :: r, ws => by
    show (r.foldl m.borne1 (m.borne1 ws i)).length = ws.length
    rw [borne_len m r]
    unfold M.borne1
    rw [List.length_set]
theorem ok_Bridge_borne {f : Addr} {fd : FuncData} (F : L2.Fun K "borne" "Bridge.borne" s_Bridge_borne f fd) (T : Txt K mg CV CB CT PN)  : FnOk P w K mg base CX0 1 f fd ["self"] (sp_borne K CV CB) := by
  refine F.ok sc_Bridge_borne (fun vs H Q E h => ?_) (fun cdv Ar outer s H vs Q E hr h => ?_)
  · obtain ⟨b, A, m, rfl, _⟩ := h
    rfl
  · have hu := hu_of hr
    refine ⟨_, (pss_cons (ps_set (i := 1) sc_Bridge_borne.nd rfl (Or.inl rfl) (pe_op op_rep (pe_lst (pa_cons pe_int pa_nil)) (pe_callB call_len_seq (by rfl) T.b_len (by decide +kernel) (pa_cons (pe_fld (pv 0) rfl) pa_nil))))
      (pss_cons (ps_for PassesOwn.never rfl (pi_list (pe_fld (pv 0) rfl)) (pg_name (i := 2) sc_Bridge_borne.nd rfl (Or.inl rfl))
        (pss_one (ps_augS (pv 1) (pe_ix ix_list (pe_fld (pv 0) rfl) (pe_fld (pv 2) rfl) (fun _ _ => rfl)) pg_ixL (pe_fld (pv 2) rfl) ip_add set_list)))
      (pss_one (ps_ret (pv 1))))), ?_⟩
    obtain ⟨b, A, m, rfl, B, hc, hf, k⟩ := h
    have hsl := sizeLine_eq
    refine ⟨(by show 1 ≤ sizeLine; omega), fun l nl => ?_⟩
    have s1 := same_new (o := .lst [V.int 0]) nl
    have B1 := B.same s1
    refine ⟨_, rfl, B1.r_cells T ?_⟩
    refine ⟨A.cells, _, rfl, .inl (SqL.of B1.l_cells), ?_⟩
    refine ⟨l, _, _, rfl, rfl, upd_same, (by omega), (by rw [List.length_map]; omega), (by rw [List.length_map]; show 1 * _ ≤ sizeLine; omega), fun q nq => ?_⟩
    have s2 : ∀ {o : HO}, Same H (upd (upd H l (.lst [V.int 0])) q o) := s1.trans (same_new nq)
    have nqH := s1.free nq
    refine ⟨_, rfl, (B.same s2).r_crossing T ?_⟩
    refine ⟨A.cross, rfl, ⟨_, SqL.of (B.same s2).l_cross⟩, ?_⟩
    refine for_list (xs := A.refs m.cross) (fun i σ H' => ∃ v2, σ = [some (.ref b), some (.ref q), v2] ∧ Same H H' ∧ H' q = some (.lst (nums ((m.cross.take i).foldl m.borne1 (List.replicate m.cells.length 0))))) ⟨_, rfl, s2, ?_⟩ (fun i σ H' _ h => ?_) ?_ ?_
    · rw [upd_same, List.length_map]
      exact congrArg (fun z => some (HO.lst z)) (rep_nums m.cells.length 0)
    · obtain ⟨_, _, s, _⟩ := h
      exact SqL.of (B.same s).l_cross
    · rintro i x σ H' hx ⟨v2, rfl, s, hq⟩
      obtain ⟨j, hj, rfl⟩ := refs_at hx
      obtain ⟨j1, j2⟩ := hc j (List.mem_of_getElem? hj)
      have B' := B.same s
      have hsp := span_lt j2
      have hln : ((m.cross.take i).foldl m.borne1 (List.replicate m.cells.length 0)).length = m.cells.length := by rw [borne_len, List.length_replicate]
      refine ⟨_, rfl, ?_⟩
      refine ⟨_, rfl, B'.r_span_of T ?_⟩
      refine ⟨_, rfl, B'.v_cell T j1 ?_⟩
      refine ⟨A.spans, _, _, _, rfl, rfl, SqL.of B'.l_spans, span_at j2, ?_⟩
      refine ⟨q, _, m.span (m.car j).cell, nat (((m.cross.take i).foldl m.borne1 (List.replicate m.cells.length 0)).getD (m.span (m.car j).cell) 0), rfl, rfl, SqL.of hq, ?_, ?_⟩
      · rw [List.getElem?_map, List.getD_eq_getElem?_getD, List.getElem?_eq_getElem (by omega)]
        rfl
      · refine ⟨_, rfl, B'.v_weight T j1 ?_⟩
        refine ⟨_, _, rfl, rfl, ?_⟩
        refine ⟨q, _, _, m.span (m.car j).cell, rfl, rfl, hq, ?_, ?_⟩
        · rw [List.length_map, hln]
          unfold ixN
          rw [if_pos (by omega), if_pos (by omega)]
          rfl
        · refine ⟨_, rfl, same_at s nqH, ?_⟩
          rw [upd_same, take_one hj, List.foldl_append]
          show some (HO.lst ((nums _).set _ _)) = some (HO.lst (nums (m.borne1 _ j)))
          generalize (m.cross.take i).foldl m.borne1 (List.replicate m.cells.length 0) = ws
          unfold M.borne1
          rw [nums_set]
          rfl
    · rintro σ H' ⟨v2, rfl, s, hq⟩
      refine ⟨_, rfl, ?_⟩
      refine k q H' nqH s ?_
      rw [hq, refs_len, List.take_length]
      rfl
theorem mosts_snoc : ∀ (l : List Nat) (m : M) (k wt : Nat), m.mosts k (l ++ [wt]) = (m.mosts k l).most1 (k + l.length) wt
  | [], m, k, wt => rfl
  | a :: r, m, k, wt => by
    show (m.most1 k a).mosts (k + 1) (r ++ [wt]) = ((m.most1 k a).mosts (k + 1) r).most1 (k + (r.length + 1)) wt
    rw [mosts_snoc r, Nat.add_right_comm]
    rfl
structure LikeMost (m m' : M) : Prop where
  most : m'.most.length = m.most.length
  mostAt : m'.mostAt.length = m.mostAt.length
  cars : m'.cars = m.cars
theorem mosts_like : ∀ (l : List Nat) (m : M) (k : Nat), LikeMost m (m.mosts k l)
  | [], m, k => ⟨rfl, rfl, rfl⟩
  | a :: r, m, k => by
    have ih := mosts_like r (m.most1 k a) (k + 1)
    have h1 : LikeMost m (m.most1 k a) := by
      unfold M.most1
      split
      · exact ⟨by simp, by simp, rfl⟩
      · exact ⟨rfl, rfl, rfl⟩
    exact ⟨ih.most.trans h1.most, ih.mostAt.trans h1.mostAt, ih.cars.trans h1.cars⟩
theorem getD_nums {l : List Nat} {i : Nat} (h : i < l.length) : (nums l)[i]? = some (nat (l.getD i 0)) := by
  rw [List.getElem?_map, List.getD_eq_getElem?_getD, List.getElem?_eq_getElem h]
  rfl
theorem ixN_nat {n i : Nat} (h : i < n) : ixN n (i : Int) = some i := by
  unfold ixN
  rw [if_pos (by omega), if_pos (by omega)]
  rfl
theorem ok_Bridge_keep_most {f : Addr} {fd : FuncData} (F : L2.Fun K "keep_most" "Bridge.keep_most" s_Bridge_keep_most f fd) (T : Txt K mg CV CB CT PN) (c_borne : Met P w K mg base 1 CB "borne" (sp_borne K CV CB)) : FnOk P w K mg base CX0 2 f fd ["self"] (sp_keep_most K CV CB) := by
  refine F.ok sc_Bridge_keep_most (fun vs H Q E h => ?_) (fun cdv Ar outer s H vs Q E hr h => ?_)
  · obtain ⟨b, A, m, rfl, _⟩ := h
    rfl
  · have hu := hu_of hr
    refine ⟨_, (pss_one (ps_for PassesOwn.never rfl (pi_enum (by rfl) T.b_enumerate (pa_cons (pe_m0 c_borne hr (by decide) (pv 0)) pa_nil)) (pg_tup rfl (pgs_cons (pg_name (i := 1) sc_Bridge_keep_most.nd rfl (Or.inl rfl)) (pgs_cons (pg_name (i := 2) sc_Bridge_keep_most.nd rfl (Or.inl rfl)) pgs_nil)))
        (pss_one (ps_if (pt_cmpR op_gt (pv 2) (pe_ix ix_list (pe_fld (pv 0) rfl) (pv 1) (fun _ _ => rfl)) (nomark _)) (pss_cons (ps_asg (pv 2) (pg_sub (pe_fld (pv 0) rfl) (pv 1) set_list))
      (pss_one (ps_asg (pe_fld (pv 0) rfl) (pg_sub (pe_fld (pv 0) rfl) (pv 1) set_list)))) pss_nil)))), ?_⟩
    obtain ⟨b, A, m, rfl, B, hc, hf, hm1, hm2, k⟩ := h
    refine ⟨_, rfl, b, A.dx, _, rfl, B.ob, zno (by decide +kernel), ?_⟩
    refine ⟨b, A, m, rfl, B, hc, hf, fun p H1 np s1 hp => ?_⟩
    have hbl : m.borne.length = m.cells.length := by unfold M.borne; rw [borne_len, List.length_replicate]
    have pown := B.away np
    refine ⟨p, _, rfl, SqL.of hp, ?_⟩
    refine forEnum (xs := nums m.borne) (fun i σ H' => ∃ v1 v2, σ = [some (.ref b), v1, v2] ∧ Br CV CB H' b A (m.mosts 0 (m.borne.take i)) ∧ Step (own b A) H (own b A) H' ∧ H' p = some (.lst (nums m.borne))) ⟨_, _, rfl, B.same s1, Step.same s1, hp⟩ (fun i σ H' h => ?_) ?_ ?_
    · obtain ⟨_, _, _, _, _, hp'⟩ := h
      exact SqL.of hp'
    · rintro i x t σ H' hx ⟨v1, v2, rfl, B', st, hp'⟩ nt
      obtain ⟨wt, hw, rfl⟩ := nums_at hx
      have hi := (List.getElem?_eq_some_iff.mp hw).1
      have lk := mosts_like (m.borne.take i) m 0
      have e1 : m.mosts 0 (m.borne.take (i + 1)) = (m.mosts 0 (m.borne.take i)).most1 i wt := by
        rw [take_one hw, mosts_snoc, Nat.zero_add, List.length_take, Nat.min_eq_left (by omega)]
      rw [e1]
      generalize m.mosts 0 (m.borne.take i) = mi at B' lk
      have s2 : Same H' (upd H' t (.tup [nat i, nat wt])) := same_new nt
      have B2 := B'.same s2
      have st2 := st.trans (Step.same s2)
      have hp2 := s2 _ _ hp'
      have hl1 : i < mi.most.length := by rw [lk.most]; omega
      have hl2 : i < mi.mostAt.length := by rw [lk.mostAt]; omega
      refine ⟨t, _, rfl, SqT.of upd_same, rfl, _, _, rfl, _, _, rfl, rfl, ?_⟩
      refine ⟨_, rfl, _, rfl, B2.r_most_borne T ?_⟩
      refine ⟨_, rfl, ?_⟩
      refine ⟨A.most, _, _, _, rfl, rfl, SqL.of B2.l_most, atI_nat (getD_nums hl1), ?_⟩
      refine ⟨_, _, rfl, rfl, _, rfl, ?_⟩
      rw [decide_lt]
      by_cases c : mi.most.getD i 0 < wt
      · refine itT (decide_eq_true c) ?_
        have e2 : mi.most1 i wt = { mi with most := mi.most.set i wt, mostAt := mi.mostAt.set i mi.time } := if_pos c
        rw [e2]
        refine ⟨_, rfl, _, rfl, B2.r_most_borne T ?_⟩
        refine ⟨_, rfl, ?_⟩
        refine ⟨A.most, _, _, i, rfl, rfl, B2.l_most, (by rw [List.length_map]; exact ixN_nat hl1), ?_⟩
        have B3 := B2.setL (m' := { mi with most := mi.most.set i wt }) 8 (a := A.most) (o' := .lst ((nums mi.most).set i (nat wt))) rfl rfl (by rw [← nums_set]; rfl) rfl
        have hpm : p ≠ A.most := fun e => pown (by rw [e]; exact B.mem_l 8 rfl)
        refine ⟨_, rfl, B3.r_time T ?_⟩
        refine ⟨_, rfl, B3.r_most_borne_at T ?_⟩
        refine ⟨_, rfl, ?_⟩
        refine ⟨A.mostAt, _, _, i, rfl, rfl, B3.l_mostAt, (by rw [List.length_map]; exact ixN_nat hl2), ?_⟩
        have B4 := B3.setL (m' := { mi with most := mi.most.set i wt, mostAt := mi.mostAt.set i mi.time }) 9 (a := A.mostAt) (o' := .lst ((nums mi.mostAt).set i (nat mi.time))) rfl rfl (by rw [← nums_set]; rfl) rfl
        have hpa : p ≠ A.mostAt := fun e => pown (by rw [e]; exact B.mem_l 9 rfl)
        refine ⟨_, _, rfl, B4, (st2.trans (Step.at_ (B.mem_l 8 rfl))).trans (Step.at_ (B.mem_l 9 rfl)), ?_⟩
        rw [upd_ne hpa, upd_ne hpm]
        exact hp2
      · refine itF (decide_eq_false c) ?_
        have e2 : mi.most1 i wt = mi := if_neg c
        rw [e2]
        exact ⟨_, _, rfl, B2, st2, hp2⟩
    · rintro σ H' ⟨v1, v2, rfl, B', st, _⟩
      rw [List.length_map, List.take_length] at B'
      exact k H' B' st
end
end OL


/-! ## the mathematics: what every def keeps -/
namespace OL
open M
theorem getD_set_self {l : List Veh} {i : Nat} {v : Veh} (h : i < l.length) : (l.set i v).getD i noVeh = v := by
  rw [List.getD_eq_getElem?_getD, List.getElem?_set_self (by simpa using h)]
  rfl
theorem getD_set_ne {l : List Veh} {i j : Nat} {v : Veh} (h : i ≠ j) : (l.set i v).getD j noVeh = l.getD j noVeh := by
  rw [List.getD_eq_getElem?_getD, List.getElem?_set_ne h, List.getD_eq_getElem?_getD]
theorem car_set {m : M} {i : Nat} {v : Veh} (h : i < m.cars.length) : (m.setCar i v).car i = v := getD_set_self h
theorem car_set_ne {m : M} {i j : Nat} {v : Veh} (h : i ≠ j) : (m.setCar i v).car j = m.car j := getD_set_ne h
/-- what no def of a tick changes of a car, and of the bridge but its cars -/
structure Fix (m m' : M) : Prop where
  turn : m'.turn = m.turn
  cells : m'.cells = m.cells
  limits : m'.limits = m.limits
  num : m'.cars.length = m.cars.length
  sd : ∀ j, (m'.car j).side = (m.car j).side
  wt : ∀ j, (m'.car j).weight = (m.car j).weight
theorem Fix.refl (m : M) : Fix m m := ⟨rfl, rfl, rfl, rfl, fun _ => rfl, fun _ => rfl⟩
theorem Fix.trans {a b c : M} (x : Fix a b) (y : Fix b c) : Fix a c :=
  ⟨y.turn.trans x.turn, y.cells.trans x.cells, y.limits.trans x.limits, y.num.trans x.num, fun j => (y.sd j).trans (x.sd j), fun j => (y.wt j).trans (x.wt j)⟩
theorem Fix.spanOf {m m' : M} (f : Fix m m') : m'.spanOf = m.spanOf := by unfold M.spanOf; rw [f.cells]
theorem Fix.N {m m' : M} (f : Fix m m') : m'.N = m.N := by unfold M.N; rw [f.spanOf]
theorem Fix.span {m m' : M} (f : Fix m m') (c : Nat) : m'.span c = m.span c := by unfold M.span; rw [f.spanOf]
theorem Fix.limit {m m' : M} (f : Fix m m') (c : Nat) : m'.limit c = m.limit c := by unfold M.limit; rw [f.limits]
theorem Fix.first {m m' : M} (f : Fix m m') (d : Nat) : m'.first d = m.first d := by unfold M.first; rw [f.N]
theorem Fix.last {m m' : M} (f : Fix m m') (d : Nat) : m'.last d = m.last d := f.first _
theorem fix_set {m : M} {i : Nat} {v : Veh} (h1 : v.side = (m.car i).side) (h2 : v.weight = (m.car i).weight) : Fix m (m.setCar i v) := by
  refine ⟨rfl, rfl, rfl, by unfold M.setCar; simp, fun j => ?_, fun j => ?_⟩
  · by_cases e : i = j
    · subst e
      by_cases hi : i < m.cars.length
      · rw [car_set hi, h1]
      · have : (m.setCar i v).car i = m.car i := by
          unfold M.setCar M.car
          simp only
          rw [List.set_eq_of_length_le (by omega)]
        rw [this]
    · rw [car_set_ne e]
  · by_cases e : i = j
    · subst e
      by_cases hi : i < m.cars.length
      · rw [car_set hi, h2]
      · have : (m.setCar i v).car i = m.car i := by
          unfold M.setCar M.car
          simp only
          rw [List.set_eq_of_length_le (by omega)]
        rw [this]
    · rw [car_set_ne e]
/-! ### move_all's loop -/
theorem next_lt {m : M} {i : Nat} (h : (m.car i).cell < m.N) (hs : (m.car i).side ≤ 1) (hl : ¬ (m.car i).cell = m.last (m.car i).side) : m.next i < m.N := by
  unfold M.next
  unfold M.last M.first at hl
  by_cases c : (m.car i).side = 0
  · rw [if_pos c]
    rw [c] at hl
    rw [if_neg (by omega)] at hl
    omega
  · rw [if_neg c]
    omega
/-- behind the part l of those on the bridge -/
structure Moved (m : M) (l : List Nat) (s : M × List Nat × List Nat) : Prop where
  fix : Fix m s.1
  same : { s.1 with cars := m.cars } = m
  out : ∀ j, j ∉ l → s.1.car j = m.car j
  sub : s.2.2.Sublist l
  gsub : s.2.1.Sublist l
  st : ∀ j ∈ l, (j ∈ s.2.2 ∧ j ∉ s.2.1 ∧ (s.1.car j).place = 1 ∧ (s.1.car j).cell < m.N) ∨ (j ∉ s.2.2 ∧ j ∈ s.2.1 ∧ (s.1.car j).place = 2 ∧ (s.1.car j).went = m.time)
theorem Moved.nil (m : M) : Moved m [] (m, [], []) := ⟨Fix.refl m, rfl, fun _ _ => rfl, List.Sublist.refl _, List.Sublist.refl _, fun _ h => by cases h⟩
theorem moves_snoc (m : M) (l : List Nat) (i : Nat) : m.moves (l ++ [i]) = move1 (m.moves l) i := by
  unfold M.moves
  rw [List.foldl_append]
  rfl
theorem Moved.step {m : M} {l : List Nat} {s : M × List Nat × List Nat} {i : Nat} (h : Moved m l s) (hi : i ∉ l) (hn : i < m.cars.length) (hp : (m.car i).place = 1) (hc : (m.car i).cell < m.N) (hs : (m.car i).side ≤ 1) : Moved m (l ++ [i]) (move1 s i) := by
  have ei := h.out i hi
  have hn' : i < s.1.cars.length := by rw [h.fix.num]; exact hn
  have mem : ∀ j, j ∈ l ++ [i] ↔ j ∈ l ∨ j = i := fun j => by simp
  unfold move1
  by_cases c : (s.1.car i).cell = s.1.last (s.1.car i).side
  · rw [if_pos c]
    refine ⟨h.fix.trans (fix_set rfl rfl), h.same, fun j hj => ?_, List.Sublist.trans h.sub (List.sublist_append_left ..), List.Sublist.append h.gsub (List.Sublist.refl _), fun j hj => ?_⟩
    · rw [mem] at hj
      show (s.1.put i 2).car j = _
      unfold M.put
      rw [car_set_ne fun e => hj (.inr e.symm)]
      exact h.out j fun z => hj (.inl z)
    · rcases (mem j).mp hj with hj | rfl
      · have ne : i ≠ j := fun e => hi (by rw [e]; exact hj)
        have e1 : (s.1.put i 2).car j = s.1.car j := car_set_ne ne
        show (j ∈ s.2.2 ∧ j ∉ s.2.1 ++ [i] ∧ ((s.1.put i 2).car j).place = 1 ∧ ((s.1.put i 2).car j).cell < m.N) ∨ (j ∉ s.2.2 ∧ j ∈ s.2.1 ++ [i] ∧ ((s.1.put i 2).car j).place = 2 ∧ ((s.1.put i 2).car j).went = m.time)
        rw [e1]
        rcases h.st j hj with ⟨a, b, c, d⟩ | ⟨a, b, c⟩
        · exact .inl ⟨a, fun z => by simp at z; rcases z with z | z; exact b z; exact ne z.symm, c, d⟩
        · exact .inr ⟨a, by simp [b], c⟩
      · have e2 : (s.1.put j 2).car j = { s.1.car j with place := 2, went := s.1.time } := car_set hn'
        refine .inr ⟨fun z => hi (h.sub.subset z), by simp, ?_⟩
        show ((s.1.put j 2).car j).place = 2 ∧ ((s.1.put j 2).car j).went = m.time
        rw [e2]
        have et : s.1.time = m.time := by rw [← h.same]
        exact ⟨rfl, et⟩
  · rw [if_neg c]
    have hN : s.1.N = m.N := h.fix.N
    have hc' : (s.1.car i).cell < s.1.N := by rw [ei, hN]; exact hc
    have hs' : (s.1.car i).side ≤ 1 := by rw [ei]; exact hs
    have nx := next_lt hc' hs' c
    rw [hN] at nx
    have key : ∃ s1 : M, s1 = (if s.1.canMove i (s.1.next i) s.2.2 = true then s.1.setCell i (s.1.next i) else s.1) ∧ Fix s.1 s1 ∧ { s1 with cars := m.cars } = m ∧ (∀ j, j ≠ i → s1.car j = s.1.car j) ∧ (s1.car i).place = 1 ∧ (s1.car i).cell < m.N := by
      by_cases g : s.1.canMove i (s.1.next i) s.2.2 = true
      · refine ⟨_, rfl, ?_⟩
        rw [if_pos g]
        refine ⟨fix_set rfl rfl, h.same, fun j hj => car_set_ne hj.symm, ?_, ?_⟩
        · unfold M.setCell; rw [car_set hn']; show (s.1.car i).place = 1; rw [ei, hp]
        · unfold M.setCell; rw [car_set hn']; exact nx
      · refine ⟨_, rfl, ?_⟩
        rw [if_neg g]
        exact ⟨Fix.refl _, h.same, fun _ _ => rfl, by rw [ei, hp], by rw [ei]; exact hc⟩
    obtain ⟨s1, e1, f1, q1, o1, p1, c1⟩ := key
    rw [← e1]
    refine ⟨h.fix.trans f1, q1, fun j hj => ?_, List.Sublist.append h.sub (List.Sublist.refl _), List.Sublist.trans h.gsub (List.sublist_append_left ..), fun j hj => ?_⟩
    · rw [mem] at hj
      show s1.car j = _
      rw [o1 j fun e => hj (.inr e)]
      exact h.out j fun z => hj (.inl z)
    · rcases (mem j).mp hj with hj | rfl
      · have ne : j ≠ i := fun e => hi (by rw [← e]; exact hj)
        show (j ∈ s.2.2 ++ [i] ∧ j ∉ s.2.1 ∧ (s1.car j).place = 1 ∧ (s1.car j).cell < m.N) ∨ (j ∉ s.2.2 ++ [i] ∧ j ∈ s.2.1 ∧ (s1.car j).place = 2 ∧ (s1.car j).went = m.time)
        rw [o1 j ne]
        rcases h.st j hj with ⟨a, b, c, d⟩ | ⟨a, b, c⟩
        · exact .inl ⟨by simp [a], b, c, d⟩
        · exact .inr ⟨fun z => by simp at z; rcases z with z | z; exact a z; exact ne z, b, c⟩
      · exact .inl ⟨by simp, fun z => hi (h.gsub.subset z), p1, c1⟩
theorem snoc_ind {α : Type} {C : List α → Prop} (h0 : C []) (h1 : ∀ l a, C l → C (l ++ [a])) (l : List α) : C l := by
  have all : ∀ (n : Nat) (l : List α), l.length = n → C l := by
    intro n
    induction n with
    | zero => intro l e; rw [List.eq_nil_of_length_eq_zero e]; exact h0
    | succ n ih =>
      intro l e
      have ne : l ≠ [] := fun z => by rw [z] at e; simp at e
      rw [← List.dropLast_concat_getLast ne]
      exact h1 _ _ (ih _ (by rw [List.length_dropLast]; omega))
  exact all l.length l rfl
theorem moved_all {m : M} (ok : OK m) : ∀ {l r : List Nat}, l ++ r = m.cross → Moved m l (m.moves l) := by
  intro l
  induction l using snoc_ind with
  | h0 => intro r _; exact Moved.nil m
  | h1 l i ih =>
    intro r e
    rw [List.append_assoc] at e
    have h := ih e
    rw [moves_snoc]
    have hi : i ∈ m.cross := by rw [← e]; simp
    obtain ⟨h1, h2, h3⟩ := ok.cr i hi
    have nd := ok.cnd
    rw [← e] at nd
    have ni : i ∉ l := fun z => (List.nodup_append.mp nd).2.2 i z i (by simp) rfl
    exact h.step ni h1 h2 h3 (ok.csd i h1)
theorem moved_cross {m : M} (ok : OK m) : Moved m m.cross (m.moves m.cross) := moved_all ok (r := []) (List.append_nil _)
theorem same_fields {m m' : M} {c : List Veh} (h : { m' with cars := c } = m) : m' = { m with cars := m'.cars } := by rw [← h]
theorem wait_cars (m : M) (c : List Veh) (d : Nat) : M.wait { m with cars := c } d = m.wait d := rfl
theorem OK.moveAll {m : M} (ok : OK m) : OK m.moveAll := by
  have h := moved_cross ok
  have e0 := same_fields h.same
  have f := h.fix
  have e : m.moveAll = { m with cars := (m.moves m.cross).1.cars, cross := (m.moves m.cross).2.2 } := by
    unfold M.moveAll
    rw [e0]
  have ec : ∀ j, m.moveAll.car j = (m.moves m.cross).1.car j := fun j => rfl
  have hw : ∀ d, m.moveAll.wait d = m.wait d := fun d => by rw [e]; rfl
  have hN : m.moveAll.N = m.N := by rw [e]; rfl
  have hcross : m.moveAll.cross = (m.moves m.cross).2.2 := rfl
  have hlen : m.moveAll.cars.length = m.cars.length := f.num
  have notc : ∀ d, d ≤ 1 → ∀ i ∈ m.wait d, i ∉ m.cross := fun d hd i hi z => by
    have h1 := (ok.wt d hd i hi).2.2
    have h2 := (ok.cr i z).2.1
    omega
  refine ⟨?_, ?_, ?_, ?_, ?_, ?_, ?_, ?_, fun i hi => ?_, fun d hd i hi => ?_, fun d hd => ?_, fun i hi hp => ?_, fun i hi => ?_, ?_, fun i hi hp => ?_, ?_⟩
  · rw [e]; exact ok.lim
  · rw [e]; exact ok.mo
  · rw [e]; exact ok.ma
  · rw [e]; exact ok.some_
  · rw [e]; exact ok.few
  · rw [e]; exact ok.pos
  · rw [e]; exact ok.sd
  · rw [hlen]; exact ok.num
  · rw [ec, f.sd]; exact ok.csd i (by omega)
  · rw [hw] at hi
    obtain ⟨a, b, c⟩ := ok.wt d hd i hi
    rw [ec, h.out i (notc d hd i hi), hlen]
    exact ⟨a, b, c⟩
  · rw [hw]; exact ok.wnd d hd
  · rw [ec] at hp ⊢
    rw [hlen] at hi
    by_cases z : i ∈ m.cross
    · rcases h.st i z with ⟨_, _, q, _⟩ | ⟨_, _, q, _⟩ <;> omega
    · rw [h.out i z] at hp ⊢
      rw [hw]
      exact ok.win i hi hp
  · rw [hcross] at hi
    have z := h.sub.subset hi
    rw [ec, hlen, hN]
    rcases h.st i z with ⟨_, _, q, q2⟩ | ⟨q, _⟩
    · exact ⟨(ok.cr i z).1, q, q2⟩
    · exact absurd hi q
  · rw [hcross]
    exact h.sub.nodup ok.cnd
  · rw [ec] at hp
    rw [hlen] at hi
    rw [hcross]
    by_cases z : i ∈ m.cross
    · rcases h.st i z with ⟨q, _⟩ | ⟨_, _, q, _⟩
      · exact q
      · omega
    · rw [h.out i z] at hp
      exact absurd (ok.cin i hi hp) z
  · have l1 : m.moveAll.w0 = m.w0 := hw 0
    have l2 : m.moveAll.w1 = m.w1 := hw 1
    rw [l1, l2, hlen, hcross]
    have := h.sub.length_le
    have := ok.len
    omega
theorem OK.up {m : M} (ok : OK m) : OK m.up := ⟨ok.lim, ok.mo, ok.ma, ok.some_, ok.few, ok.pos, ok.sd, ok.num, ok.csd, ok.wt, ok.wnd, ok.win, ok.cr, ok.cnd, ok.cin, ok.len⟩
theorem OK.change {m : M} (ok : OK m) : OK m.change := ⟨ok.lim, ok.mo, ok.ma, ok.some_, ok.few, ok.pos, by show 1 - m.side ≤ 1; omega, ok.num, ok.csd, ok.wt, ok.wnd, ok.win, ok.cr, ok.cnd, ok.cin, ok.len⟩
theorem OK.turned {m : M} (ok : OK m) : OK m.turned := by
  unfold M.turned
  split
  · exact ok.change
  · exact ok
theorem OK.most1 {m : M} (ok : OK m) (k w : Nat) : OK (m.most1 k w) := by
  unfold M.most1
  split
  · exact ⟨ok.lim, by show (m.most.set k w).length = _; rw [List.length_set]; exact ok.mo, by show (m.mostAt.set k m.time).length = _; rw [List.length_set]; exact ok.ma, ok.some_, ok.few, ok.pos, ok.sd, ok.num, ok.csd, ok.wt, ok.wnd, ok.win, ok.cr, ok.cnd, ok.cin, ok.len⟩
  · exact ok
theorem OK.mosts : ∀ {l : List Nat} {m : M} {k : Nat}, OK m → OK (m.mosts k l)
  | [], _, _, ok => ok
  | w :: r, m, k, ok => OK.mosts (l := r) (ok.most1 k w)
theorem OK.keepMost {m : M} (ok : OK m) : OK m.keepMost := ok.mosts
/-! ### one is taken from those that wait -/
theorem setWait_cars (m : M) (d : Nat) (l : List Nat) : (m.setWait d l).cars = m.cars := by unfold M.setWait; split <;> rfl
theorem setWait_car (m : M) (d : Nat) (l : List Nat) (j : Nat) : (m.setWait d l).car j = m.car j := by unfold M.car; rw [setWait_cars]
theorem setWait_wait {m : M} {d : Nat} {l : List Nat} (hd : d ≤ 1) (e : Nat) (he : e ≤ 1) : (m.setWait d l).wait e = if e = d then l else m.wait e := by
  unfold M.setWait M.wait
  by_cases h : d = 0
  · subst h
    by_cases g : e = 0
    · simp [g]
    · simp [g]
  · have : d = 1 := by omega
    subst this
    by_cases g : e = 0
    · subst g; simp
    · have : e = 1 := by omega
      subst this; simp
theorem take_car {m : M} {i p : Nat} (h : i < m.cars.length) : (m.take i p).car i = { m.car i with place := p, went := m.time } := by
  unfold M.take M.put
  rw [car_set (by rw [setWait_cars]; exact h), setWait_car]
  unfold M.setWait
  split <;> rfl
theorem take_car_ne {m : M} {i p j : Nat} (h : i ≠ j) : (m.take i p).car j = m.car j := by
  unfold M.take M.put
  rw [car_set_ne h, setWait_car]
theorem take_wait {m : M} {i p e : Nat} (hd : (m.car i).side ≤ 1) (he : e ≤ 1) : (m.take i p).wait e = if e = (m.car i).side then (m.wait e).erase i else m.wait e := by
  show (m.setWait (m.car i).side ((m.wait (m.car i).side).erase i)).wait e = _
  rw [setWait_wait hd e he]
  by_cases g : e = (m.car i).side
  · rw [if_pos g, if_pos g, g]
  · rw [if_neg g, if_neg g]
theorem setWait_other {m : M} {d : Nat} {l : List Nat} : (m.setWait d l).turn = m.turn ∧ (m.setWait d l).cells = m.cells ∧ (m.setWait d l).limits = m.limits ∧ (m.setWait d l).cross = m.cross ∧ (m.setWait d l).side = m.side ∧ (m.setWait d l).gone = m.gone ∧
    (m.setWait d l).shut = m.shut ∧ (m.setWait d l).time = m.time ∧ (m.setWait d l).most = m.most ∧ (m.setWait d l).mostAt = m.mostAt := by
  unfold M.setWait
  split <;> simp
theorem fix_take {m : M} {i p : Nat} : Fix m (m.take i p) := by
  have f1 : Fix m (m.setWait (m.car i).side ((m.wait (m.car i).side).erase i)) := by
    obtain ⟨h1, h2, h3, _⟩ := setWait_other (m := m) (d := (m.car i).side) (l := (m.wait (m.car i).side).erase i)
    exact ⟨h1, h2, h3, by rw [setWait_cars], fun j => by rw [setWait_car], fun j => by rw [setWait_car]⟩
  exact f1.trans (fix_set rfl rfl)
theorem take_len {m : M} {i p : Nat} (hd : (m.car i).side ≤ 1) (hi : i ∈ m.wait (m.car i).side) : (m.take i p).w0.length + (m.take i p).w1.length + 1 = m.w0.length + m.w1.length := by
  have a0 : (m.take i p).w0 = (m.take i p).wait 0 := rfl
  have a1 : (m.take i p).w1 = (m.take i p).wait 1 := rfl
  have b0 : m.w0 = m.wait 0 := rfl
  have b1 : m.w1 = m.wait 1 := rfl
  rw [a0, a1, b0, b1, take_wait hd (by omega), take_wait hd (by omega)]
  rcases (by omega : (m.car i).side = 0 ∨ (m.car i).side = 1) with e | e
  · rw [e] at hi ⊢
    simp only [if_true, show ¬ (1 : Nat) = 0 by omega, if_false]
    have := List.length_pos_of_mem hi
    rw [List.length_erase_of_mem hi]; omega
  · rw [e] at hi ⊢
    simp only [if_true, show ¬ (0 : Nat) = 1 by omega, if_false]
    have := List.length_pos_of_mem hi
    rw [List.length_erase_of_mem hi]; omega
/-- one that waits is taken away (p: 3 it gave up, 4 it was sent away), or goes on the bridge (p = 1, c its cell) -/
theorem OK.away {m : M} (ok : OK m) {i p : Nat} (h : i < m.cars.length) (h0 : (m.car i).place = 0) (hp : 2 ≤ p) : OK (m.take i p) := by
  have hd := ok.csd i h
  have f := fix_take (m := m) (i := i) (p := p)
  obtain ⟨t1, t2, t3, t4, t5, t6, t7, t8, t9, t10⟩ := setWait_other (m := m) (d := (m.car i).side) (l := (m.wait (m.car i).side).erase i)
  have hin := ok.win i h h0
  refine ⟨?_, ?_, ?_, ?_, ?_, ?_, ?_, ?_, fun j hj => ?_, fun d hd' j hj => ?_, fun d hd' => ?_, fun j hj hpj => ?_, fun j hj => ?_, ?_, fun j hj hpj => ?_, ?_⟩
  · rw [f.limits, f.cells]; exact ok.lim
  · show (m.setWait _ _).most.length = (m.setWait _ _).cells.length; rw [t9, t2]; exact ok.mo
  · show (m.setWait _ _).mostAt.length = (m.setWait _ _).cells.length; rw [t10, t2]; exact ok.ma
  · rw [f.cells]; exact ok.some_
  · rw [f.cells]; exact ok.few
  · rw [f.cells]; exact ok.pos
  · show (m.setWait _ _).side ≤ 1; rw [t5]; exact ok.sd
  · rw [f.num]; exact ok.num
  · rw [f.sd]; exact ok.csd j (by rw [f.num] at hj; exact hj)
  · rw [take_wait hd hd'] at hj
    have hj' : j ∈ m.wait d ∧ j ≠ i := by
      by_cases g : d = (m.car i).side
      · rw [if_pos g] at hj
        have := (List.Nodup.mem_erase_iff (ok.wnd d hd')).mp hj
        exact ⟨this.2, this.1⟩
      · rw [if_neg g] at hj
        refine ⟨hj, fun e => g ?_⟩
        rw [← e]; exact (ok.wt d hd' j hj).2.1.symm
    obtain ⟨a, b, c⟩ := ok.wt d hd' j hj'.1
    rw [f.num, take_car_ne hj'.2.symm]
    exact ⟨a, b, c⟩
  · rw [take_wait hd hd']
    split
    · exact (ok.wnd d hd').erase i
    · exact ok.wnd d hd'
  · rw [f.num] at hj
    by_cases e : i = j
    · subst e
      rw [take_car h] at hpj
      have : p = 0 := hpj
      omega
    · rw [take_car_ne e] at hpj ⊢
      have z := ok.win j hj hpj
      rw [take_wait hd (ok.csd j hj)]
      split
      · exact (List.mem_erase_of_ne (fun q => e q.symm)).mpr z
      · exact z
  · have hj' : j ∈ m.cross := by
      have : (m.take i p).cross = m.cross := t4
      rw [this] at hj; exact hj
    obtain ⟨a, b, c⟩ := ok.cr j hj'
    have e : i ≠ j := fun e => by rw [e] at h0; omega
    rw [f.num, take_car_ne e, f.N]
    exact ⟨a, b, c⟩
  · show (m.setWait _ _).cross.Nodup; rw [t4]; exact ok.cnd
  · rw [f.num] at hj
    show j ∈ (m.setWait _ _).cross
    rw [t4]
    by_cases e : i = j
    · subst e
      rw [take_car h] at hpj
      have : p = 1 := hpj
      omega
    · rw [take_car_ne e] at hpj
      exact ok.cin j hj hpj
  · have l := take_len (p := p) hd hin
    have hc : (m.take i p).cross = m.cross := t4
    rw [hc, f.num]
    have := ok.len
    omega
theorem N_pos {m : M} (ok : OK m) : 0 < m.N := by
  unfold M.N M.spanOf
  have h1 := ok.some_
  have h2 := ok.pos
  cases e : m.cells with
  | nil => rw [e] at h1; simp at h1
  | cons c r =>
    rw [e] at h2
    show 0 < (List.replicate c 0 ++ spansFrom 1 r).length
    rw [List.length_append, List.length_replicate]
    have := (h2 c (List.mem_cons_self ..)).1
    omega
theorem first_lt {m : M} (ok : OK m) (d : Nat) : m.first d < m.N := by
  have := N_pos ok
  unfold M.first
  split <;> omega
theorem enters_car {m : M} {i : Nat} (h : i < m.cars.length) : (m.enters i).car i = { m.car i with place := 1, went := m.time, cell := m.first m.side } := by
  show ((m.take i 1).setCell i (m.first m.side)).car i = _
  unfold M.setCell
  rw [car_set (by rw [fix_take.num]; exact h), take_car h]
theorem enters_car_ne {m : M} {i j : Nat} (h : i ≠ j) : (m.enters i).car j = m.car j := by
  show ((m.take i 1).setCell i (m.first m.side)).car j = _
  unfold M.setCell
  rw [car_set_ne h, take_car_ne h]
theorem fix_enters {m : M} {i : Nat} : Fix m (m.enters i) := by
  have f : Fix m ((m.take i 1).setCell i (m.first m.side)) := fix_take.trans (fix_set rfl rfl)
  exact ⟨f.turn, f.cells, f.limits, f.num, f.sd, f.wt⟩
theorem enters_wait {m : M} {i e : Nat} (hd : (m.car i).side ≤ 1) (he : e ≤ 1) : (m.enters i).wait e = if e = (m.car i).side then (m.wait e).erase i else m.wait e := take_wait (p := 1) hd he
theorem OK.enters {m : M} (ok : OK m) {i : Nat} (h : i < m.cars.length) (h0 : (m.car i).place = 0) : OK (m.enters i) := by
  have hd := ok.csd i h
  have f := fix_enters (m := m) (i := i)
  obtain ⟨t1, t2, t3, t4, t5, t6, t7, t8, t9, t10⟩ := setWait_other (m := m) (d := (m.car i).side) (l := (m.wait (m.car i).side).erase i)
  have hin := ok.win i h h0
  have hni : i ∉ m.cross := fun z => by have := (ok.cr i z).2.1; omega
  refine ⟨?_, ?_, ?_, ?_, ?_, ?_, ?_, ?_, fun j hj => ?_, fun d hd' j hj => ?_, fun d hd' => ?_, fun j hj hpj => ?_, fun j hj => ?_, ?_, fun j hj hpj => ?_, ?_⟩
  · rw [f.limits, f.cells]; exact ok.lim
  · show (m.setWait _ _).most.length = (m.setWait _ _).cells.length; rw [t9, t2]; exact ok.mo
  · show (m.setWait _ _).mostAt.length = (m.setWait _ _).cells.length; rw [t10, t2]; exact ok.ma
  · rw [f.cells]; exact ok.some_
  · rw [f.cells]; exact ok.few
  · rw [f.cells]; exact ok.pos
  · show (m.setWait _ _).side ≤ 1; rw [t5]; exact ok.sd
  · rw [f.num]; exact ok.num
  · rw [f.sd]; exact ok.csd j (by rw [f.num] at hj; exact hj)
  · rw [enters_wait hd hd'] at hj
    have hj' : j ∈ m.wait d ∧ j ≠ i := by
      by_cases g : d = (m.car i).side
      · rw [if_pos g] at hj
        have := (List.Nodup.mem_erase_iff (ok.wnd d hd')).mp hj
        exact ⟨this.2, this.1⟩
      · rw [if_neg g] at hj
        refine ⟨hj, fun e => g ?_⟩
        rw [← e]; exact (ok.wt d hd' j hj).2.1.symm
    obtain ⟨a, b, c⟩ := ok.wt d hd' j hj'.1
    rw [f.num, enters_car_ne hj'.2.symm]
    exact ⟨a, b, c⟩
  · rw [enters_wait hd hd']
    split
    · exact (ok.wnd d hd').erase i
    · exact ok.wnd d hd'
  · rw [f.num] at hj
    by_cases e : i = j
    · subst e
      rw [enters_car h] at hpj
      have : (1 : Nat) = 0 := hpj
      omega
    · rw [enters_car_ne e] at hpj ⊢
      have z := ok.win j hj hpj
      rw [enters_wait hd (ok.csd j hj)]
      split
      · exact (List.mem_erase_of_ne (fun q => e q.symm)).mpr z
      · exact z
  · have hj' : j ∈ m.cross ++ [i] := hj
    rw [f.num, f.N]
    by_cases e : i = j
    · subst e
      rw [enters_car h]
      exact ⟨h, rfl, first_lt ok _⟩
    · rw [enters_car_ne e]
      refine ok.cr j ?_
      simp at hj'
      rcases hj' with z | z
      · exact z
      · exact absurd z.symm e
  · show (m.cross ++ [i]).Nodup
    rw [List.nodup_append]
    exact ⟨ok.cnd, by simp, fun a ha b hb => by simp at hb; subst hb; exact fun e => hni (e ▸ ha)⟩
  · rw [f.num] at hj
    show j ∈ m.cross ++ [i]
    by_cases e : i = j
    · simp [e]
    · rw [enters_car_ne e] at hpj
      exact List.mem_append_left _ (ok.cin j hj hpj)
  · have l := take_len (p := 1) hd hin
    have hc : (m.enters i).cross = m.cross ++ [i] := rfl
    have e0 : (m.enters i).w0 = (m.take i 1).w0 := rfl
    have e1 : (m.enters i).w1 = (m.take i 1).w1 := rfl
    rw [hc, e0, e1, f.num, List.length_append]
    have := ok.len
    show _ + (m.cross.length + 1) ≤ _
    omega
theorem head_waits {m : M} (ok : OK m) {i : Nat} {r : List Nat} (h : m.wait m.side = i :: r) : i < m.cars.length ∧ (m.car i).side = m.side ∧ (m.car i).place = 0 := ok.wt m.side ok.sd i (by rw [h]; exact List.mem_cons_self ..)
theorem OK.letEnter {m : M} (ok : OK m) : OK m.letEnter := by
  unfold M.letEnter
  split
  · exact ok
  · rename_i i r e
    split
    · obtain ⟨a, _, c⟩ := head_waits ok e
      exact ok.enters a c
    · exact ok
theorem OK.entered {m : M} (ok : OK m) : OK m.entered := by
  unfold M.entered
  split
  · exact ok.letEnter
  · exact ok
theorem OK.tick {m : M} (ok : OK m) : OK m.tick := ok.up.moveAll.turned.entered.keepMost
theorem OK.ticks : ∀ {n : Nat} {m : M}, OK m → OK (m.ticks n)
  | 0, _, ok => ok
  | n + 1, m, ok => OK.ticks (n := n) ok.tick
theorem leaves_sub {m : M} (ok : OK m) : m.leaves.Sublist m.cross := (moved_cross ok).gsub
/-! ### those that are sent away -/
structure Sends (m : M) (l : List Nat) (s : M) : Prop where
  fix : Fix m s
  out : ∀ j, j ∉ l → s.car j = m.car j
  gone : ∀ j ∈ l, j < m.cars.length → s.car j = { m.car j with place := 4, went := m.time }
  sub : ∀ d, d ≤ 1 → (s.wait d).Sublist (m.wait d)
  stay : ∀ d, d ≤ 1 → ∀ j ∈ m.wait d, j ∉ l → j ∈ s.wait d
  time : s.time = m.time
theorem Sends.nil (m : M) : Sends m [] m := ⟨Fix.refl m, fun _ _ => rfl, (fun _ h => by cases h), fun _ _ => List.Sublist.refl _, fun _ _ _ h _ => h, rfl⟩
theorem take_time {m : M} {i p : Nat} : (m.take i p).time = m.time := (setWait_other (m := m)).2.2.2.2.2.2.2.1
theorem Sends.step {m s : M} {l : List Nat} {i : Nat} (h : Sends m l s) (hi : i ∉ l) (hn : i < m.cars.length) (hs : (m.car i).side ≤ 1) : Sends m (l ++ [i]) (s.take i 4) := by
  have hn' : i < s.cars.length := by rw [h.fix.num]; exact hn
  have hs' : (s.car i).side ≤ 1 := by rw [h.fix.sd]; exact hs
  refine ⟨h.fix.trans fix_take, fun j hj => ?_, fun j hj hl => ?_, fun d hd => ?_, fun d hd j hj hn => ?_, take_time.trans h.time⟩
  · have : j ∉ l ∧ j ≠ i := ⟨fun z => hj (by simp [z]), fun z => hj (by simp [z])⟩
    rw [take_car_ne this.2.symm, h.out j this.1]
  · by_cases e : i = j
    · subst e
      rw [take_car hn', h.out i hi, h.time]
    · rw [take_car_ne e]
      refine h.gone j ?_ hl
      simp at hj
      rcases hj with z | z
      · exact z
      · exact absurd z.symm e
  · rw [take_wait hs' hd]
    split
    · exact (List.erase_sublist).trans (h.sub d hd)
    · exact h.sub d hd
  · have : j ∉ l ∧ j ≠ i := ⟨fun z => hn (by simp [z]), fun z => hn (by simp [z])⟩
    have z := h.stay d hd j hj this.1
    rw [take_wait hs' hd]
    split
    · exact (List.mem_erase_of_ne this.2).mpr z
    · exact z
theorem send_snoc (m : M) (l : List Nat) (i : Nat) : m.send (l ++ [i]) = (m.send l).take i 4 := by
  unfold M.send
  rw [List.foldl_append]
  rfl
theorem heavy_nd (m : M) : m.heavy.Nodup := List.Sublist.nodup List.filter_sublist List.nodup_range
theorem heavy_mem {m : M} {i : Nat} : i ∈ m.heavy ↔ i < m.cars.length ∧ (m.car i).place = 0 ∧ m.least < (m.car i).weight := by
  unfold M.heavy
  rw [List.mem_filter, List.mem_range, Bool.and_eq_true, decide_eq_true_eq, decide_eq_true_eq]
theorem sends_all {m : M} (ok : OK m) : ∀ {l r : List Nat}, l ++ r = m.heavy → Sends m l (m.send l) := by
  intro l
  induction l using snoc_ind with
  | h0 => intro r _; exact Sends.nil m
  | h1 l i ih =>
    intro r e
    rw [List.append_assoc] at e
    have h := ih e
    rw [send_snoc]
    have hi : i ∈ m.heavy := by rw [← e]; simp
    have hn := (heavy_mem.mp hi).1
    have nd := heavy_nd m
    rw [← e] at nd
    have ni : i ∉ l := fun z => (List.nodup_append.mp nd).2.2 i z i (by simp) rfl
    exact h.step ni hn (ok.csd i hn)
end OL


/-! ## the calls, in the mirror's words -/
namespace OL
namespace M
def goneIn : Nat → M → Nat → Nat
  | 0, _, _ => 0
  | f + 1, m, i => if (m.car i).place = 2 then 0 else goneIn f m.tick i + 1
def willLeave (m : M) (i : Nat) : Bool := decide ((m.car i).place = 1) || (decide ((m.car i).place = 0) && !m.shut)
def ofN (l : List Nat) : List Int := l.map fun (n : Nat) => (n : Int)
def row (n : Nat) (l : List Nat) : List Int := ofN (n :: l.length :: l)
def twos (xs ys : List Nat) : List Nat := (xs.zip ys).flatMap fun x => [x.1, x.2]
def comesM (m : M) (a : List Nat) : M × List Int :=
  if decide (a.getD 0 0 ≤ 1) = true then
    if decide (1 ≤ a.getD 1 0 ∧ a.getD 1 0 ≤ 1000) = true then
      if 60 ≤ m.cars.length then (m, [-5]) else if m.least < a.getD 1 0 then (m, [-6]) else (m.add (a.getD 0 0) (a.getD 1 0), ofN [m.cars.length])
    else (m, [-1])
  else (m, [-1])
def givesM (m : M) (a : List Nat) : M × List Int :=
  if m.cars.length ≤ a.getD 0 0 then (m, [-2]) else if (m.car (a.getD 0 0)).place = 0 then (m.take (a.getD 0 0) 3, ofN [(m.take (a.getD 0 0) 3).w0.length + (m.take (a.getD 0 0) 3).w1.length]) else (m, [-4])
def ticksM (m : M) (a : List Nat) : M × List Int :=
  if decide (1 ≤ a.getD 0 0 ∧ a.getD 0 0 ≤ 1000) = true then (m.ticks (a.getD 0 0), row (m.ticks (a.getD 0 0)).time (m.lefts (a.getD 0 0))) else (m, [-1])
def limitM (m : M) (a : List Nat) : M × List Int :=
  if decide (1 ≤ a.getD 1 0 ∧ a.getD 1 0 ≤ 1000) = true then
    if m.limits.length ≤ a.getD 0 0 then (m, [-2]) else if m.cross.isEmpty = true then
      ((m.setLimit (a.getD 0 0) (a.getD 1 0)).sent, row (m.setLimit (a.getD 0 0) (a.getD 1 0)).heavy.length (m.setLimit (a.getD 0 0) (a.getD 1 0)).heavy)
    else (m, [-4])
  else (m, [-1])
def shutM (m : M) (a : List Nat) : M × List Int :=
  if decide (a.getD 0 0 ≤ 1) = true then ({ m with shut := decide (a.getD 0 0 = 1) }, ofN [m.cross.length]) else (m, [-1])
def whereM (m : M) (a : List Nat) : M × List Int :=
  if m.cars.length ≤ a.getD 0 0 then (m, [-2]) else
    if (m.car (a.getD 0 0)).place = 0 then (m, row 0 [(m.wait (m.car (a.getD 0 0)).side).idxOf (a.getD 0 0)])
    else if (m.car (a.getD 0 0)).place = 1 then (m, row 1 [(m.car (a.getD 0 0)).cell])
    else (m, row (m.car (a.getD 0 0)).place [(m.car (a.getD 0 0)).went])
def whenM (m : M) (a : List Nat) : M × List Int :=
  if m.cars.length ≤ a.getD 0 0 then (m, [-2]) else if m.willLeave (a.getD 0 0) = true then (m, ofN [goneIn 6000 m (a.getD 0 0)]) else (m, [-6])
def loadsM (m : M) (_ : List Nat) : M × List Int := (m, row m.cross.length m.borne)
def queueM (m : M) (a : List Nat) : M × List Int :=
  if decide (a.getD 0 0 ≤ 1) = true then (m, row (m.wait (a.getD 0 0)).length (m.wait (a.getD 0 0))) else (m, [-1])
def mostM (m : M) (_ : List Nat) : M × List Int := (m, row 0 (twos m.most m.mostAt))
def stateM (m : M) (_ : List Nat) : M × List Int :=
  (m, ofN ([m.time] ++ ((5 :: [m.turn, m.side, m.gone, if m.shut = true then 1 else 0, m.cars.length]) ++ (((twos m.cells m.limits).length :: twos m.cells m.limits) ++ ((twos m.cross (m.cross.map fun i => (m.car i).cell)).length :: twos m.cross (m.cross.map fun i => (m.car i).cell))))))
def beginsM (m : M) (a : List Nat) : M × List Int :=
  if decide (1 ≤ a.getD 0 0 ∧ a.getD 0 0 ≤ 20) = true then
    if areSpans (a.drop 2) = true then (fresh (a.getD 0 0) (every ((a.drop 2).drop 0)) (every ((a.drop 2).drop 1)), ofN [(fresh (a.getD 0 0) (every ((a.drop 2).drop 0)) (every ((a.drop 2).drop 1))).N])
    else (m, [-1])
  else (m, [-1])
/-- what a call does, by its place -/
def callM : Nat → M → List Nat → M × List Int
  | 0 => beginsM
  | 1 => comesM
  | 2 => givesM
  | 3 => ticksM
  | 4 => limitM
  | 5 => shutM
  | 6 => whereM
  | 7 => whenM
  | 8 => loadsM
  | 9 => queueM
  | 10 => mostM
  | _ => stateM
end M
def plains : List Nat := [1, 2, 1, 1, 2, 1, 1, 1, 0, 1, 0, 0]
def begins_ (_ : M) (a : List Nat) : Prop := 2 ≤ a.length ∧ a.length ≤ 62
def one_ (_ : M) (a : List Nat) : Prop := a.length = 1
def two_ (_ : M) (a : List Nat) : Prop := a.length = 2
def any_ (_ : M) (_ : List Nat) : Prop := True
def when_ (m : M) (a : List Nat) : Prop := a.length = 1 ∧ (a.getD 0 0 < m.cars.length → m.willLeave (a.getD 0 0) = true →
  ((m.ticks (M.goneIn 6000 m (a.getD 0 0))).car (a.getD 0 0)).place = 2 ∧ ∀ j, j < M.goneIn 6000 m (a.getD 0 0) → ((m.ticks j).car (a.getD 0 0)).place ≠ 2)
def preM : Nat → M → List Nat → Prop
  | 0 => begins_
  | 1 => two_
  | 2 => one_
  | 3 => one_
  | 4 => two_
  | 5 => one_
  | 6 => one_
  | 7 => when_
  | 8 => any_
  | 9 => one_
  | 10 => any_
  | _ => any_
/-- how many numbers stand behind a call's own -/
def argLen (c : Nat) (r : List Nat) : Nat := if c = 0 then 2 + r.getD 1 0 else plains.getD c 0
/-- calls played from a bridge, to the list's end -/
def runM : Nat → M → List Nat → List Int
  | _, _, [] => []
  | 0, _, _ :: _ => []
  | f + 1, m, c :: r => ((((M.callM c m (r.take (argLen c r))).2.length : Nat) : Int) :: (M.callM c m (r.take (argLen c r))).2) ++ runM f (M.callM c m (r.take (argLen c r))).1 (r.drop (argLen c r))
def GoodRun : Nat → M → List Nat → Prop
  | _, _, [] => True
  | 0, _, _ :: _ => False
  | f + 1, m, c :: r => c < 12 ∧ (c = 0 → 2 ≤ r.length) ∧ argLen c r ≤ r.length ∧ preM c m (r.take (argLen c r)) ∧ OK (M.callM c m (r.take (argLen c r))).1 ∧ GoodRun f (M.callM c m (r.take (argLen c r))).1 (r.drop (argLen c r))
end OL


namespace OL
open PySem PySem.Spec PyProof.Rows L2
/-! ## the bridge's own doings -/
def sp_take_from_waiting (K : PySem.W.Frag) (CV CB : Addr) : Sp := fun vs H Q _ => ∃ (b : Addr) (A : Adr) (m : M) (i p : Nat), vs = [.ref b, .ref (A.at_ i), nat p] ∧ Br CV CB H b A m ∧ i < m.cars.length ∧ (m.car i).side ≤ 1 ∧
  i ∈ m.wait (m.car i).side ∧ (m.wait (m.car i).side).Nodup ∧ (∀ j ∈ m.wait (m.car i).side, j < m.cars.length) ∧ ∀ H', Br CV CB H' b A (m.take i p) → Step (own b A) H (own b A) H' → Q .non H'
def sp_send_heavy_away (K : PySem.W.Frag) (CV CB : Addr) : Sp := fun vs H Q _ => ∃ (b : Addr) (A : Adr) (m : M), vs = [.ref b] ∧ Br CV CB H b A m ∧ OK m ∧
  ∀ p H', H p = none → Br CV CB H' b A m.sent → Step (own b A) H (own b A) H' → H' p = some (.lst (A.refs m.heavy)) → Q (.ref p) H'
def sp_move_all (K : PySem.W.Frag) (CV CB : Addr) : Sp := fun vs H Q _ => ∃ (b : Addr) (A : Adr) (m : M), vs = [.ref b] ∧ Br CV CB H b A m ∧ OK m ∧
  ∀ p A' H', H p = none → A'.cars = A.cars → Br CV CB H' b A' m.moveAll → Step (own b A) H (own b A') H' → p ∉ own b A' → H' p = some (.lst (nums m.leaves)) → Q (.ref p) H'
def sp_let_enter (K : PySem.W.Frag) (CV CB : Addr) : Sp := fun vs H Q _ => ∃ (b : Addr) (A : Adr) (m : M), vs = [.ref b] ∧ Br CV CB H b A m ∧ OK m ∧
  ∀ H', Br CV CB H' b A m.letEnter → Step (own b A) H (own b A) H' → Q .non H'
def sp_tick (K : PySem.W.Frag) (CV CB : Addr) : Sp := fun vs H Q _ => ∃ (b : Addr) (A : Adr) (m : M), vs = [.ref b] ∧ Br CV CB H b A m ∧ OK m ∧
  ∀ p A' H', H p = none → A'.cars = A.cars → Br CV CB H' b A' m.tick → Step (own b A) H (own b A') H' → p ∉ own b A' → H' p = some (.lst (nums m.left)) → Q (.ref p) H'
theorem erase_first : ∀ {l : List Nat} {j i : Nat}, l[j]? = some i → (∀ k, k < j → l[k]? ≠ some i) → l.eraseIdx j = l.erase i
  | [], j, i, h, _ => by simp at h
  | a :: r, 0, i, h, _ => by
    have e : a = i := Option.some.inj h
    subst e
    simp
  | a :: r, j + 1, i, h, hn => by
    have ne : a ≠ i := fun e => hn 0 (by omega) (by rw [e]; rfl)
    have ih := erase_first (l := r) (j := j) (i := i) h fun k hk e => hn (k + 1) (by omega) e
    rw [List.eraseIdx_cons_succ, ih, List.erase_cons_tail (by simpa using ne)]
theorem mem_first : ∀ {l : List Nat} {i : Nat}, i ∈ l → ∃ j : Nat, l[j]? = some i ∧ ∀ k, k < j → l[k]? ≠ some i
  | [], i, h => by cases h
  | a :: r, i, h => by
    by_cases e : a = i
    · exact ⟨0, by rw [e]; rfl, fun k hk => absurd hk (by omega)⟩
    · have hr : i ∈ r := by
        rcases List.mem_cons.mp h with z | z
        · exact absurd z.symm e
        · exact z
      obtain ⟨j, h1, h2⟩ := mem_first hr
      refine ⟨j + 1, h1, fun k hk => ?_⟩
      cases k with
      | zero => intro z; exact e (Option.some.inj z)
      | succ k => exact h2 k (by omega)
theorem eraseIdx_mapA {α β : Type} (f : α → β) : ∀ (l : List α) (j : Nat), (l.map f).eraseIdx j = (l.eraseIdx j).map f
  | [], _ => by simp
  | _ :: _, 0 => by simp
  | a :: r, j + 1 => by simp [eraseIdx_mapA f r j]
theorem vput_cell (j : Nat) (v : Veh) (c : Nat) : putF "cell" (nat c) (vF j v) = vF j { v with cell := c } := vput 4 rfl rfl
theorem letEnter_nil {m : M} (h : m.wait m.side = []) : m.letEnter = m := by
  unfold M.letEnter
  rw [h]
theorem letEnter_cons {m : M} {i : Nat} {r : List Nat} (h : m.wait m.side = i :: r) :
    m.letEnter = if (m.free (m.first m.side) m.cross && m.bearsIt (m.span (m.first m.side)) (m.car i).weight m.cross) = true then m.enters i else m := by
  unfold M.letEnter
  rw [h]
section
variable {P : Program} {w : World} {K : PySem.W.Frag} {mg : Str → Option Value} {base : Heap} {CV CB CT PN : Addr}
theorem Br.insts {H : Hp} {b : Addr} {A : Adr} {m : M} (B : Br CV CB H b A m) {l : List Nat} (h : ∀ j ∈ l, j < m.cars.length) : Insts CV H (l.map A.at_) := by
  intro a ha
  obtain ⟨j, hj, rfl⟩ := List.mem_map.mp ha
  exact ⟨_, _, B.car (h j hj)⟩
theorem at_first {H : Hp} {b : Addr} {A : Adr} {m : M} (B : Br CV CB H b A m) {l : List Nat} (h : ∀ j ∈ l, j < m.cars.length) {i j : Nat} (hj : l[j]? = some i) (hn : ∀ k, k < j → l[k]? ≠ some i) :
    (l.map A.at_)[j]? = some (A.at_ i) ∧ ∀ k : Nat, k < j → (l.map A.at_)[k]? ≠ some (A.at_ i) := by
  refine ⟨by rw [List.getElem?_map, hj]; rfl, fun k hk z => ?_⟩
  rw [List.getElem?_map] at z
  cases e : l[k]? with
  | none => rw [e] at z; cases z
  | some n =>
    rw [e] at z
    have q := B.inj (h n (List.mem_of_getElem? e)) (h i (List.mem_of_getElem? hj)) (Option.some.inj z)
    exact hn k hk (by rw [e, q])
theorem Br.setW {H : Hp} {b : Addr} {A : Adr} {m : M} (B : Br CV CB H b A m) {d : Nat} (hd : d ≤ 1) (l : List Nat) : Br CV CB (upd H (if d = 0 then A.w0 else A.w1) (.lst (A.refs l))) b A (m.setWait d l) := by
  unfold M.setWait
  by_cases c : d = 0
  · rw [if_pos c, if_pos c]
    exact B.setL 4 rfl rfl rfl rfl
  · rw [if_neg c, if_neg c]
    exact B.setL 5 rfl rfl rfl rfl
theorem Br.mem_w {H : Hp} {b : Addr} {A : Adr} {m : M} (B : Br CV CB H b A m) (d : Nat) : (if d = 0 then A.w0 else A.w1) ∈ own b A := by
  by_cases c : d = 0
  · rw [if_pos c]; exact B.mem_l 4 rfl
  · rw [if_neg c]; exact B.mem_l 5 rfl
theorem ok_Bridge_take_from_waiting {f : Addr} {fd : FuncData} (F : L2.Fun K "take_from_waiting" "Bridge.take_from_waiting" s_Bridge_take_from_waiting f fd) (T : Txt K mg CV CB CT PN) (c_put : Met P w K mg base 1 CB "put" (sp_put K CV CB)) : FnOk P w K mg base CX0 2 f fd ["self", "vehicle", "place"] (sp_take_from_waiting K CV CB) := by
  refine F.ok sc_Bridge_take_from_waiting (fun vs H Q E h => ?_) (fun cdv Ar outer s H vs Q E hr h => ?_)
  · obtain ⟨b, A, m, i, p, rfl, _⟩ := h
    rfl
  · have hu := hu_of hr
    refine ⟨_, (pss_cons (ps_expr (pe_bm PySem.F.plainAttrs_list PySem.F.slot_list_remove PySem.F.type_list_remove (mt_removeR T.eqV hu) (pe_ix ix_tup (pe_fld (pv 0) rfl) (pe_fld (pv 1) rfl) (fun _ _ => rfl)) (pa_cons (pv 1) pa_nil)))
      (pss_one (ps_expr (pe_m c_put hr (by decide) (pv 0) (pa_cons (pv 1) (pa_cons (pv 2) pa_nil)))))), ?_⟩
    obtain ⟨b, A, m, i, p, rfl, B, hi, hd, hin, hnd, hlt, k⟩ := h
    refine ⟨_, rfl, B.r_waiting T ?_⟩
    refine ⟨_, rfl, B.v_side T hi ?_⟩
    refine ⟨A.wait, _, _, _, rfl, rfl, SqT.of B.l_wait, atW hd, ?_⟩
    refine ⟨.inl ⟨rfl, _, SqL.of (B.l_at hd)⟩, _, rfl, ?_⟩
    obtain ⟨j, hj, hn⟩ := mem_first hin
    obtain ⟨g1, g2⟩ := at_first B hlt hj hn
    refine ⟨_, A.at_ i, _, j, rfl, rfl, B.l_at hd, B.insts hlt, g1, g2, ?_⟩
    have e1 : (((m.wait (m.car i).side).map A.at_).eraseIdx j).map V.ref = A.refs ((m.wait (m.car i).side).erase i) := by
      unfold Adr.refs
      rw [← erase_first hj hn, eraseIdx_mapA]
    rw [e1]
    have B1 := B.setW hd ((m.wait (m.car i).side).erase i)
    refine ⟨_, rfl, b, A.dx, _, rfl, B1.ob, zno (by decide +kernel), _, rfl, _, rfl, ?_⟩
    refine ⟨b, A, _, i, p, rfl, B1, by rw [setWait_cars]; exact hi, fun H' B' st => ?_⟩
    exact k H' B' ((Step.at_ (B.mem_w _)).trans st)
theorem ok_Bridge_let_enter {f : Addr} {fd : FuncData} (F : L2.Fun K "let_enter" "Bridge.let_enter" s_Bridge_let_enter f fd) (T : Txt K mg CV CB CT PN) (c_can_bear : Met P w K mg base 1 CB "can_bear" (sp_can_bear K CV CB)) (c_first_cell : Met P w K mg base 1 CB "first_cell" (sp_first_cell K CV CB)) (c_is_free : Met P w K mg base 1 CB "is_free" (sp_is_free K CV CB)) (c_take_from_waiting : Met P w K mg base 2 CB "take_from_waiting" (sp_take_from_waiting K CV CB)) : FnOk P w K mg base CX0 3 f fd ["self"] (sp_let_enter K CV CB) := by
  refine F.ok sc_Bridge_let_enter (fun vs H Q E h => ?_) (fun cdv Ar outer s H vs Q E hr h => ?_)
  · obtain ⟨b, A, m, rfl, _⟩ := h
    rfl
  · have hu := hu_of hr
    refine ⟨_, (pss_cons (ps_if (pt_not (pt_truth (pe_ix ix_tup (pe_fld (pv 0) rfl) (pe_fld (pv 0) rfl) (fun _ _ => rfl)) (by intro _; rfl))) (pss_one ps_retN) pss_nil)
      (pss_cons (ps_set (i := 1) sc_Bridge_let_enter.nd rfl (Or.inl rfl) (pe_ix ix_list (pe_ix ix_tup (pe_fld (pv 0) rfl) (pe_fld (pv 0) rfl) (fun _ _ => rfl)) pe_int (fun _ _ => rfl)))
      (pss_cons (ps_set (i := 2) sc_Bridge_let_enter.nd rfl (Or.inl rfl) (pe_m c_first_cell hr (by decide) (pv 0) (pa_cons (pe_fld (pv 0) rfl) pa_nil)))
      (pss_cons (ps_if (pt_not (pt_val (pe_m c_is_free hr (by decide) (pv 0) (pa_cons (pv 2) (pa_cons (pe_fld (pv 0) rfl) pa_nil))))) (pss_one ps_retN) pss_nil)
      (pss_cons (ps_if (pt_not (pt_val (pe_m c_can_bear hr (by decide) (pv 0) (pa_cons (pe_ix ix_list (pe_fld (pv 0) rfl) (pv 2) (fun _ _ => rfl)) (pa_cons (pe_fld (pv 1) rfl) (pa_cons (pe_fld (pv 0) rfl) pa_nil)))))) (pss_one ps_retN) pss_nil)
      (pss_cons (ps_expr (pe_m c_take_from_waiting hr (by decide) (pv 0) (pa_cons (pv 1) (pa_cons (gl T.g_CROSSES) pa_nil))))
      (pss_cons (ps_fld (pv 1) (pv 2) rfl)
      (pss_cons (ps_expr (pe_bm PySem.F.plainAttrs_list PySem.F.slot_list_append PySem.F.type_list_append mt_append (pe_fld (pv 0) rfl) (pa_cons (pv 1) pa_nil)))
      (pss_one (ps_fldaug (pv 0) pe_int in_add)))))))))), ?_⟩
    obtain ⟨b, A, m, rfl, B, ok, k⟩ := h
    have hd := ok.sd
    have hN := N_pos ok
    refine ⟨_, rfl, B.r_waiting T ?_⟩
    refine ⟨_, rfl, B.r_open_side T ?_⟩
    refine ⟨A.wait, _, _, _, rfl, rfl, SqT.of B.l_wait, atW hd, ?_⟩
    refine ⟨_, tru_refs (B.l_at hd), ?_⟩
    cases e : m.wait m.side with
    | nil =>
      rw [letEnter_nil e] at k
      refine itT rfl ?_
      exact k H B Step.refl
    | cons i r =>
      rw [letEnter_cons e] at k
      refine itF rfl ?_
      obtain ⟨h1, h2, h3⟩ := head_waits ok e
      have hcr : ∀ j ∈ m.cross, j < m.cars.length ∧ (m.car j).cell < m.N := fun j hj => ⟨(ok.cr j hj).1, (ok.cr j hj).2.2⟩
      have hcl : m.cross.length ≤ 1000 := by have := ok.len; have := ok.num; omega
      refine ⟨_, rfl, B.r_waiting T ?_⟩
      refine ⟨_, rfl, B.r_open_side T ?_⟩
      refine ⟨A.wait, _, _, _, rfl, rfl, SqT.of B.l_wait, atW hd, ?_⟩
      refine ⟨_, _, _, V.ref (A.at_ i), rfl, rfl, SqL.of (B.l_at hd), ?_, ?_⟩
      · refine atI_nat (j := 0) ?_
        rw [e]
        rfl
      refine ⟨_, rfl, b, A.dx, _, rfl, B.ob, zno (by decide +kernel), _, rfl, B.r_open_side T ?_⟩
      refine ⟨b, A, m, m.side, rfl, B, hN, ?_⟩
      have hf := first_lt ok m.side
      refine ⟨_, rfl, b, A.dx, _, rfl, B.ob, zno (by decide +kernel), _, rfl, _, rfl, B.r_crossing T ?_⟩
      refine ⟨b, A.cross, A, m, m.first m.side, m.cross, rfl, B, B.l_cross, fun j hj => (hcr j hj).1, hcl, fun H1 s1 => ?_⟩
      refine ⟨_, rfl, ?_⟩
      have B1 := B.same s1
      by_cases g1 : m.free (m.first m.side) m.cross = true
      · rw [g1, Bool.true_and] at k
        rw [g1]
        refine itF rfl ?_
        refine ⟨_, rfl, b, A.dx, _, rfl, B1.ob, zno (by decide +kernel), _, rfl, B1.r_span_of T ?_⟩
        refine ⟨_, rfl, ?_⟩
        refine ⟨A.spans, _, _, _, rfl, rfl, SqL.of B1.l_spans, span_at hf, ?_⟩
        refine ⟨_, rfl, B1.v_weight T h1 ?_⟩
        refine ⟨_, rfl, B1.r_crossing T ?_⟩
        refine ⟨b, A.cross, A, m, m.span (m.first m.side), (m.car i).weight, m.cross, rfl, B1, B1.l_cross, hcr, hcl, by rw [ok.lim]; exact span_lt hf, fun H2 s2 => ?_⟩
        refine ⟨_, rfl, ?_⟩
        have B2 := B1.same s2
        have st2 : Step (own b A) H (own b A) H2 := Step.same (s1.trans s2)
        by_cases g2 : m.bearsIt (m.span (m.first m.side)) (m.car i).weight m.cross = true
        · rw [if_pos g2] at k
          rw [g2]
          refine itF rfl ?_
          refine ⟨_, rfl, b, A.dx, _, rfl, B2.ob, zno (by decide +kernel), _, rfl, ?_⟩
          refine ⟨b, A, m, i, 1, rfl, B2, h1, by rw [h2]; exact hd, by rw [h2, e]; exact List.mem_cons_self .., by rw [h2]; exact ok.wnd _ hd, fun j hj => ?_, fun H3 B3 st3 => ?_⟩
          · rw [h2] at hj
            exact (ok.wt _ hd j hj).1
          have h1' : i < (m.take i 1).cars.length := by rw [fix_take.num]; exact h1
          refine ⟨_, rfl, _, rfl, A.at_ i, CV, _, _, rfl, B3.car h1', T.clV, T.v_cell, small6 _ _, ?_⟩
          rw [vput_cell]
          have B4 := B3.setC (v := { (m.take i 1).car i with cell := m.first m.side }) h1'
          refine ⟨_, rfl, B4.r_crossing T ?_⟩
          refine ⟨.inl ⟨rfl, _, SqL.of B4.l_cross⟩, _, rfl, ?_⟩
          have ec : ((m.take i 1).setCar i { (m.take i 1).car i with cell := m.first m.side }).cross = m.cross := (setWait_other).2.2.2.1
          have hsl := sizeLine_eq
          have lcx := B4.l_cross
          rw [ec] at lcx
          refine ⟨A.cross, _, _, rfl, rfl, lcx, by rw [refs_len]; omega, ?_⟩
          have eg : ((m.take i 1).setCar i { (m.take i 1).car i with cell := m.first m.side }).gone = m.gone := (setWait_other).2.2.2.2.2.1
          have B5 := B4.setL (m' := { ((m.take i 1).setCell i (m.first m.side)) with cross := m.cross ++ [i] }) 7 (a := A.cross) (o := .lst (A.refs m.cross)) (o' := .lst (A.refs m.cross ++ [V.ref (A.at_ i)])) (by rw [← ec]; rfl) rfl (by
            have : A.refs (m.cross ++ [i]) = A.refs m.cross ++ [V.ref (A.at_ i)] := by unfold Adr.refs; simp
            rw [← this]; rfl) rfl
          refine ⟨_, rfl, b, CB, _, _, _, rfl, B5.ob, T.clB, T.a_entered, zlook bK_nd (i := 8) rfl rfl, ?_⟩
          refine ⟨_, _, rfl, rfl, ?_⟩
          refine ⟨_, _, B5.ob, small13 _ _, ?_⟩
          have B6 := B5.setF (m' := m.enters i) 8 (f := "entered") (y := .int (((m.gone : Nat) : Int) + 1)) rfl rfl rfl rfl
          have eg2 : ({ ((m.take i 1).setCell i (m.first m.side)) with cross := m.cross ++ [i] } : M).gone = m.gone := eg
          rw [eg2]
          exact k _ B6 ((((st2.trans st3).trans (Step.at_ (B3.mem_car h1'))).trans (Step.at_ (B.mem_l 7 rfl))).trans (Step.at_ B.mem_b))
        · rw [Bool.not_eq_true] at g2
          rw [g2] at k ⊢
          refine itT rfl ?_
          exact k H2 B2 st2
      · rw [Bool.not_eq_true] at g1
        rw [g1] at k ⊢
        refine itT rfl ?_
        exact k H1 B1 (Step.same s1)
end
end OL


namespace OL
open PySem PySem.Spec PyProof.Rows L2
section
variable {P : Program} {w : World} {K : PySem.W.Frag} {mg : Str → Option Value} {base : Heap} {CV CB CT PN : Addr}
theorem gName_go {i : Nat} {v : V} {σ : L2.St} {H : Hp} {Q : L2.St → Hp → Prop} (h : Q (σ.set i (some v)) H) : gName i v σ H Q := h
theorem seq_go {t u : TS} {D : Ends} {σ : L2.St} {H : Hp} (h : t { D with nx := u D } σ H) : tSeq t u D σ H := h
theorem asg_go {te : TE} {g : TG} {D : Ends} {σ : L2.St} {H : Hp} (h : te σ H fun x H1 => g x σ H1 D.nx) : tAsg te g D σ H := h
theorem refs_range {H : Hp} {b : Addr} {A : Adr} {m : M} (B : Br CV CB H b A m) : (A.cars.map (·.1)).map V.ref = A.refs (List.range m.cars.length) := by
  unfold Adr.refs
  congr 1
  apply List.ext_getElem
  · simp [B.len]
  · intro i h1 h2
    simp at h1
    simp [Adr.at_, h1]
theorem refs_filter (A : Adr) (c : Nat → Bool) (l : List Nat) : (l.map fun i => if c i = true then some (V.ref (A.at_ i)) else none).filterMap id = A.refs (l.filter c) := by
  rw [fm_if]
  unfold Adr.refs
  rw [List.map_map]
  rfl
theorem refs_get {A : Adr} {l : List Nat} {i j : Nat} (h : l[i]? = some j) : (A.refs l)[i]? = some (.ref (A.at_ j)) := by
  unfold Adr.refs
  rw [List.getElem?_map, List.getElem?_map, h]
  rfl
theorem ok_Bridge_send_heavy_away {f : Addr} {fd : FuncData} (F : L2.Fun K "send_heavy_away" "Bridge.send_heavy_away" s_Bridge_send_heavy_away f fd) (T : Txt K mg CV CB CT PN) (c_take_from_waiting : Met P w K mg base 2 CB "take_from_waiting" (sp_take_from_waiting K CV CB)) (c_least_limit : Met P w K mg base 1 CB "least_limit" (sp_least_limit K CV CB)) : FnOk P w K mg base CX0 3 f fd ["self"] (sp_send_heavy_away K CV CB) := by
  refine F.ok sc_Bridge_send_heavy_away (fun vs H Q E h => ?_) (fun cdv Ar outer s H vs Q E hr h => ?_)
  · obtain ⟨b, A, m, rfl, _⟩ := h
    rfl
  · have hu := hu_of hr
    refine ⟨_, (pss_cons (ps_set (i := 1) sc_Bridge_send_heavy_away.nd rfl (Or.inr rfl) (pe_m0 c_least_limit hr (by decide) (pv 0)))
      (pss_cons (ps_setLc (i := 2) (own := [("vehicle", 3)]) (g := gName 3) (te := (tVar 3)) (tt := (tAnd (tTest (tOp rEq (tFld K (tVar 3) "place") (tC (.int 0)))) (tTest (tOp (rI0 fun i j => .bl (decide (j < i))) (tFld K (tVar 3) "weight") (tVar 1))))) (by rfl) sc_Bridge_send_heavy_away.nd rfl rfl (sw_true rfl rfl rfl (by decide +kernel)) (pi_list (pe_fld (pv 0) rfl)) (blkOk_by (own := [("vehicle", 3)]) (N := n_Bridge_send_heavy_away) (sc := defScope s_Bridge_send_heavy_away) (by decide +kernel)) (fun _ _ _ _ _ => pg_name (i := 3) sc_Bridge_send_heavy_away.nd rfl (Or.inl rfl)) (fun _ _ _ _ _ => by exact pts_one (PW.pt (pw_and (pt_cmpR op_eq (pe_fld (pv 3) rfl) (gl T.g_WAITS) (nomark _)) (pw_and1 (pt_cmpR op_gt (pe_fld (pv 3) rfl) (pv 1) (nomark _)))))) (fun _ _ _ _ _ => by exact (pv 3)))
      (pss_cons (ps_for PassesOwn.never rfl (pi_list (pv 2)) (pg_name (i := 3) sc_Bridge_send_heavy_away.nd rfl (Or.inl rfl))
        (pss_one (ps_expr (pe_m c_take_from_waiting hr (by decide) (pv 0) (pa_cons (pv 3) (pa_cons (gl T.g_SENT_AWAY) pa_nil))))))
      (pss_one (ps_ret (pv 2)))))), ?_⟩
    obtain ⟨b, A, m, rfl, B, ok, k⟩ := h
    refine ⟨_, rfl, b, A.dx, _, rfl, B.ob, zno (by decide +kernel), ?_⟩
    refine ⟨b, A, m, rfl, B, ok, ?_⟩
    refine gName_go ?_
    unfold tSeq tAsg
    dsimp only
    have hr0 := refs_range B
    refine lcR (a := A.came) (xs := A.refs (List.range m.cars.length)) ((List.range m.cars.length).map fun i => if (decide ((m.car i).place = 0) && decide (m.least < (m.car i).weight)) = true then some (V.ref (A.at_ i)) else none) (fun R r => ⟨_, rfl, B.r_came T r⟩) (by rw [← hr0]; exact SqL.of B.l_came) (by rw [List.length_map, refs_len]) (by rw [refs_len, List.length_range]; have := ok.num; omega) (fun i x z H' hxi hzi s Q1 Q0 h1 h0 => ?_) (fun D H' nD s hD => ?_)
    · obtain ⟨j, hj, rfl⟩ := refs_at hxi
      have ez := map_at hj hzi
      have hjn : j < m.cars.length := List.mem_range.mp (List.mem_of_getElem? hj)
      have B' := B.same s
      refine ⟨_, rfl, B'.v_place T hjn ?_⟩
      refine ⟨rfl, _, rfl, ?_⟩
      rw [show V.int 0 = nat 0 from rfl, dec_nat]
      by_cases c : (m.car j).place = 0
      · refine itT (decide_eq_true c) ?_
        rw [decide_eq_true c, Bool.true_and] at ez
        refine ⟨_, rfl, B'.v_weight T hjn ?_⟩
        refine ⟨_, rfl, _, _, rfl, rfl, _, rfl, ?_⟩
        rw [decide_lt]
        by_cases c2 : m.least < (m.car j).weight
        · refine itT (decide_eq_true c2) ?_
          rw [if_pos (decide_eq_true c2)] at ez
          exact ⟨_, rfl, h1 _ H' ez (Same.refl _)⟩
        · refine itF (decide_eq_false c2) ?_
          rw [if_neg (by simp [c2])] at ez
          exact h0 H' ez (Same.refl _)
      · refine itF (decide_eq_false c) ?_
        refine itF rfl ?_
        rw [if_neg (by simp [c])] at ez
        exact h0 H' ez (Same.refl _)
    · rw [refs_filter] at hD
      have eh : (List.range m.cars.length).filter (fun i => decide ((m.car i).place = 0) && decide (m.least < (m.car i).weight)) = m.heavy := rfl
      rw [eh] at hD
      have B' := B.same s
      have Down := B.away nD
      refine ⟨_, rfl, D, rfl, ⟨_, SqL.of hD⟩, ?_⟩
      refine for_list (xs := A.refs m.heavy) (fun i σ H2 => ∃ v3, σ = [some (.ref b), some (nat m.least), some (.ref D), v3] ∧ Br CV CB H2 b A (m.send (m.heavy.take i)) ∧ Step (own b A) H (own b A) H2 ∧ H2 D = some (.lst (A.refs m.heavy))) ⟨_, rfl, B', Step.same s, hD⟩ (fun i σ H2 _ h => ?_) ?_ ?_
      · obtain ⟨_, _, _, _, hD2⟩ := h
        exact SqL.of hD2
      · rintro i x σ H2 hx ⟨v3, rfl, B2, st, hD2⟩
        obtain ⟨j, hj, rfl⟩ := refs_at hx
        have hjm := heavy_mem.mp (List.mem_of_getElem? hj)
        have S := sends_all ok (l := m.heavy.take i) (r := m.heavy.drop i) (List.take_append_drop ..)
        have hnj : j ∉ m.heavy.take i := fun z => by
          obtain ⟨k', hk', ek⟩ := List.getElem_of_mem z
          rw [List.getElem_take] at ek
          rw [List.length_take] at hk'
          have := nd_ix (heavy_nd m) hj (show m.heavy[k']? = some j by rw [List.getElem?_eq_getElem (by omega), ek])
          omega
        have hs := ok.csd j hjm.1
        have e1 : ((m.send (m.heavy.take i)).car j).side = (m.car j).side := S.fix.sd j
        refine ⟨_, rfl, b, A.dx, _, rfl, B2.ob, zno (by decide +kernel), _, rfl, ?_⟩
        refine ⟨b, A, m.send (m.heavy.take i), j, 4, rfl, B2, by rw [S.fix.num]; exact hjm.1, by rw [e1]; exact hs, ?_, ?_, fun n hn => ?_, fun H3 B3 st3 => ?_⟩
        · rw [e1]
          exact S.stay _ hs j (ok.win j hjm.1 hjm.2.1) hnj
        · rw [e1]
          exact (S.sub _ hs).nodup (ok.wnd _ hs)
        · rw [e1] at hn
          rw [S.fix.num]
          exact (ok.wt _ hs n ((S.sub _ hs).subset hn)).1
        · refine ⟨_, rfl, ?_, st.trans st3, st3.keep _ _ hD2 Down⟩
          rw [take_one hj, send_snoc]
          exact B3
      · rintro σ H2 ⟨v3, rfl, B2, st, hD2⟩
        refine ⟨_, rfl, ?_⟩
        rw [refs_len, List.take_length] at B2
        exact k D H2 nD B2 st hD2
theorem own_cross {b : Addr} {A : Adr} {a q : Addr} (h : q ∈ own b { A with cross := a }) : q ∈ own b A ∨ q = a := by
  have e : own b { A with cross := a } = (own b A).set 8 a := rfl
  rw [e] at h
  exact List.mem_or_eq_of_mem_set h
theorem nodup_put {α : Type} : ∀ {l : List α} {k : Nat} {a : α}, l.Nodup → a ∉ l → (l.set k a).Nodup
  | [], _, _, h, _ => h
  | x :: r, 0, a, h, n => by
    obtain ⟨_, h2⟩ := List.nodup_cons.mp h
    exact List.nodup_cons.mpr ⟨fun z => n (List.mem_cons_of_mem _ z), h2⟩
  | x :: r, k + 1, a, h, n => by
    obtain ⟨h1, h2⟩ := List.nodup_cons.mp h
    refine List.nodup_cons.mpr ⟨fun z => ?_, nodup_put h2 fun z => n (List.mem_cons_of_mem _ z)⟩
    rcases List.mem_or_eq_of_mem_set z with z | z
    · exact h1 z
    · exact n (by rw [← z]; exact List.mem_cons_self ..)
/-- those on the bridge stand in another list from now on -/
theorem Br.setCross {H : Hp} {b : Addr} {A : Adr} {m : M} (B : Br CV CB H b A m) {a : Addr} {c : List Nat} (ha : H a = some (.lst (A.refs c))) (na : a ∉ own b A) :
    Br CV CB (upd H b (.ins CB A.dx (putF "crossing" (.ref a) (bF A m)))) b { A with cross := a } { m with cross := c } := by
  have ef : putF "crossing" (.ref a) (bF A m) = bF { A with cross := a } { m with cross := c } := (zput bK_nd (i := 6) rfl rfl).trans rfl
  rw [ef]
  refine ⟨B.len, ?_, fun p hp => ?_⟩
  · exact nodup_put (k := 8) B.nd na
  · have e : objs CV CB b { A with cross := a } { m with cross := c } = ((objs CV CB b A m).set 0 (b, .ins CB A.dx (bF { A with cross := a } { m with cross := c }))).set 8 (a, .lst (A.refs c)) := rfl
    rw [e] at hp
    rcases List.mem_or_eq_of_mem_set hp with h | h
    · exact lays_set (by rw [objs_fst B.len]; exact B.nd) B.at_ (k := 0) (o := .ins CB A.dx (bF A m)) rfl p h
    · subst h
      have ne : a ≠ b := fun z => na (by rw [z]; exact B.mem_b)
      show upd _ _ _ a = _
      rw [upd_ne ne]
      exact ha
theorem ok_Bridge_move_all {f : Addr} {fd : FuncData} (F : L2.Fun K "move_all" "Bridge.move_all" s_Bridge_move_all f fd) (T : Txt K mg CV CB CT PN) (c_can_move : Met P w K mg base 2 CB "can_move" (sp_can_move K CV CB)) (c_last_cell : Met P w K mg base 2 CB "last_cell" (sp_last_cell K CV CB)) (c_next_cell : Met P w K mg base 1 CB "next_cell" (sp_next_cell K CV CB)) (c_put : Met P w K mg base 1 CB "put" (sp_put K CV CB)) : FnOk P w K mg base CX0 3 f fd ["self"] (sp_move_all K CV CB) := by
  refine F.ok sc_Bridge_move_all (fun vs H Q E h => ?_) (fun cdv Ar outer s H vs Q E hr h => ?_)
  · obtain ⟨b, A, m, rfl, _⟩ := h
    rfl
  · have hu := hu_of hr
    refine ⟨_, (pss_cons (ps_set (i := 1) sc_Bridge_move_all.nd rfl (Or.inl rfl) (pe_lst pa_nil))
      (pss_cons (ps_set (i := 2) sc_Bridge_move_all.nd rfl (Or.inl rfl) (pe_lst pa_nil))
      (pss_cons (ps_for PassesOwn.never rfl (pi_list (pe_fld (pv 0) rfl)) (pg_name (i := 3) sc_Bridge_move_all.nd rfl (Or.inl rfl))
        (pss_cons (ps_if (pt_cmpR op_eq (pe_fld (pv 3) rfl) (pe_m c_last_cell hr (by decide) (pv 0) (pa_cons (pe_fld (pv 3) rfl) pa_nil)) (nomark _)) (pss_cons (ps_expr (pe_m c_put hr (by decide) (pv 0) (pa_cons (pv 3) (pa_cons (gl T.g_HAS_LEFT) pa_nil))))
      (pss_cons (ps_expr (pe_bm PySem.F.plainAttrs_list PySem.F.slot_list_append PySem.F.type_list_append mt_append (pv 1) (pa_cons (pe_fld (pv 3) rfl) pa_nil)))
      (pss_one ps_continue))) pss_nil)
      (pss_cons (ps_set (i := 4) sc_Bridge_move_all.nd rfl (Or.inl rfl) (pe_m c_next_cell hr (by decide) (pv 0) (pa_cons (pv 3) pa_nil)))
      (pss_cons (ps_if (pt_val (pe_m c_can_move hr (by decide) (pv 0) (pa_cons (pv 3) (pa_cons (pv 4) (pa_cons (pv 2) pa_nil))))) (pss_one (ps_fld (pv 3) (pv 4) rfl)) pss_nil)
      (pss_one (ps_expr (pe_bm PySem.F.plainAttrs_list PySem.F.slot_list_append PySem.F.type_list_append mt_append (pv 2) (pa_cons (pv 3) pa_nil))))))))
      (pss_cons (ps_fld (pv 0) (pv 2) rfl)
      (pss_one (ps_ret (pv 1))))))), ?_⟩
    obtain ⟨b, A, m, rfl, B, ok, k⟩ := h
    have hsl := sizeLine_eq
    have hN := N_pos ok
    have hcl : m.cross.length ≤ 60 := by have := ok.len; have := ok.num; omega
    refine ⟨Nat.zero_le _, fun g ng => ?_⟩
    refine ⟨Nat.zero_le _, fun a na => ?_⟩
    have s1 : Same H (upd (upd H g (.lst [])) a (.lst [])) := (same_new ng).trans (same_new na)
    have nga : g ≠ a := ne_of_none upd_same na
    have naH : H a = none := (same_new ng).free na
    have gown := B.away ng
    have aown := B.away naH
    refine ⟨_, rfl, (B.same s1).r_crossing T ?_⟩
    refine ⟨A.cross, rfl, ⟨_, SqL.of (B.same s1).l_cross⟩, ?_⟩
    refine for_list (xs := A.refs m.cross) (fun i σ H' => ∃ v3 v4, σ = [some (.ref b), some (.ref g), some (.ref a), v3, v4] ∧ Br CV CB H' b A (m.moves (m.cross.take i)).1 ∧ Step (own b A) H (own b A) H' ∧
        H' g = some (.lst (nums (m.moves (m.cross.take i)).2.1)) ∧ H' a = some (.lst (A.refs (m.moves (m.cross.take i)).2.2))) ⟨_, _, rfl, B.same s1, Step.same s1, by rw [upd_ne nga, upd_same]; rfl, by rw [upd_same]; rfl⟩ (fun i σ H' _ h => ?_) ?_ ?_
    · obtain ⟨_, _, _, B', _⟩ := h
      have M' := moved_all ok (l := m.cross.take i) (r := m.cross.drop i) (List.take_append_drop ..)
      have e0 := same_fields M'.same
      have := B'.l_cross
      rw [show (m.moves (m.cross.take i)).1.cross = m.cross by rw [e0]] at this
      exact SqL.of this
    · rintro i x σ H' hx ⟨v3, v4, rfl, B', st, hg, ha⟩
      obtain ⟨j, hj, rfl⟩ := refs_at hx
      have hjc := List.mem_of_getElem? hj
      obtain ⟨c1, c2, c3⟩ := ok.cr j hjc
      have hs := ok.csd j c1
      have M' := moved_all ok (l := m.cross.take i) (r := m.cross.drop i) (List.take_append_drop ..)
      have hnj : j ∉ m.cross.take i := fun z => by
        obtain ⟨k', hk', ek⟩ := List.getElem_of_mem z
        rw [List.getElem_take] at ek
        rw [List.length_take] at hk'
        have := nd_ix ok.cnd hj (show m.cross[k']? = some j by rw [List.getElem?_eq_getElem (by omega), ek])
        omega
      have ej := M'.out j hnj
      rw [take_one hj, moves_snoc]
      have hglen := M'.gsub.length_le
      have halen := M'.sub.length_le
      rw [List.length_take] at hglen halen
      have hst := M'.st
      have hsub := M'.sub
      generalize m.moves (m.cross.take i) = S at B' hg ha M' ej hglen halen hst hsub ⊢
      obtain ⟨mi, gi, ai⟩ := S
      have hgl : gi.length ≤ min i m.cross.length := hglen
      have hal : ai.length ≤ min i m.cross.length := halen
      have hn : j < mi.cars.length := by rw [M'.fix.num]; exact c1
      have hNi : 0 < mi.N := by rw [M'.fix.N]; exact hN
      have hsd : (mi.car j).side ≤ 1 := by rw [M'.fix.sd]; exact hs
      refine ⟨_, rfl, B'.v_cell T hn ?_⟩
      refine ⟨_, rfl, b, A.dx, _, rfl, B'.ob, zno (by decide +kernel), _, rfl, B'.v_side T hn ?_⟩
      refine ⟨b, A, mi, (mi.car j).side, rfl, B', hNi, hsd, ?_⟩
      refine ⟨rfl, _, rfl, ?_⟩
      rw [dec_nat]
      unfold M.move1
      by_cases c : (mi.car j).cell = mi.last (mi.car j).side
      · refine itT (decide_eq_true c) ?_
        rw [if_pos c]
        refine ⟨_, rfl, b, A.dx, _, rfl, B'.ob, zno (by decide +kernel), _, rfl, ?_⟩
        refine ⟨b, A, mi, j, 2, rfl, B', hn, fun H2 B2 st2 => ?_⟩
        have hg2 := st2.keep _ _ hg gown
        have ha2 := st2.keep _ _ ha aown
        have hn2 : j < (mi.put j 2).cars.length := by unfold M.put M.setCar; simp; exact hn
        refine ⟨_, rfl, .inl ⟨rfl, _, SqL.of hg2⟩, _, rfl, B2.v_number T hn2 ?_⟩
        refine ⟨g, _, _, rfl, rfl, hg2, by rw [nums_len]; omega, ?_⟩
        refine ⟨_, _, rfl, B2.apart (Step.at_ (F := [g]) (List.mem_cons_self ..)) (fun q hq z => ?_), ?_, ?_, ?_⟩
        · simp at z
          exact gown (z ▸ hq)
        · refine ⟨fun q o e n => ?_, fun q hq => .inl hq⟩
          have ne : q ≠ g := ne_of_none e ng
          rw [upd_ne ne]
          exact (st.trans st2).keep _ _ e n
        · rw [upd_same]
          show _ = some (HO.lst (nums (gi ++ [j])))
          rw [nums_app]
          rfl
        · rw [upd_ne nga.symm]
          exact ha2
      · refine itF (decide_eq_false c) ?_
        rw [if_neg c]
        have hcell : (mi.car j).cell < mi.N := by rw [ej, M'.fix.N]; exact c3
        have nx := next_lt hcell hsd c
        refine ⟨_, rfl, b, A.dx, _, rfl, B'.ob, zno (by decide +kernel), _, rfl, ?_⟩
        refine ⟨b, A, mi, j, rfl, B', hn, fun hne => ?_, ?_⟩
        · have e1 : (mi.car j).side = 1 := by omega
          unfold M.last M.first at c
          rw [e1] at c
          simp at c
          omega
        have hai : ∀ i ∈ ai, i < mi.cars.length ∧ (mi.car i).cell < mi.N := fun n hna => by
          have z := hsub.subset hna
          have zc : n ∈ m.cross := List.mem_of_mem_take z
          rw [M'.fix.num, M'.fix.N]
          refine ⟨(ok.cr n zc).1, ?_⟩
          rcases hst n z with ⟨_, _, _, q⟩ | ⟨q, _⟩
          · exact q
          · exact absurd hna q
        refine ⟨_, rfl, b, A.dx, _, rfl, B'.ob, zno (by decide +kernel), _, rfl, _, rfl, _, rfl, ?_⟩
        refine ⟨b, a, A, mi, j, mi.next j, ai, rfl, B', ha, hai, by omega, by rw [M'.fix.limits, M'.fix.cells]; exact ok.lim, hn, hcell, nx, fun H2 s2 => ?_⟩
        have B2 := B'.same s2
        have ha2 := s2 _ _ ha
        have hg2 := s2 _ _ hg
        have st2 := st.trans (Step.same s2)
        refine ⟨_, rfl, ?_⟩
        have fin : ∀ (m1 : M) (H3 : Hp), Br CV CB H3 b A m1 → Step (own b A) H (own b A) H3 → H3 g = some (.lst (nums gi)) → H3 a = some (.lst (A.refs ai)) →
            (Br CV CB (upd H3 a (.lst (A.refs ai ++ [V.ref (A.at_ j)]))) b A m1 ∧ Step (own b A) H (own b A) (upd H3 a (.lst (A.refs ai ++ [V.ref (A.at_ j)]))) ∧ (upd H3 a (.lst (A.refs ai ++ [V.ref (A.at_ j)]))) g = some (.lst (nums gi)) ∧
              (upd H3 a (.lst (A.refs ai ++ [V.ref (A.at_ j)]))) a = some (.lst (A.refs (ai ++ [j])))) := fun m1 H3 B3 st3 hg3 ha3 => by
          refine ⟨B3.apart (Step.at_ (F := [a]) (List.mem_cons_self ..)) (fun q hq z => ?_), ?_, ?_, ?_⟩
          · simp at z
            exact aown (z ▸ hq)
          · refine ⟨fun q o e n => ?_, fun q hq => .inl hq⟩
            have ne : q ≠ a := ne_of_none e naH
            rw [upd_ne ne]
            exact st3.keep _ _ e n
          · rw [upd_ne nga]; exact hg3
          · rw [upd_same]
            unfold Adr.refs
            simp
        by_cases cm : mi.canMove j (mi.next j) ai = true
        · rw [cm]
          refine itT rfl ?_
          rw [if_pos rfl]
          refine ⟨_, rfl, _, rfl, A.at_ j, CV, _, _, rfl, B2.car hn, T.clV, T.v_cell, small6 _ _, ?_⟩
          rw [vput_cell]
          have B3 := B2.setC (v := { mi.car j with cell := mi.next j }) hn
          have nja : A.at_ j ≠ a := fun e => aown (by rw [← e]; exact B.mem_car c1)
          have njg : A.at_ j ≠ g := fun e => gown (by rw [← e]; exact B.mem_car c1)
          have ha3 : upd H2 (A.at_ j) (.ins CV (A.dxAt j) (vF j { mi.car j with cell := mi.next j })) a = some (.lst (A.refs ai)) := by rw [upd_ne nja.symm]; exact ha2
          have hg3 : upd H2 (A.at_ j) (.ins CV (A.dxAt j) (vF j { mi.car j with cell := mi.next j })) g = some (.lst (nums gi)) := by rw [upd_ne njg.symm]; exact hg2
          refine ⟨_, rfl, .inl ⟨rfl, _, SqL.of ha3⟩, _, rfl, ?_⟩
          refine ⟨a, _, _, rfl, rfl, ha3, by rw [refs_len]; omega, ?_⟩
          obtain ⟨f1, f2, f3, f4⟩ := fin _ _ B3 (st2.trans (Step.at_ (B.mem_car c1))) hg3 ha3
          exact ⟨_, _, rfl, f1, f2, f3, f4⟩
        · rw [Bool.not_eq_true] at cm
          rw [cm]
          refine itF rfl ?_
          rw [if_neg Bool.false_ne_true]
          refine ⟨_, rfl, .inl ⟨rfl, _, SqL.of ha2⟩, _, rfl, ?_⟩
          refine ⟨a, _, _, rfl, rfl, ha2, by rw [refs_len]; omega, ?_⟩
          obtain ⟨f1, f2, f3, f4⟩ := fin _ _ B2 st2 hg2 ha2
          exact ⟨_, _, rfl, f1, f2, f3, f4⟩
    · rintro σ H' ⟨v3, v4, rfl, B', st, hg, ha⟩
      rw [refs_len, List.take_length] at B' hg ha
      refine ⟨_, rfl, _, rfl, b, CB, _, _, rfl, B'.ob, T.clB, T.a_crossing, small13 _ _, ?_⟩
      refine ⟨_, rfl, ?_⟩
      have st1 : Step (own b A) H (own b A) (upd H' b (.ins CB A.dx (putF "crossing" (.ref a) (bF A (m.moves m.cross).1)))) := st.trans (Step.at_ B'.mem_b)
      have nbg : g ≠ b := fun z => gown (by rw [z]; exact B.mem_b)
      refine k g { A with cross := a } _ ng rfl (B'.setCross ha aown) ⟨st1.keep, fun q hq => ?_⟩ (fun hq => ?_) ?_
      · rcases own_cross hq with z | z
        · exact .inl z
        · exact .inr (by rw [z]; exact naH)
      · rcases own_cross hq with z | z
        · exact gown z
        · exact nga z
      · rw [upd_ne nbg]
        exact hg
end
end OL


namespace OL
open PySem PySem.Spec PyProof.Rows L2
def sp_add_vehicle (K : PySem.W.Frag) (CV CB : Addr) : Sp := fun vs H Q _ => ∃ (b : Addr) (A : Adr) (m : M) (d wt : Nat), vs = [.ref b, nat d, nat wt] ∧ Br CV CB H b A m ∧ OK m ∧ d ≤ 1 ∧ m.cars.length < 60 ∧
  ∀ A' H', Br CV CB H' b A' (m.add d wt) → Step (own b A) H (own b A') H' → Q (nat m.cars.length) H'
def sp_renew (K : PySem.W.Frag) (CV CB : Addr) : Sp := fun vs H Q _ => ∃ (b dx lc ll : Addr) (fs : List (Str × V)) (t : Nat) (cs ls : List Nat), vs = [.ref b, nat t, .ref lc, .ref ll] ∧ H b = some (.ins CB dx fs) ∧ (fs = [] ∨ ∃ A m, fs = bF A m) ∧
  H lc = some (.lst (nums cs)) ∧ H ll = some (.lst (nums ls)) ∧ cs.length ≤ 12 ∧ (∀ c ∈ cs, c ≤ 5) ∧ ∀ A' H', A'.dx = dx → Br CV CB H' b A' (M.fresh t cs ls) → Step [b] H (own b A') H' → Q .non H'
def sp_Bridge (K : PySem.W.Frag) (CV CB : Addr) : Sp := fun vs H Q _ => ∃ (b dx : Addr), vs = [.ref b] ∧ H b = some (.ins CB dx []) ∧
  ∀ A' H', Br CV CB H' b A' (M.fresh 1 [1] [1]) → Step [b] H (own b A') H' → Q .non H'
section
variable {P : Program} {w : World} {K : PySem.W.Frag} {mg : Str → Option Value} {base : Heap} {CV CB CT PN : Addr}
theorem ok_Bridge_tick {f : Addr} {fd : FuncData} (F : L2.Fun K "tick" "Bridge.tick" s_Bridge_tick f fd) (T : Txt K mg CV CB CT PN) (c_change_sides : Met P w K mg base 1 CB "change_sides" (sp_change_sides K CV CB)) (c_keep_most : Met P w K mg base 2 CB "keep_most" (sp_keep_most K CV CB)) (c_let_enter : Met P w K mg base 3 CB "let_enter" (sp_let_enter K CV CB)) (c_move_all : Met P w K mg base 3 CB "move_all" (sp_move_all K CV CB)) (c_turn_is_over : Met P w K mg base 1 CB "turn_is_over" (sp_turn_is_over K CV CB)) : FnOk P w K mg base CX0 4 f fd ["self"] (sp_tick K CV CB) := by
  refine F.ok sc_Bridge_tick (fun vs H Q E h => ?_) (fun cdv Ar outer s H vs Q E hr h => ?_)
  · obtain ⟨b, A, m, rfl, _⟩ := h
    rfl
  · have hu := hu_of hr
    refine ⟨_, (pss_cons (ps_fldaug (pv 0) pe_int in_add)
      (pss_cons (ps_set (i := 1) sc_Bridge_tick.nd rfl (Or.inl rfl) (pe_m0 c_move_all hr (by decide) (pv 0)))
      (pss_cons (ps_if (PW.pt (pw_and (pt_not (pt_truth (pe_fld (pv 0) rfl) (by intro _; rfl))) (pw_and1 (pt_val (pe_m0 c_turn_is_over hr (by decide) (pv 0)))))) (pss_one (ps_expr (pe_m0 c_change_sides hr (by decide) (pv 0)))) pss_nil)
      (pss_cons (ps_if (PW.pt (pw_and (pt_not (pt_val (pe_fld (pv 0) rfl))) (pw_and1 (pt_not (pt_val (pe_m0 c_turn_is_over hr (by decide) (pv 0))))))) (pss_one (ps_expr (pe_m0 c_let_enter hr (by decide) (pv 0)))) pss_nil)
      (pss_cons (ps_expr (pe_m0 c_keep_most hr (by decide) (pv 0)))
      (pss_one (ps_ret (pv 1)))))))), ?_⟩
    obtain ⟨b, A, m, rfl, B, ok, k⟩ := h
    refine ⟨_, rfl, b, CB, _, _, _, rfl, B.ob, T.clB, T.a_time, zlook bK_nd (i := 10) rfl rfl, ?_⟩
    refine ⟨_, _, rfl, rfl, ?_⟩
    refine ⟨_, _, B.ob, small13 _ _, ?_⟩
    have B1 := B.setF (m' := m.up) 10 (f := "time") (y := .int (((m.time : Nat) : Int) + 1)) rfl rfl rfl rfl
    have st1 : Step (own b A) H (own b A) (upd H b (.ins CB A.dx (putF "time" (.int (((m.time : Nat) : Int) + 1)) (bF A m)))) := Step.at_ B.mem_b
    refine ⟨_, rfl, b, A.dx, _, rfl, B1.ob, zno (by decide +kernel), ?_⟩
    refine ⟨b, A, m.up, rfl, B1, ok.up, fun p A2 H2 np ec B2 st2 pn hp => ?_⟩
    have npH : H p = none := by
      by_cases e : p = b
      · exact absurd B1.mem_b (fun z => (B1.away np) (by rw [e]; exact z))
      · rw [upd_ne e] at np; exact np
    have st := st1.trans st2
    have ok2 := ok.up.moveAll
    have rest : ∀ (m3 : M) (H3 : Hp), m3 = m.up.moveAll.turned → Br CV CB H3 b A2 m3 → Step (own b A) H (own b A2) H3 → H3 p = some (.lst (nums m.left)) →
        tSeq (tIfS (tAnd (tNot (tB (tFld K (tVar 0) "is_shut"))) (tNot (tB (tMeth CB "turn_is_over" (sp_turn_is_over K CV CB) [] E0 (tVar 0) tNil)))) (tDrop (tMeth CB "let_enter" (sp_let_enter K CV CB) [] E0 (tVar 0) tNil)) tNext)
          (tSeq (tDrop (tMeth CB "keep_most" (sp_keep_most K CV CB) [] E0 (tVar 0) tNil)) (tRet (tVar 1))) { nx := fun _ H' => Q .non H', rt := Q } [some (.ref b), some (.ref p)] H3 := fun m3 H3 em B3 st3 hp3 => by
      have ok3 : OK m3 := by rw [em]; exact ok2.turned
      have last : ∀ (H4 : Hp), Br CV CB H4 b A2 m3.entered → Step (own b A) H (own b A2) H4 → H4 p = some (.lst (nums m.left)) →
          tSeq (tDrop (tMeth CB "keep_most" (sp_keep_most K CV CB) [] E0 (tVar 0) tNil)) (tRet (tVar 1)) { nx := fun _ H' => Q .non H', rt := Q } [some (.ref b), some (.ref p)] H4 := fun H4 B4 st4 hp4 => by
        have ok4 := ok3.entered
        refine ⟨_, rfl, b, A2.dx, _, rfl, B4.ob, zno (by decide +kernel), ?_⟩
        refine ⟨b, A2, m3.entered, rfl, B4, fun i hi => ⟨(ok4.cr i hi).1, (ok4.cr i hi).2.2⟩, ok4.few, ok4.mo, ok4.ma, fun H5 B5 st5 => ?_⟩
        refine ⟨_, rfl, ?_⟩
        refine k p A2 H5 npH ec ?_ (st4.trans st5) pn (st5.keep _ _ hp4 pn)
        show Br CV CB H5 b A2 (m.up.moveAll.turned.entered).keepMost
        rw [← em]
        exact B5
      refine ⟨_, rfl, B3.r_is_shut T ?_⟩
      refine ⟨_, rfl, ?_⟩
      have ee : m3.entered = if (!m3.shut && !m3.over) = true then m3.letEnter else m3 := rfl
      cases eS : m3.shut with
      | true =>
        rw [eS] at ee
        have e1 : m3.entered = m3 := ee
        refine itF rfl ?_
        refine itF rfl ?_
        exact last H3 (by rw [e1]; exact B3) st3 hp3
      | false =>
        rw [eS] at ee
        refine itT rfl ?_
        refine ⟨_, rfl, b, A2.dx, _, rfl, B3.ob, zno (by decide +kernel), ?_⟩
        refine ⟨b, A2, m3, rfl, B3, ok3.sd, ?_⟩
        refine ⟨_, rfl, ?_⟩
        cases eO : m3.over with
        | true =>
          rw [eO] at ee
          have e1 : m3.entered = m3 := ee
          refine itF rfl ?_
          exact last H3 (by rw [e1]; exact B3) st3 hp3
        | false =>
          rw [eO] at ee
          have e1 : m3.entered = m3.letEnter := ee
          refine itT rfl ?_
          refine ⟨_, rfl, b, A2.dx, _, rfl, B3.ob, zno (by decide +kernel), ?_⟩
          refine ⟨b, A2, m3, rfl, B3, ok3, fun H4 B4 st4 => ?_⟩
          exact last H4 (by rw [e1]; exact B4) (st3.trans st4) (st4.keep _ _ hp3 pn)
    refine ⟨_, rfl, B2.r_crossing T ?_⟩
    refine ⟨_, tru_refs B2.l_cross, ?_⟩
    have et : m.up.moveAll.turned = if (m.up.moveAll.cross.isEmpty && m.up.moveAll.over) = true then m.up.moveAll.change else m.up.moveAll := rfl
    cases eC : m.up.moveAll.cross.isEmpty with
    | false =>
      rw [eC] at et
      have e1 : m.up.moveAll.turned = m.up.moveAll := et
      refine itF rfl ?_
      refine itF rfl ?_
      exact rest _ H2 e1.symm B2 st hp
    | true =>
      rw [eC] at et
      refine itT rfl ?_
      refine ⟨_, rfl, b, A2.dx, _, rfl, B2.ob, zno (by decide +kernel), ?_⟩
      refine ⟨b, A2, m.up.moveAll, rfl, B2, ok2.sd, ?_⟩
      refine ⟨_, rfl, ?_⟩
      cases eO : m.up.moveAll.over with
      | false =>
        rw [eO] at et
        have e1 : m.up.moveAll.turned = m.up.moveAll := et
        refine itF rfl ?_
        exact rest _ H2 e1.symm B2 st hp
      | true =>
        rw [eO] at et
        have e1 : m.up.moveAll.turned = m.up.moveAll.change := et
        refine itT rfl ?_
        refine ⟨_, rfl, b, A2.dx, _, rfl, B2.ob, zno (by decide +kernel), ?_⟩
        refine ⟨b, A2, m.up.moveAll, rfl, B2, ok2.sd, fun H3 B3 st3 => ?_⟩
        exact rest _ H3 e1.symm B3 (st.trans st3) (st3.keep _ _ hp pn)
theorem refs_more {A : Adr} {x dx : Addr} {l : List Nat} (h : ∀ i ∈ l, i < A.cars.length) : ({ A with cars := A.cars ++ [(x, dx)] } : Adr).refs l = A.refs l := by
  unfold Adr.refs
  congr 1
  apply List.map_congr_left
  intro i hi
  have := h i hi
  show ((A.cars ++ [(x, dx)]).getD i (0, 0)).1 = (A.cars.getD i (0, 0)).1
  rw [List.getD_eq_getElem?_getD, List.getElem?_append_left this, List.getD_eq_getElem?_getD]
theorem refs_new {A : Adr} {x dx : Addr} : ({ A with cars := A.cars ++ [(x, dx)] } : Adr).at_ A.cars.length = x := by
  show ((A.cars ++ [(x, dx)]).getD A.cars.length (0, 0)).1 = x
  rw [List.getD_eq_getElem?_getD, List.getElem?_append_right (Nat.le_refl _), Nat.sub_self]
  rfl
theorem Br.neq {H : Hp} {b : Addr} {A : Adr} {m : M} (B : Br CV CB H b A m) {i j : Nat} {x y : Addr} (hi : (own b A)[i]? = some x) (hj : (own b A)[j]? = some y) (h : i ≠ j) : x ≠ y := fun e => h (nd_ix B.nd hi (by rw [e]; exact hj))
theorem refs_snoc (A : Adr) (l : List Nat) (i : Nat) : A.refs (l ++ [i]) = A.refs l ++ [.ref (A.at_ i)] := by
  unfold Adr.refs
  simp
theorem listsOf_add {A : Adr} {m : M} {d wt : Nat} {x dx : Addr} (hl : A.cars.length = m.cars.length) (ok : OK m) (hd : d ≤ 1) :
    listsOf { A with cars := A.cars ++ [(x, dx)] } (m.add d wt) =
      ((listsOf A m).set 3 (A.came, .lst ((A.cars.map (·.1)).map V.ref ++ [.ref x]))).set (4 + d) (if d = 0 then A.w0 else A.w1, .lst (A.refs (m.wait d) ++ [.ref x])) := by
  have hw : ∀ d, d ≤ 1 → ({ A with cars := A.cars ++ [(x, dx)] } : Adr).refs (m.wait d) = A.refs (m.wait d) := fun d hd => refs_more fun i hi => by rw [hl]; exact (ok.wt d hd i hi).1
  have h0 : ({ A with cars := A.cars ++ [(x, dx)] } : Adr).refs m.w0 = A.refs m.w0 := hw 0 (by omega)
  have h1 : ({ A with cars := A.cars ++ [(x, dx)] } : Adr).refs m.w1 = A.refs m.w1 := hw 1 (by omega)
  have hc : ({ A with cars := A.cars ++ [(x, dx)] } : Adr).refs m.cross = A.refs m.cross := refs_more fun i hi => by rw [hl]; exact (ok.cr i hi).1
  have hn : ({ A with cars := A.cars ++ [(x, dx)] } : Adr).at_ m.cars.length = x := by rw [← hl]; exact refs_new
  have came : (A.cars ++ [(x, dx)]).map (·.1) = A.cars.map (·.1) ++ [x] := by simp
  unfold listsOf M.add M.setWait M.wait
  rcases (by omega : d = 0 ∨ d = 1) with rfl | rfl
  · simp only [if_true]
    show [_, _, _, _, _, _, _, _, _, _] = [_, _, _, _, _, _, _, _, _, _]
    rw [refs_snoc, h0, h1, hc, hn, came, List.map_append]
    rfl
  · simp only [show ¬ (1 : Nat) = 0 by omega, if_false]
    show [_, _, _, _, _, _, _, _, _, _] = [_, _, _, _, _, _, _, _, _, _]
    rw [refs_snoc, h0, h1, hc, hn, came, List.map_append]
    rfl
theorem add_cars (m : M) (d wt : Nat) : (m.add d wt).cars = m.cars ++ [⟨d, wt, 0, 0, 0⟩] := rfl
theorem bV_add {A : Adr} {m : M} {d wt : Nat} : bV A (m.add d wt) = bV A m := by
  unfold M.add M.setWait
  split <;> rfl
theorem ok_Bridge_add_vehicle {f : Addr} {fd : FuncData} (F : L2.Fun K "add_vehicle" "Bridge.add_vehicle" s_Bridge_add_vehicle f fd) (T : Txt K mg CV CB CT PN) (c_Vehicle : Mak P w K mg base 1 "Vehicle" CV (sp_Vehicle K CV CB)) : FnOk P w K mg base CX0 3 f fd ["self", "side", "weight"] (sp_add_vehicle K CV CB) := by
  refine F.ok sc_Bridge_add_vehicle (fun vs H Q E h => ?_) (fun cdv Ar outer s H vs Q E hr h => ?_)
  · obtain ⟨b, A, m, d, wt, rfl, _⟩ := h
    rfl
  · have hu := hu_of hr
    refine ⟨_, (pss_cons (ps_set (i := 3) sc_Bridge_add_vehicle.nd rfl (Or.inl rfl) (pe_k c_Vehicle hr (by decide) (pa_cons (pe_callB call_len_seq (by rfl) T.b_len (by decide +kernel) (pa_cons (pe_fld (pv 0) rfl) pa_nil)) (pa_cons (pv 1) (pa_cons (pv 2) pa_nil)))))
      (pss_cons (ps_expr (pe_bm PySem.F.plainAttrs_list PySem.F.slot_list_append PySem.F.type_list_append mt_append (pe_fld (pv 0) rfl) (pa_cons (pv 3) pa_nil)))
      (pss_cons (ps_expr (pe_bm PySem.F.plainAttrs_list PySem.F.slot_list_append PySem.F.type_list_append mt_append (pe_ix ix_tup (pe_fld (pv 0) rfl) (pv 1) (fun _ _ => rfl)) (pa_cons (pv 3) pa_nil)))
      (pss_one (ps_ret (pe_fld (pv 3) rfl)))))), ?_⟩
    obtain ⟨b, A, m, d, wt, rfl, B, ok, hd, hn, k⟩ := h
    have hsl := sizeLine_eq
    refine ⟨_, rfl, B.r_came T ?_⟩
    refine ⟨A.came, _, rfl, .inl (SqL.of B.l_came), _, rfl, _, rfl, ?_⟩
    intro x dx nx nd ne
    refine ⟨x, dx, m.cars.length, d, wt, (by rw [List.length_map, List.length_map, B.len]; rfl), upd_same, ⟨rfl, ?_⟩⟩
    rw [upd_upd]
    have s1 : Same H (upd (upd H dx (.own x)) x (.ins CV dx (vF m.cars.length ⟨d, wt, 0, 0, 0⟩))) := fun q o e => by
      rw [upd_ne (ne_of_none e nx), upd_ne (ne_of_none e nd)]
      exact e
    have B1 := B.same s1
    have xown := B.away nx
    have hx1 : (upd (upd H dx (.own x)) x (.ins CV dx (vF m.cars.length ⟨d, wt, 0, 0, 0⟩))) x = some (.ins CV dx (vF m.cars.length ⟨d, wt, 0, 0, 0⟩)) := upd_same
    generalize upd (upd H dx (.own x)) x (.ins CV dx (vF m.cars.length ⟨d, wt, 0, 0, 0⟩)) = H1 at s1 B1 hx1 ⊢
    -- self.came.append(vehicle)
    refine ⟨_, rfl, B1.r_came T ?_⟩
    refine ⟨.inl ⟨rfl, _, SqL.of B1.l_came⟩, _, rfl, ?_⟩
    refine ⟨A.came, _, _, rfl, rfl, B1.l_came, by rw [List.length_map, List.length_map, B.len]; omega, ?_⟩
    have n1 : b ≠ A.came := B1.neq (i := 0) (j := 4) rfl rfl (by omega)
    have n2 : A.wait ≠ A.came := B1.neq (i := 7) (j := 4) rfl rfl (by omega)
    have n3 : (if d = 0 then A.w0 else A.w1) ≠ A.came := by
      by_cases c : d = 0
      · rw [if_pos c]; exact B1.neq (i := 5) (j := 4) rfl rfl (by omega)
      · rw [if_neg c]; exact B1.neq (i := 6) (j := 4) rfl rfl (by omega)
    have n4 : x ≠ A.came := fun e => xown (by rw [e]; exact B.mem_l 3 rfl)
    have n5 : x ≠ (if d = 0 then A.w0 else A.w1) := fun e => xown (by rw [e]; exact B.mem_w d)
    have L2 := lays_set (by rw [objs_fst B1.len]; exact B1.nd) B1.at_ (k := 4) (a := A.came) (o := .lst ((A.cars.map (·.1)).map V.ref)) (o' := .lst ((A.cars.map (·.1)).map V.ref ++ [.ref x])) rfl
    have hb2 : upd H1 A.came (.lst ((A.cars.map (·.1)).map V.ref ++ [.ref x])) b = some (.ins CB A.dx (bF A m)) := by rw [upd_ne n1]; exact B1.ob
    refine ⟨_, rfl, b, CB, A.dx, _, _, rfl, hb2, T.clB, T.a_waiting, zlook bK_nd (i := 5) rfl rfl, ?_⟩
    refine ⟨_, rfl, ?_⟩
    refine ⟨A.wait, _, _, _, rfl, rfl, SqT.of (by rw [upd_ne n2]; exact B1.l_wait), atW hd, ?_⟩
    have hw2 : upd H1 A.came (.lst ((A.cars.map (·.1)).map V.ref ++ [.ref x])) (if d = 0 then A.w0 else A.w1) = some (.lst (A.refs (m.wait d))) := by rw [upd_ne n3]; exact B1.l_at hd
    refine ⟨.inl ⟨rfl, _, SqL.of hw2⟩, _, rfl, ?_⟩
    have hwl : (m.wait d).length ≤ 60 := by
      have := ok.len
      have := ok.num
      have e0 : m.w0 = m.wait 0 := rfl
      have e1 : m.w1 = m.wait 1 := rfl
      rcases (by omega : d = 0 ∨ d = 1) with rfl | rfl
      · rw [← e0]; omega
      · rw [← e1]; omega
    refine ⟨_, _, _, rfl, rfl, hw2, by rw [refs_len]; omega, ?_⟩
    have nd2 : (((objs CV CB b A m).set 4 (A.came, .lst ((A.cars.map (·.1)).map V.ref ++ [.ref x]))).map (·.1)).Nodup := by
      have : ((objs CV CB b A m).set 4 (A.came, HO.lst ((A.cars.map (·.1)).map V.ref ++ [.ref x]))).map (·.1) = own b A := by
        rw [List.map_set, objs_fst B.len]
        rfl
      rw [this]; exact B.nd
    have L3 := lays_set nd2 L2 (k := 5 + d) (a := if d = 0 then A.w0 else A.w1) (o := .lst (A.refs (m.wait d))) (o' := .lst (A.refs (m.wait d) ++ [.ref x])) (by
      rcases (by omega : d = 0 ∨ d = 1) with rfl | rfl <;> rfl)
    have hx3 : upd (upd H1 A.came (.lst ((A.cars.map (·.1)).map V.ref ++ [.ref x]))) (if d = 0 then A.w0 else A.w1) (.lst (A.refs (m.wait d) ++ [.ref x])) x = some (.ins CV dx (vF m.cars.length ⟨d, wt, 0, 0, 0⟩)) := by
      rw [upd_ne n5, upd_ne n4]; exact hx1
    refine ⟨_, rfl, vread T hx3 0 rfl rfl T.v_number ?_⟩
    refine k { A with cars := A.cars ++ [(x, dx)] } _ ⟨by rw [add_cars, List.length_append, List.length_append, B.len]; rfl, ?_, fun p hp => ?_⟩ ⟨fun q o e hq => ?_, fun q hq => ?_⟩
    · have e : own b { A with cars := A.cars ++ [(x, dx)] } = own b A ++ [x] := by unfold own; simp
      rw [e, List.nodup_append]
      exact ⟨B.nd, by simp, fun q hq z hz => by simp at hz; subst hz; exact fun e => xown (e ▸ hq)⟩
    · have e : objs CV CB b { A with cars := A.cars ++ [(x, dx)] } (m.add d wt) = (((objs CV CB b A m).set 4 (A.came, .lst ((A.cars.map (·.1)).map V.ref ++ [.ref x]))).set (5 + d) (if d = 0 then A.w0 else A.w1, .lst (A.refs (m.wait d) ++ [.ref x]))) ++ [(x, .ins CV dx (vF m.cars.length ⟨d, wt, 0, 0, 0⟩))] := by
        unfold objs
        rw [listsOf_add B.len ok hd, add_cars, carsFrom_add B.len, B.len, Nat.zero_add]
        rw [show bF { A with cars := A.cars ++ [(x, dx)] } (m.add d wt) = bF A m by
          show bK.zip (bV _ _) = bK.zip (bV _ _)
          rw [bV_add]
          rfl]
        rw [List.set_append_left _ _ (by show 4 < (listsOf A m).length + 1; show 4 < 11; omega), List.set_append_left _ _ (by rw [List.length_set]; show 5 + d < (listsOf A m).length + 1; show 5 + d < 11; omega), ← List.append_assoc]
        rw [show 5 + d = (4 + d) + 1 by omega]
        rfl
      rw [e] at hp
      rcases List.mem_append.mp hp with h | h
      · exact L3 p h
      · simp at h
        subst h
        exact hx3
    · have f1 : q ≠ A.came := fun z => hq (by rw [z]; exact B.mem_l 3 rfl)
      have f2 : q ≠ (if d = 0 then A.w0 else A.w1) := fun z => hq (by rw [z]; exact B.mem_w d)
      rw [upd_ne f2, upd_ne f1]
      exact s1 _ _ e
    · have e : own b { A with cars := A.cars ++ [(x, dx)] } = own b A ++ [x] := by unfold own; simp
      rw [e] at hq
      rcases List.mem_append.mp hq with h | h
      · exact .inl h
      · simp at h
        subst h
        exact .inr nx
end
end OL


namespace OL
open PySem PySem.Spec PyProof.Rows L2
/-! ## a bridge made new -/
/-- the first k fields of a bridge hold vs (the others: not there yet, or of before) -/
def Fld (fs : List (Str × V)) (k : Nat) (vs : List V) : Prop :=
  vs.length = k ∧ k ≤ 13 ∧ (fs = (bK.take k).zip vs ∨ ∃ rest, fs = bK.zip (vs ++ rest) ∧ rest.length = 13 - k)
theorem Fld.zero {fs : List (Str × V)} (h : fs = [] ∨ ∃ A m, fs = bF A m) : Fld fs 0 [] := by
  refine ⟨rfl, by omega, ?_⟩
  rcases h with h | ⟨A, m, h⟩
  · exact .inl h
  · exact .inr ⟨bV A m, h, rfl⟩
theorem zadd : ∀ {ks : List Str} {vs : List V} {f : Str} {v : V}, ks.length = vs.length → f ∉ ks → putF f v (ks.zip vs) = (ks ++ [f]).zip (vs ++ [v])
  | [], [], f, v, _, _ => rfl
  | k :: r, x :: xs, f, v, h, n => by
    have ne : ¬ k = f := fun e => n (by rw [e]; exact List.mem_cons_self ..)
    show (if k = f then _ else (k, x) :: putF f v (r.zip xs)) = (k, x) :: (r ++ [f]).zip (xs ++ [v])
    rw [if_neg ne, zadd (Nat.succ.inj h) fun m => n (List.mem_cons_of_mem _ m)]
  | [], _ :: _, _, _, h, _ => by simp at h
  | _ :: _, [], _, _, h, _ => by simp at h
theorem Fld.put {fs : List (Str × V)} {k : Nat} {vs : List V} {f : Str} {v : V} (h : Fld fs k vs) (hf : bK[k]? = some f) : Fld (putF f v fs) (k + 1) (vs ++ [v]) := by
  obtain ⟨h1, h2, h3⟩ := h
  have hk : k < 13 := (List.getElem?_eq_some_iff.mp hf).1
  refine ⟨by rw [List.length_append, h1]; rfl, hk, ?_⟩
  rcases h3 with h3 | ⟨rest, h3, hr⟩
  · refine .inl ?_
    have nm : f ∉ bK.take k := fun z => by
      obtain ⟨j, hj, ej⟩ := List.getElem_of_mem z
      rw [List.length_take] at hj
      rw [List.getElem_take] at ej
      have := nd_ix bK_nd hf (show bK[j]? = some f by rw [List.getElem?_eq_getElem (by omega), ej])
      omega
    rw [h3, zadd (by rw [List.length_take, h1]; show min k 13 = k; omega) nm, take_one hf]
  · refine .inr ⟨rest.drop 1, ?_, by rw [List.length_drop, hr]; omega⟩
    cases rest with
    | nil => simp at hr; omega
    | cons r0 rest =>
      rw [h3, zput bK_nd hf (by show 13 = _; rw [List.length_append, h1, hr]; omega), List.set_append_right _ _ (by omega), h1, Nat.sub_self]
      show bK.zip (vs ++ v :: rest) = bK.zip (vs ++ [v] ++ rest)
      rw [List.append_assoc]
      rfl
theorem Fld.look {fs : List (Str × V)} {k : Nat} {vs : List V} (h : Fld fs k vs) {i : Nat} {f : Str} {v : V} (hf : bK[i]? = some f) (hv : vs[i]? = some v) : fs.lookup f = some v := by
  obtain ⟨h1, h2, h3⟩ := h
  have hi := (List.getElem?_eq_some_iff.mp hv).1
  rcases h3 with h3 | ⟨rest, h3, hr⟩
  · rw [h3]
    refine zlook (List.Sublist.nodup (List.take_sublist ..) bK_nd) (i := i) ?_ hv
    rw [List.getElem?_take_of_lt (by omega)]
    exact hf
  · rw [h3]
    exact zlook bK_nd hf (by rw [List.getElem?_append_left hi]; exact hv)
theorem Fld.all {fs : List (Str × V)} {vs : List V} (h : Fld fs 13 vs) : fs = bK.zip vs := by
  obtain ⟨h1, h2, h3⟩ := h
  rcases h3 with h3 | ⟨rest, h3, hr⟩
  · exact h3
  · have : rest = [] := List.eq_nil_of_length_eq_zero (by omega)
    rw [h3, this, List.append_nil]
theorem Fld.few {fs : List (Str × V)} {k : Nat} {vs : List V} (h : Fld fs k vs) : fs.length < 1000 := by
  obtain ⟨h1, h2, h3⟩ := h
  have hb : bK.length = 13 := rfl
  rcases h3 with h3 | ⟨rest, h3, hr⟩
  · rw [h3, List.length_zip]; omega
  · rw [h3, List.length_zip, hb]; omega

/-- things laid anew, beside those of F that may have changed -/
structure Lay (F : List Addr) (H0 H : Hp) (L : List (Addr × HO)) : Prop where
  nd : (L.map (·.1)).Nodup
  at_ : ∀ p ∈ L, H p.1 = some p.2
  new : ∀ p ∈ L, H0 p.1 = none
  keep : ∀ a o, H0 a = some o → a ∉ F → H a = some o
  has : ∀ a ∈ F, ∃ o, H a = some o
section
variable {F : List Addr} {H0 H : Hp} {L : List (Addr × HO)} {p : Addr} {o : HO}
theorem Lay.nil (h : ∀ a ∈ F, ∃ o, H0 a = some o) : Lay F H0 H0 [] := ⟨List.nodup_nil, (fun _ h => by cases h), (fun _ h => by cases h), fun _ _ e _ => e, h⟩
theorem Lay.free (l : Lay F H0 H L) (h : H p = none) : H0 p = none := by
  cases e : H0 p with
  | none => rfl
  | some o =>
    by_cases q : p ∈ F
    · obtain ⟨o', e'⟩ := l.has p q
      rw [h] at e'; cases e'
    · rw [l.keep p o e q] at h; cases h
theorem Lay.out (l : Lay F H0 H L) (h : H p = none) : p ∉ L.map (·.1) := fun z => by
  obtain ⟨q, hq, e⟩ := List.mem_map.mp z
  have := l.at_ q hq
  rw [e, h] at this
  cases this
/-- a new thing that nobody needs -/
theorem Lay.temp (l : Lay F H0 H L) (h : H p = none) : Lay F H0 (upd H p o) L :=
  ⟨l.nd, fun q hq => same_new h _ _ (l.at_ q hq), l.new, fun a u e n => same_new h _ _ (l.keep a u e n), fun a ha => let ⟨u, e⟩ := l.has a ha; ⟨u, same_new h _ _ e⟩⟩
theorem Lay.add (l : Lay F H0 H L) (h : H p = none) : Lay F H0 (upd H p o) (L ++ [(p, o)]) := by
  have t := l.temp (o := o) h
  refine ⟨?_, fun q hq => ?_, fun q hq => ?_, t.keep, t.has⟩
  · rw [List.map_append, List.nodup_append]
    refine ⟨l.nd, by simp, fun a ha b hb => ?_⟩
    simp at hb
    subst hb
    exact fun e => l.out h (by rw [← e]; exact ha)
  · rcases List.mem_append.mp hq with z | z
    · exact t.at_ q z
    · simp at z
      subst z
      exact upd_same
  · rcases List.mem_append.mp hq with z | z
    · exact l.new q z
    · simp at z
      subst z
      exact l.free h
/-- one of F is changed -/
theorem Lay.own (l : Lay F H0 H L) (h : p ∈ F) (hp : ∃ u, H0 p = some u) : Lay F H0 (upd H p o) L := by
  have nl : ∀ q ∈ L, q.1 ≠ p := fun q hq e => by
    obtain ⟨u, hu⟩ := hp
    have := l.new q hq
    rw [e, hu] at this; cases this
  refine ⟨l.nd, fun q hq => by rw [upd_ne (nl q hq)]; exact l.at_ q hq, l.new, fun a u e n => ?_, fun a ha => ?_⟩
  · have ne : a ≠ p := fun z => n (by rw [z]; exact h)
    rw [upd_ne ne]; exact l.keep a u e n
  · by_cases e : a = p
    · exact ⟨o, by rw [e]; exact upd_same⟩
    · obtain ⟨u, hu⟩ := l.has a ha
      exact ⟨u, by rw [upd_ne e]; exact hu⟩
/-- one of the new things is changed -/
theorem Lay.set (l : Lay F H0 H L) (k : Nat) {u : HO} (hk : L[k]? = some (p, u)) : Lay F H0 (upd H p o) (L.set k (p, o)) := by
  have hp : H0 p = none := l.new _ (List.mem_of_getElem? hk)
  have mapL : (L.set k (p, o)).map (·.1) = L.map (·.1) := by
    rw [List.map_set]
    apply List.ext_getElem?
    intro i
    by_cases e : k = i
    · subst e
      have hl : k < (L.map (·.1)).length := by rw [List.length_map]; exact (List.getElem?_eq_some_iff.mp hk).1
      rw [List.getElem?_set_self hl, List.getElem?_map, hk]
      rfl
    · rw [List.getElem?_set_ne e]
  refine ⟨by rw [mapL]; exact l.nd, lays_set l.nd l.at_ hk, fun q hq => ?_, fun a u' e n => ?_, fun a ha => ?_⟩
  · rcases List.mem_or_eq_of_mem_set hq with z | z
    · exact l.new q z
    · rw [z]; exact hp
  · rw [upd_ne (ne_of_none e hp)]; exact l.keep a u' e n
  · by_cases e : a = p
    · exact ⟨o, by rw [e]; exact upd_same⟩
    · obtain ⟨u', hu⟩ := l.has a ha
      exact ⟨u', by rw [upd_ne e]; exact hu⟩
theorem Lay.get (l : Lay F H0 H L) (k : Nat) (hk : L[k]? = some (p, o)) : H p = some o := l.at_ _ (List.mem_of_getElem? hk)
theorem Lay.newA (l : Lay F H0 H L) {a : Addr} (h : a ∈ L.map (·.1)) : H0 a = none := by
  obtain ⟨q, hq, e⟩ := List.mem_map.mp h
  rw [← e]
  exact l.new q hq
theorem Lay.temp' {H' : Hp} (l : Lay F H0 H L) (s : Same H H') : Lay F H0 H' L :=
  ⟨l.nd, fun q hq => s _ _ (l.at_ q hq), l.new, fun a u e n => s _ _ (l.keep a u e n), fun a ha => let ⟨u, e⟩ := l.has a ha; ⟨u, s _ _ e⟩⟩
end
theorem _root_.OL.Step.same_left {F F' : List Addr} {H H1 H' : Hp} (s : Step F H1 F' H') (h : Same H H1) : Step F H F' H' :=
  ⟨fun a o e n => s.keep a o (h a o e) n, fun a ha => (s.grow a ha).imp id h.free⟩
theorem spansFrom_snoc : ∀ (l : List Nat) (k c : Nat), spansFrom k (l ++ [c]) = spansFrom k l ++ List.replicate c (k + l.length)
  | [], k, c => by
    show List.replicate c k ++ [] = [] ++ List.replicate c (k + 0)
    simp
  | a :: r, k, c => by
    show List.replicate a k ++ spansFrom (k + 1) (r ++ [c]) = (List.replicate a k ++ spansFrom (k + 1) r) ++ List.replicate c (k + (r.length + 1))
    rw [spansFrom_snoc r, List.append_assoc, Nat.add_right_comm k 1 r.length]
    rfl
theorem spansFrom_len : ∀ (l : List Nat) (k : Nat), (∀ c ∈ l, c ≤ 5) → (spansFrom k l).length ≤ 5 * l.length
  | [], _, _ => Nat.le_refl _
  | a :: r, k, h => by
    show (List.replicate a k ++ spansFrom (k + 1) r).length ≤ 5 * (r.length + 1)
    rw [List.length_append, List.length_replicate]
    have := h a (List.mem_cons_self ..)
    have := spansFrom_len r (k + 1) fun c hc => h c (List.mem_cons_of_mem _ hc)
    omega
section
variable {P : Program} {w : World} {K : PySem.W.Frag} {mg : Str → Option Value} {base : Heap} {CV CB CT PN : Addr}
theorem ok_Bridge_renew {f : Addr} {fd : FuncData} (F : L2.Fun K "renew" "Bridge.renew" s_Bridge_renew f fd) (T : Txt K mg CV CB CT PN)  : FnOk P w K mg base CX0 1 f fd ["self", "turn", "cells", "limits"] (sp_renew K CV CB) := by
  refine F.ok sc_Bridge_renew (fun vs H Q E h => ?_) (fun cdv Ar outer s H vs Q E hr h => ?_)
  · obtain ⟨b, dx, lc, ll, fs, t, cs, ls, rfl, _⟩ := h
    rfl
  · have hu := hu_of hr
    refine ⟨_, (pss_cons (ps_fld (pv 0) (pv 1) rfl)
      (pss_cons (ps_fld (pv 0) (pe_callTy call_list_of (by rfl) T.b_list (by decide +kernel) (pa_cons (pv 2) pa_nil)) rfl)
      (pss_cons (ps_fld (pv 0) (pe_callTy call_list_of (by rfl) T.b_list (by decide +kernel) (pa_cons (pv 3) pa_nil)) rfl)
      (pss_cons (ps_fld (pv 0) (pe_lst pa_nil) rfl)
      (pss_cons (ps_for PassesOwn.never rfl (pi_enum (by rfl) T.b_enumerate (pa_cons (pv 2) pa_nil)) (pg_tup rfl (pgs_cons (pg_name (i := 4) sc_Bridge_renew.nd rfl (Or.inl rfl)) (pgs_cons (pg_name (i := 5) sc_Bridge_renew.nd rfl (Or.inl rfl)) pgs_nil)))
        (pss_one (ps_expr (pe_bm PySem.F.plainAttrs_list PySem.F.slot_list_extend PySem.F.type_list_extend mt_extend (pe_fld (pv 0) rfl) (pa_cons (pe_op op_rep (pe_lst (pa_cons (pv 4) pa_nil)) (pv 5)) pa_nil)))))
      (pss_cons (ps_fld (pv 0) (pe_lst pa_nil) rfl)
      (pss_cons (ps_fld (pv 0) (pe_tup (pa_cons (pe_lst pa_nil) (pa_cons (pe_lst pa_nil) pa_nil))) rfl)
      (pss_cons (ps_fld (pv 0) (pe_lst pa_nil) rfl)
      (pss_cons (ps_fld (pv 0) (gl T.g_LEFT) rfl)
      (pss_cons (ps_fld (pv 0) pe_int rfl)
      (pss_cons (ps_fld (pv 0) pe_bl rfl)
      (pss_cons (ps_fld (pv 0) pe_int rfl)
      (pss_cons (ps_fld (pv 0) (pe_op op_rep (pe_lst (pa_cons pe_int pa_nil)) (pe_callB call_len_seq (by rfl) T.b_len (by decide +kernel) (pa_cons (pe_fld (pv 0) rfl) pa_nil))) rfl)
      (pss_one (ps_fld (pv 0) (pe_op op_rep (pe_lst (pa_cons pe_int pa_nil)) (pe_callB call_len_seq (by rfl) T.b_len (by decide +kernel) (pa_cons (pe_fld (pv 0) rfl) pa_nil))) rfl))))))))))))))), ?_⟩
    obtain ⟨b, dx, lc, ll, fs, t, cs, ls, rfl, hb, hfs, hlc, hll, hc1, hc2, k⟩ := h
    have hsl := sizeLine_eq
    have f0 := Fld.zero hfs
    have hbF : b ∈ [b] := List.mem_cons_self ..
    have hbx : ∃ u, H b = some u := ⟨_, hb⟩
    have y0 : Lay [b] H H [] := Lay.nil fun a ha => by simp at ha; subst ha; exact hbx
    have nlc : lc ≠ b := ne_of hlc hb (by intro z; cases z)
    have nll : ll ≠ b := ne_of hll hb (by intro z; cases z)
    have kc : ∀ {H1 : Hp} {L}, Lay [b] H H1 L → H1 lc = some (.lst (nums cs)) := fun y => y.keep _ _ hlc (by simp [nlc])
    have kl : ∀ {H1 : Hp} {L}, Lay [b] H H1 L → H1 ll = some (.lst (nums ls)) := fun y => y.keep _ _ hll (by simp [nll])
    -- self.turn = turn
    refine ⟨_, rfl, _, rfl, b, CB, dx, fs, rfl, hb, T.clB, T.a_turn, f0.few, ?_⟩
    have f1 := f0.put (v := nat t) (f := "turn") rfl
    have y1 := y0.own (o := .ins CB dx (putF "turn" (nat t) fs)) hbF hbx
    have b1 : upd H b (.ins CB dx (putF "turn" (nat t) fs)) b = some (.ins CB dx (putF "turn" (nat t) fs)) := upd_same
    generalize putF "turn" (nat t) fs = fs1 at f1 y1 b1 ⊢
    generalize upd H b (.ins CB dx fs1) = H1 at y1 b1 ⊢
    -- self.cells = list(cells)
    refine ⟨_, rfl, lc, _, rfl, .inl (SqL.of (kc y1)), fun pc npc => ?_⟩
    have nb1 : b ≠ pc := ne_of_none b1 npc
    have y2 := y1.add (o := .lst (nums cs)) npc
    refine ⟨_, rfl, b, CB, dx, fs1, rfl, (by rw [upd_ne nb1]; exact b1), T.clB, T.a_cells, f1.few, ?_⟩
    have f2 := f1.put (v := .ref pc) (f := "cells") rfl
    have y3 := y2.own (o := .ins CB dx (putF "cells" (.ref pc) fs1)) hbF hbx
    have b2 : upd (upd H1 pc (.lst (nums cs))) b (.ins CB dx (putF "cells" (.ref pc) fs1)) b = some (.ins CB dx (putF "cells" (.ref pc) fs1)) := upd_same
    generalize putF "cells" (.ref pc) fs1 = fs2 at f2 y3 b2 ⊢
    generalize upd (upd H1 pc (.lst (nums cs))) b (.ins CB dx fs2) = H2 at y3 b2 ⊢
    -- self.limits = list(limits)
    refine ⟨_, rfl, ll, _, rfl, .inl (SqL.of (kl y3)), fun pl npl => ?_⟩
    have nb2 : b ≠ pl := ne_of_none b2 npl
    have y4 := y3.add (o := .lst (nums ls)) npl
    refine ⟨_, rfl, b, CB, dx, fs2, rfl, (by rw [upd_ne nb2]; exact b2), T.clB, T.a_limits, f2.few, ?_⟩
    have f3 := f2.put (v := .ref pl) (f := "limits") rfl
    have y5 := y4.own (o := .ins CB dx (putF "limits" (.ref pl) fs2)) hbF hbx
    have b3 : upd (upd H2 pl (.lst (nums ls))) b (.ins CB dx (putF "limits" (.ref pl) fs2)) b = some (.ins CB dx (putF "limits" (.ref pl) fs2)) := upd_same
    generalize putF "limits" (.ref pl) fs2 = fs3 at f3 y5 b3 ⊢
    generalize upd (upd H2 pl (.lst (nums ls))) b (.ins CB dx fs3) = H3 at y5 b3 ⊢
    -- self.span_of = []
    refine ⟨Nat.zero_le _, fun ps nps => ?_⟩
    have nb3 : b ≠ ps := ne_of_none b3 nps
    have y6 := y5.add (o := .lst []) nps
    refine ⟨_, rfl, b, CB, dx, fs3, rfl, (by rw [upd_ne nb3]; exact b3), T.clB, T.a_span_of, f3.few, ?_⟩
    have f4 := f3.put (v := .ref ps) (f := "span_of") rfl
    have y7 := y6.own (o := .ins CB dx (putF "span_of" (.ref ps) fs3)) hbF hbx
    have b4 : upd (upd H3 ps (.lst [])) b (.ins CB dx (putF "span_of" (.ref ps) fs3)) b = some (.ins CB dx (putF "span_of" (.ref ps) fs3)) := upd_same
    generalize putF "span_of" (.ref ps) fs3 = fs4 at f4 y7 b4 ⊢
    generalize upd (upd H3 ps (.lst [])) b (.ins CB dx fs4) = H4 at y7 b4 ⊢
    -- for span, many in enumerate(cells): self.span_of.extend([span] * many)
    refine ⟨_, rfl, lc, _, rfl, SqL.of (kc y7), ?_⟩
    refine forEnum (xs := nums cs) (fun i σ H' => ∃ v4 v5, σ = [some (.ref b), some (nat t), some (.ref lc), some (.ref ll), v4, v5] ∧ Lay [b] H H' [(pc, .lst (nums cs)), (pl, .lst (nums ls)), (ps, .lst (nums (spansFrom 0 (cs.take i))))] ∧ H' b = some (.ins CB dx fs4)) ⟨_, _, rfl, y7, b4⟩ (fun i σ H' h => ?_) ?_ ?_
    · obtain ⟨_, _, _, y, _⟩ := h
      exact SqL.of (kc y)
    · rintro i x T0 σ H' hx ⟨v4, v5, rfl, y, bb⟩ nT
      obtain ⟨n, hn, rfl⟩ := nums_at hx
      have hi := (List.getElem?_eq_some_iff.mp hn).1
      have ya := y.temp (o := .tup [nat i, nat n]) nT
      have nbT : b ≠ T0 := ne_of_none bb nT
      have bb1 : upd H' T0 (.tup [nat i, nat n]) b = some (.ins CB dx fs4) := by rw [upd_ne nbT]; exact bb
      refine ⟨T0, _, rfl, SqT.of upd_same, rfl, _, _, rfl, _, _, rfl, rfl, ?_⟩
      generalize upd H' T0 (.tup [nat i, nat n]) = H'' at ya bb1 ⊢
      refine ⟨_, rfl, b, CB, dx, fs4, _, rfl, bb1, T.clB, T.a_span_of, f4.look (i := 3) rfl rfl, ?_⟩
      have hps : H'' ps = some (.lst (nums (spansFrom 0 (cs.take i)))) := ya.get 2 rfl
      refine ⟨.inl ⟨rfl, _, SqL.of hps⟩, ?_⟩
      refine ⟨_, rfl, (by show 1 ≤ sizeLine; omega), fun q nq => ?_⟩
      have yb := ya.temp (o := .lst [nat i]) nq
      refine ⟨_, rfl, ?_⟩
      have hn5 : n ≤ 5 := hc2 n (List.mem_of_getElem? hn)
      refine ⟨q, _, _, rfl, rfl, upd_same, (by omega), (by omega), (by show 1 * (n : Int).toNat ≤ sizeLine; omega), fun q2 nq2 => ?_⟩
      have yc := yb.temp (o := .lst (List.replicate (n : Int).toNat [nat i]).flatten) nq2
      have hps2 := yc.get 2 rfl
      have nb5 : b ≠ q := ne_of_none bb1 nq
      have bb2 : upd H'' q (.lst [nat i]) b = some (.ins CB dx fs4) := by rw [upd_ne nb5]; exact bb1
      have nb6 : b ≠ q2 := ne_of_none bb2 nq2
      have erep : (List.replicate (n : Int).toNat [nat i]).flatten = nums (List.replicate n i) := rep_nums n i
      have hsl2 := spansFrom_len (cs.take i) 0 (fun c hc => hc2 c (List.mem_of_mem_take hc))
      rw [List.length_take] at hsl2
      refine ⟨ps, q2, _, _, rfl, rfl, hps2, upd_same, (by rw [erep, nums_len, nums_len, List.length_replicate]; omega), ?_⟩
      have yd := yc.set (o := .lst (nums (spansFrom 0 (cs.take i)) ++ (List.replicate (n : Int).toNat [nat i]).flatten)) 2 rfl
      refine ⟨_, _, rfl, ?_, ?_⟩
      · have e2 : nums (spansFrom 0 (cs.take (i + 1))) = nums (spansFrom 0 (cs.take i)) ++ (List.replicate (n : Int).toNat [nat i]).flatten := by
          rw [take_one hn, spansFrom_snoc, nums_app, erep, List.length_take, Nat.zero_add, Nat.min_eq_left (by omega)]
        rw [e2]
        exact yd
      · have nbps : b ≠ ps := fun e => by
          have := y.new (ps, .lst (nums (spansFrom 0 (cs.take i)))) (List.mem_cons_of_mem _ (List.mem_cons_of_mem _ (List.mem_cons_self ..)))
          dsimp only at this
          rw [← e, hb] at this
          cases this
        rw [upd_ne nbps, upd_ne nb6]
        exact bb2
    rintro σ H5 ⟨v4, v5, rfl, y8, b5⟩
    rw [nums_len, List.take_length] at y8
    -- self.came = []
    refine ⟨Nat.zero_le _, fun pa npa => ?_⟩
    have nb4 : b ≠ pa := ne_of_none b5 npa
    have y9 := y8.add (o := .lst []) npa
    refine ⟨_, rfl, b, CB, dx, fs4, rfl, (by rw [upd_ne nb4]; exact b5), T.clB, T.a_came, f4.few, ?_⟩
    have f5 := f4.put (v := .ref pa) (f := "came") rfl
    have y10 := y9.own (o := .ins CB dx (putF "came" (.ref pa) fs4)) hbF hbx
    have b6 : upd (upd H5 pa (.lst [])) b (.ins CB dx (putF "came" (.ref pa) fs4)) b = some (.ins CB dx (putF "came" (.ref pa) fs4)) := upd_same
    generalize putF "came" (.ref pa) fs4 = fs5 at f5 y10 b6 ⊢
    generalize upd (upd H5 pa (.lst [])) b (.ins CB dx fs5) = H6 at y10 b6 ⊢
    -- self.waiting = ([], [])
    refine ⟨Nat.zero_le _, fun p0 np0 => ?_⟩
    have y11 := y10.add (o := .lst []) np0
    refine ⟨Nat.zero_le _, fun p1 np1 => ?_⟩
    have y12 := y11.add (o := .lst []) np1
    refine ⟨(by show 2 ≤ sizeLine; omega), fun pw npw => ?_⟩
    have y13 := y12.add (o := .tup [.ref p0, .ref p1]) npw
    have b7 : upd (upd (upd H6 p0 (.lst [])) p1 (.lst [])) pw (.tup [.ref p0, .ref p1]) b = some (.ins CB dx fs5) :=
      same_new npw _ _ (same_new np1 _ _ (same_new np0 _ _ b6))
    refine ⟨_, rfl, b, CB, dx, fs5, rfl, b7, T.clB, T.a_waiting, f5.few, ?_⟩
    have f6 := f5.put (v := .ref pw) (f := "waiting") rfl
    have y14 := y13.own (o := .ins CB dx (putF "waiting" (.ref pw) fs5)) hbF hbx
    have b8 : upd (upd (upd (upd H6 p0 (.lst [])) p1 (.lst [])) pw (.tup [.ref p0, .ref p1])) b (.ins CB dx (putF "waiting" (.ref pw) fs5)) b = some (.ins CB dx (putF "waiting" (.ref pw) fs5)) := upd_same
    generalize putF "waiting" (.ref pw) fs5 = fs6 at f6 y14 b8 ⊢
    generalize upd (upd (upd (upd H6 p0 (.lst [])) p1 (.lst [])) pw (.tup [.ref p0, .ref p1])) b (.ins CB dx fs6) = H7 at y14 b8 ⊢
    -- self.crossing = []
    refine ⟨Nat.zero_le _, fun px npx => ?_⟩
    have nb5 : b ≠ px := ne_of_none b8 npx
    have y15 := y14.add (o := .lst []) npx
    refine ⟨_, rfl, b, CB, dx, fs6, rfl, (by rw [upd_ne nb5]; exact b8), T.clB, T.a_crossing, f6.few, ?_⟩
    have f7 := f6.put (v := .ref px) (f := "crossing") rfl
    have y16 := y15.own (o := .ins CB dx (putF "crossing" (.ref px) fs6)) hbF hbx
    have b9 : upd (upd H7 px (.lst [])) b (.ins CB dx (putF "crossing" (.ref px) fs6)) b = some (.ins CB dx (putF "crossing" (.ref px) fs6)) := upd_same
    generalize putF "crossing" (.ref px) fs6 = fs7 at f7 y16 b9 ⊢
    generalize upd (upd H7 px (.lst [])) b (.ins CB dx fs7) = H8 at y16 b9 ⊢
    -- self.open_side = LEFT; self.entered = 0; self.is_shut = False; self.time = 0
    refine ⟨_, rfl, b, CB, dx, fs7, rfl, b9, T.clB, T.a_open_side, f7.few, ?_⟩
    have f8 := f7.put (v := nat 0) (f := "open_side") rfl
    refine ⟨_, rfl, b, CB, dx, _, rfl, upd_same, T.clB, T.a_entered, f8.few, ?_⟩
    rw [upd_upd]
    have f9 := f8.put (v := nat 0) (f := "entered") rfl
    refine ⟨_, rfl, b, CB, dx, _, rfl, upd_same, T.clB, T.a_is_shut, f9.few, ?_⟩
    rw [upd_upd]
    have f10 := f9.put (v := .bl false) (f := "is_shut") rfl
    refine ⟨_, rfl, b, CB, dx, _, rfl, upd_same, T.clB, T.a_time, f10.few, ?_⟩
    rw [upd_upd]
    have f11 := f10.put (v := nat 0) (f := "time") rfl
    have y17 := y16.own (o := .ins CB dx (putF "time" (nat 0) (putF "is_shut" (.bl false) (putF "entered" (nat 0) (putF "open_side" (nat 0) fs7))))) hbF hbx
    have b10 : upd H8 b (.ins CB dx (putF "time" (nat 0) (putF "is_shut" (.bl false) (putF "entered" (nat 0) (putF "open_side" (nat 0) fs7))))) b = some (.ins CB dx (putF "time" (nat 0) (putF "is_shut" (.bl false) (putF "entered" (nat 0) (putF "open_side" (nat 0) fs7))))) := upd_same
    have eT : V.int 0 = nat 0 := rfl
    rw [eT]
    generalize putF "time" (nat 0) (putF "is_shut" (.bl false) (putF "entered" (nat 0) (putF "open_side" (nat 0) fs7))) = fs11 at f11 y17 b10 ⊢
    generalize upd H8 b (.ins CB dx fs11) = H9 at y17 b10 ⊢
    -- self.most_borne = [0] * len(self.cells)
    refine ⟨(by show 1 ≤ sizeLine; omega), fun q nq => ?_⟩
    have y18 := y17.temp (o := .lst [nat 0]) nq
    have b11 := same_new (o := .lst [nat 0]) nq _ _ b10
    refine ⟨_, rfl, b, CB, dx, fs11, _, rfl, b11, T.clB, T.a_cells, f11.look (i := 1) rfl rfl, ?_⟩
    refine ⟨pc, _, rfl, .inl (SqL.of (y18.get 0 rfl)), ?_⟩
    refine ⟨q, _, _, rfl, rfl, upd_same, (by omega), (by rw [nums_len]; omega), (by rw [nums_len]; show 1 * _ ≤ sizeLine; omega), fun pm npm => ?_⟩
    have em : (List.replicate ((((nums cs).length : Nat) : Int)).toNat [nat 0]).flatten = nums (List.replicate cs.length 0) := by
      rw [nums_len]; exact rep_nums cs.length 0
    rw [em]
    have y19 := y18.add (o := .lst (nums (List.replicate cs.length 0))) npm
    have b12 := same_new (o := .lst (nums (List.replicate cs.length 0))) npm _ _ b11
    refine ⟨_, rfl, b, CB, dx, fs11, rfl, b12, T.clB, T.a_most_borne, f11.few, ?_⟩
    have f12 := f11.put (v := .ref pm) (f := "most_borne") rfl
    have y20 := y19.own (o := .ins CB dx (putF "most_borne" (.ref pm) fs11)) hbF hbx
    have b13 : upd (upd (upd H9 q (.lst [nat 0])) pm (.lst (nums (List.replicate cs.length 0)))) b (.ins CB dx (putF "most_borne" (.ref pm) fs11)) b = some (.ins CB dx (putF "most_borne" (.ref pm) fs11)) := upd_same
    generalize putF "most_borne" (.ref pm) fs11 = fs12 at f12 y20 b13 ⊢
    generalize upd (upd (upd H9 q (.lst [nat 0])) pm (.lst (nums (List.replicate cs.length 0)))) b (.ins CB dx fs12) = H10 at y20 b13 ⊢
    -- self.most_borne_at = [0] * len(self.cells)
    refine ⟨(by show 1 ≤ sizeLine; omega), fun q2 nq2 => ?_⟩
    have y21 := y20.temp (o := .lst [nat 0]) nq2
    have b14 := same_new (o := .lst [nat 0]) nq2 _ _ b13
    refine ⟨_, rfl, b, CB, dx, fs12, _, rfl, b14, T.clB, T.a_cells, f12.look (i := 1) rfl rfl, ?_⟩
    refine ⟨pc, _, rfl, .inl (SqL.of (y21.get 0 rfl)), ?_⟩
    refine ⟨q2, _, _, rfl, rfl, upd_same, (by omega), (by rw [nums_len]; omega), (by rw [nums_len]; show 1 * _ ≤ sizeLine; omega), fun pn npn => ?_⟩
    rw [em]
    have y22 := y21.add (o := .lst (nums (List.replicate cs.length 0))) npn
    have b15 := same_new (o := .lst (nums (List.replicate cs.length 0))) npn _ _ b14
    refine ⟨_, rfl, b, CB, dx, fs12, rfl, b15, T.clB, T.a_most_borne_at, f12.few, ?_⟩
    have f13 := f12.put (v := .ref pn) (f := "most_borne_at") rfl
    have y23 := y22.own (o := .ins CB dx (putF "most_borne_at" (.ref pn) fs12)) hbF hbx
    have e13 := f13.all
    refine k ⟨dx, pc, pl, ps, pa, pw, p0, p1, px, pm, pn, []⟩ _ rfl ⟨rfl, ?_, fun p hp => ?_⟩ ⟨y23.keep, fun a ha => ?_⟩
    · show (b :: _).Nodup
      refine List.nodup_cons.mpr ⟨fun z => ?_, y23.nd⟩
      have := y23.newA z
      rw [hb] at this
      cases this
    · rcases List.mem_cons.mp (show p ∈ _ :: _ from hp) with h | h
      · subst h
        show upd _ b _ b = _
        rw [upd_same, e13]
        rfl
      · exact y23.at_ p h
    · rcases List.mem_cons.mp (show a ∈ _ :: _ from ha) with h | h
      · exact .inl (by rw [h]; exact hbF)
      · exact .inr (y23.newA h)
theorem ok_Bridge_init {f : Addr} {fd : FuncData} (F : L2.Fun K "__init__" "Bridge.__init__" s_Bridge_init f fd) (T : Txt K mg CV CB CT PN) (c_renew : Met P w K mg base 1 CB "renew" (sp_renew K CV CB)) : FnOk P w K mg base CX0 2 f fd ["self"] (sp_Bridge K CV CB) := by
  refine F.ok sc_Bridge_init (fun vs H Q E h => ?_) (fun cdv Ar outer s H vs Q E hr h => ?_)
  · obtain ⟨b, dx, rfl, _⟩ := h
    rfl
  · have hu := hu_of hr
    refine ⟨_, (pss_one (ps_expr (pe_m c_renew hr (by decide) (pv 0) (pa_cons pe_int (pa_cons (pe_lst (pa_cons pe_int pa_nil)) (pa_cons (pe_lst (pa_cons pe_int pa_nil)) pa_nil)))))), ?_⟩
    obtain ⟨b, dx, rfl, hb, k⟩ := h
    have hsl := sizeLine_eq
    refine ⟨_, rfl, b, dx, _, rfl, hb, rfl, ?_⟩
    refine ⟨(by show 1 ≤ sizeLine; omega), fun p np => ?_⟩
    refine ⟨(by show 1 ≤ sizeLine; omega), fun q nq => ?_⟩
    have s1 : Same H (upd (upd H p (.lst [V.int 1])) q (.lst [V.int 1])) := (same_new np).trans (same_new nq)
    have npq : p ≠ q := ne_of_none upd_same nq
    refine ⟨b, dx, p, q, [], 1, [1], [1], rfl, s1 _ _ hb, .inl rfl, (by rw [upd_ne npq, upd_same]; rfl), (by rw [upd_same]; rfl), by decide, by decide, fun A' H' _ B' st => ?_⟩
    exact k A' H' B' (st.same_left s1)
end
end OL


namespace OL
open PySem PySem.Spec PyProof.Rows L2
/-! ## a copy -/
def sp_copied (K : PySem.W.Frag) (CV CB : Addr) : Sp := fun vs H Q _ => ∃ (b : Addr) (A : Adr) (m : M), vs = [.ref b] ∧ Br CV CB H b A m ∧ OK m ∧
  ∀ c A' H', Br CV CB H' c A' m → (∀ a ∈ own c A', H a = none) → Same H H' → Q (.ref c) H'
theorem same_step {F F' : List Addr} {H H1 H2 : Hp} (s : Same H H1) (st : Step F H1 F' H2) (h : ∀ a ∈ F, H a = none) : Same H H2 := fun a o e =>
  st.keep a o (s a o e) fun z => by rw [h a z] at e; cases e
theorem fresh_step {F F' : List Addr} {H H1 H2 : Hp} (s : Same H H1) (st : Step F H1 F' H2) (h : ∀ a ∈ F, H a = none) : ∀ a ∈ F', H a = none := fun a ha => (st.grow a ha).elim (h a) s.free
theorem Lay.add' {F : List Addr} {H0 H H' : Hp} {L : List (Addr × HO)} {p : Addr} {o : HO} (l : Lay F H0 H L) (s : Same H H') (h : H p = none) (h' : H' p = some o) : Lay F H0 H' (L ++ [(p, o)]) := by
  have t := l.temp' s
  refine ⟨?_, fun q hq => ?_, fun q hq => ?_, t.keep, t.has⟩
  · rw [List.map_append, List.nodup_append]
    refine ⟨l.nd, by simp, fun a ha b hb => ?_⟩
    simp at hb
    subst hb
    exact fun e => l.out h (by rw [← e]; exact ha)
  · rcases List.mem_append.mp hq with z | z
    · exact t.at_ q z
    · simp at z
      subst z
      exact h'
  · rcases List.mem_append.mp hq with z | z
    · exact l.new q z
    · simp at z
      subst z
      exact l.free h
section
variable {P : Program} {w : World} {K : PySem.W.Frag} {mg : Str → Option Value} {base : Heap} {CV CB CT PN : Addr}
/-- a field points to another list from now on -/
theorem Br.setPtr {H : Hp} {b : Addr} {A A' : Adr} {m m' : M} (B : Br CV CB H b A m) (i k : Nat) {f : Str} {a : Addr} {o : HO} (hf : bK[i]? = some f) (hv : (bV A m).set i (.ref a) = bV A' m') (hl : listsOf A' m' = (listsOf A m).set k (a, o))
    (hk : k < 10) (hdx : A'.dx = A.dx) (hc : A'.cars = A.cars) (hm : m'.cars = m.cars) (ha : H a = some o) (na : a ∉ own b A) : Br CV CB (upd H b (.ins CB A.dx (putF f (.ref a) (bF A m)))) b A' m' := by
  have ef : putF f (.ref a) (bF A m) = bF A' m' := (zput bK_nd hf rfl).trans (by rw [hv]; rfl)
  have eo : objs CV CB b A' m' = ((objs CV CB b A m).set 0 (b, .ins CB A.dx (bF A' m'))).set (k + 1) (a, o) := by
    unfold objs
    rw [hl, hc, hm, hdx, List.set_append_left _ _ (by show 0 < (listsOf A m).length + 1; omega), List.set_append_left _ _ (by rw [List.length_set]; show k + 1 < 10 + 1; omega)]
    rfl
  have len : A'.cars.length = m'.cars.length := by rw [hc, hm]; exact B.len
  rw [ef]
  refine ⟨len, ?_, fun p hp => ?_⟩
  · rw [← objs_fst (CV := CV) (CB := CB) len, eo, List.map_set, List.map_set, objs_fst B.len]
    refine nodup_put ?_ ?_
    · exact B.nd
    · exact na
  · rw [eo] at hp
    rcases List.mem_or_eq_of_mem_set hp with h | h
    · exact lays_set (by rw [objs_fst B.len]; exact B.nd) B.at_ (k := 0) (o := .ins CB A.dx (bF A m)) rfl p h
    · subst h
      have ne : a ≠ b := fun z => na (by rw [z]; exact B.mem_b)
      show upd _ _ _ a = _
      rw [upd_ne ne]
      exact ha
theorem ptr_grow {b : Addr} {A A' : Adr} {q a : Addr} {k : Nat} (h : own b A' = (own b A).set k a) (hq : q ∈ own b A') : q ∈ own b A ∨ q = a := by
  rw [h] at hq
  exact List.mem_or_eq_of_mem_set hq
theorem ok_Bridge_copied {f : Addr} {fd : FuncData} (F : L2.Fun K "copied" "Bridge.copied" s_Bridge_copied f fd) (T : Txt K mg CV CB CT PN) (c_Bridge : Mak P w K mg base 2 "Bridge" CB (sp_Bridge K CV CB)) (c_renew : Met P w K mg base 1 CB "renew" (sp_renew K CV CB)) (c_twin : Met P w K mg base 3 CV "twin" (sp_twin K CV CB)) : FnOk P w K mg base CX0 4 f fd ["self"] (sp_copied K CV CB) := by
  refine F.ok sc_Bridge_copied (fun vs H Q E h => ?_) (fun cdv Ar outer s H vs Q E hr h => ?_)
  · obtain ⟨b, A, m, rfl, _⟩ := h
    rfl
  · have hu := hu_of hr
    refine ⟨_, (pss_cons (ps_set (i := 1) sc_Bridge_copied.nd rfl (Or.inr rfl) (pe_k0 c_Bridge hr (by decide)))
      (pss_cons (ps_expr (pe_m c_renew hr (by decide) (pv 1) (pa_cons (pe_fld (pv 0) rfl) (pa_cons (pe_fld (pv 0) rfl) (pa_cons (pe_fld (pv 0) rfl) pa_nil)))))
      (pss_cons (ps_fld (pv 1) (pe_lc (own := [("vehicle", 3)]) (g := gName 3) (te := (tMeth CV "twin" (sp_twin K CV CB) [] E0 (tVar 3) tNil)) (tt := tYes) (by rfl) sc_Bridge_copied.nd (pi_list (pe_fld (pv 0) rfl)) (blkOk_by (own := [("vehicle", 3)]) (N := n_Bridge_copied) (sc := defScope s_Bridge_copied) (by decide +kernel)) (fun _ _ _ _ _ => pg_name (i := 3) sc_Bridge_copied.nd rfl (Or.inl rfl)) (fun _ _ _ _ _ => by exact pts_nil) (fun _ _ _ _ _ => by exact (pe_m0 c_twin hr (by decide) (pv 3)))) rfl)
      (pss_cons (ps_for PassesOwn.never rfl (pi_tup (pe_tup (pa_cons (gl T.g_LEFT) (pa_cons (gl T.g_RIGHT) pa_nil)))) (pg_name (i := 2) sc_Bridge_copied.nd rfl (Or.inl rfl))
        (pss_one (ps_expr (pe_bm PySem.F.plainAttrs_list PySem.F.slot_list_extend PySem.F.type_list_extend mt_extend (pe_ix ix_tup (pe_fld (pv 1) rfl) (pv 2) (fun _ _ => rfl)) (pa_cons (pe_lc (own := [("vehicle", 3)]) (g := gName 3) (te := (tOp (rIxL K) (tFld K (tVar 1) "came") (tFld K (tVar 3) "number"))) (tt := tYes) (by rfl) sc_Bridge_copied.nd (pi_list (pe_ix ix_tup (pe_fld (pv 0) rfl) (pv 2) (fun _ _ => rfl))) (blkOk_by (own := [("vehicle", 3)]) (N := n_Bridge_copied) (sc := defScope s_Bridge_copied) (by decide +kernel)) (fun _ _ _ _ _ => pg_name (i := 3) sc_Bridge_copied.nd rfl (Or.inl rfl)) (fun _ _ _ _ _ => by exact pts_nil) (fun _ _ _ _ _ => by exact (pe_ix ix_list (pe_fld (pv 1) rfl) (pe_fld (pv 3) rfl) (fun _ _ => rfl)))) pa_nil)))))
      (pss_cons (ps_fld (pv 1) (pe_lc (own := [("vehicle", 3)]) (g := gName 3) (te := (tOp (rIxL K) (tFld K (tVar 1) "came") (tFld K (tVar 3) "number"))) (tt := tYes) (by rfl) sc_Bridge_copied.nd (pi_list (pe_fld (pv 0) rfl)) (blkOk_by (own := [("vehicle", 3)]) (N := n_Bridge_copied) (sc := defScope s_Bridge_copied) (by decide +kernel)) (fun _ _ _ _ _ => pg_name (i := 3) sc_Bridge_copied.nd rfl (Or.inl rfl)) (fun _ _ _ _ _ => by exact pts_nil) (fun _ _ _ _ _ => by exact (pe_ix ix_list (pe_fld (pv 1) rfl) (pe_fld (pv 3) rfl) (fun _ _ => rfl)))) rfl)
      (pss_cons (ps_fld (pv 1) (pe_fld (pv 0) rfl) rfl)
      (pss_cons (ps_fld (pv 1) (pe_fld (pv 0) rfl) rfl)
      (pss_cons (ps_fld (pv 1) (pe_fld (pv 0) rfl) rfl)
      (pss_cons (ps_fld (pv 1) (pe_fld (pv 0) rfl) rfl)
      (pss_cons (ps_fld (pv 1) (pe_callTy call_list_of (by rfl) T.b_list (by decide +kernel) (pa_cons (pe_fld (pv 0) rfl) pa_nil)) rfl)
      (pss_cons (ps_fld (pv 1) (pe_callTy call_list_of (by rfl) T.b_list (by decide +kernel) (pa_cons (pe_fld (pv 0) rfl) pa_nil)) rfl)
      (pss_one (ps_ret (pv 1)))))))))))))), ?_⟩
    obtain ⟨b, A, m, rfl, B, ok, k⟩ := h
    have hsl := sizeLine_eq
    -- other = Bridge()
    intro x dx nx nd ne
    refine ⟨x, dx, rfl, upd_same, fun A1 H1 B1 st1 => ⟨rfl, ?_⟩⟩
    have s0 : Step [x] H (own x A1) H1 := by
      refine ⟨fun a o e n => st1.keep a o ?_ n, fun a ha => ?_⟩
      · have n1 : a ≠ x := fun z => n (by simp [z])
        rw [upd_ne n1, upd_ne (ne_of_none e nd)]
        exact e
      · rcases st1.grow a ha with z | z
        · exact .inl z
        · refine .inr ?_
          by_cases e : a = x
          · rw [e]; exact nx
          · by_cases e2 : a = dx
            · rw [e2]; exact nd
            · rw [upd_ne e, upd_ne e2] at z; exact z
    have fx : ∀ a ∈ [x], H a = none := fun a ha => by simp at ha; rw [ha]; exact nx
    have s1 : Same H H1 := same_step (Same.refl H) s0 fx
    -- other.renew(self.turn, self.cells, self.limits)
    refine ⟨_, rfl, x, A1.dx, _, rfl, B1.ob, zno (by decide +kernel), ?_⟩
    refine ⟨_, rfl, (B.same s1).r_turn T ?_⟩
    refine ⟨_, rfl, (B.same s1).r_cells T ?_⟩
    refine ⟨_, rfl, (B.same s1).r_limits T ?_⟩
    refine ⟨x, A1.dx, A.cells, A.lims, _, m.turn, m.cells, m.limits, rfl, B1.ob, .inr ⟨_, _, rfl⟩, (B.same s1).l_cells, (B.same s1).l_lims, ok.few, fun c hc => (ok.pos c hc).2, fun A2 H2 _ B2 st2 => ?_⟩
    have f2 : ∀ a ∈ own x A2, H a = none := fresh_step s1 st2 fx
    have s2 : Same H H2 := same_step s1 st2 fx
    -- other.came = [vehicle.twin() for vehicle in self.came]
    refine ⟨_, rfl, ?_⟩
    have c2 : A2.cars = [] := List.eq_nil_of_length_eq_zero B2.len
    have B0 := B.same s2
    refine B0.r_came T ?_
    refine ⟨A.came, rfl, ⟨_, SqL.of B0.l_came⟩, fun D nD => ?_⟩
    have hr0 := refs_range B0
    refine lc_list (K := K) (a := A.came) (xs := A.refs (List.range m.cars.length)) (fun i H' => ∃ as : List (Addr × Addr), as.length = i ∧ Lay [] H2 H' ((D, .lst ((as.map (·.1)).map V.ref)) :: carsFrom CV 0 as (m.cars.take i)))
      ⟨[], rfl, (Lay.nil (fun a ha => by cases ha)).add nD⟩ (fun i H' _ h => ?_) (fun i v H' hv h => ?_) (fun H3 h => ?_)
    · obtain ⟨as, _, y⟩ := h
      rw [← hr0]
      exact SqL.of (y.keep _ _ B0.l_came (by simp))
    · obtain ⟨as, hal, y⟩ := h
      obtain ⟨j, hj, rfl⟩ := refs_at hv
      have hij : i = j ∧ i < m.cars.length := by
        have := (List.getElem?_eq_some_iff.mp hj).1
        rw [List.length_range] at this
        rw [List.getElem?_range this] at hj
        exact ⟨Option.some.inj hj, this⟩
      obtain ⟨rfl, hi⟩ := hij
      have sy : Same H2 H' := fun a o e => y.keep a o e (by simp)
      have B' := B0.same sy
      refine ⟨rfl, ?_⟩
      refine ⟨_, rfl, A.at_ i, A.dxAt i, _, rfl, B'.car hi, zno (by decide +kernel), ?_⟩
      refine ⟨A.at_ i, _, i, m.car i, rfl, B'.car hi, fun p d' H'' np sp hp => ?_⟩
      have y1 := y.add' sp np hp
      have hD := y1.get 0 rfl
      have y2 := y1.set (o := .lst ((as.map (·.1)).map V.ref ++ [.ref p])) 0 rfl
      have hcn := ok.num
      refine ⟨_, hD, by rw [List.length_map, List.length_map, hal]; omega, as ++ [(p, d')], by rw [List.length_append, hal]; rfl, ?_⟩
      have e1 : (D, HO.lst (((as ++ [(p, d')]).map (·.1)).map V.ref)) :: carsFrom CV 0 (as ++ [(p, d')]) (m.cars.take (i + 1)) =
          (((D, HO.lst ((as.map (·.1)).map V.ref)) :: carsFrom CV 0 as (m.cars.take i)) ++ [(p, HO.ins CV d' (vF i (m.car i)))]).set 0 (D, .lst ((as.map (·.1)).map V.ref ++ [.ref p])) := by
        rw [take_one (car_at hi), carsFrom_add (by rw [hal, List.length_take]; omega), hal, Nat.zero_add, List.map_append, List.map_append]
        rfl
      rw [e1]
      exact y2
    obtain ⟨as, hal, y⟩ := h
    rw [refs_len, List.length_range] at hal
    rw [refs_len, List.length_range, List.take_length] at y
    have s3 : Same H2 H3 := fun a o e => y.keep a o e (by simp)
    have B3o := B2.same s3
    have nDown : D ∉ own x A2 := B2.away nD
    refine ⟨_, rfl, x, CB, A2.dx, _, rfl, B3o.ob, T.clB, T.a_came, small13 _ _, ?_⟩
    have hm3 : ∃ m3 : M, m3 = { M.fresh m.turn m.cells m.limits with cars := m.cars } := ⟨_, rfl⟩
    obtain ⟨m3, em3⟩ := hm3
    have hA3 : ∃ A3 : Adr, A3 = { A2 with came := D, cars := as } := ⟨_, rfl⟩
    obtain ⟨A3, eA3⟩ := hA3
    have ef : putF "came" (.ref D) (bF A2 (M.fresh m.turn m.cells m.limits)) = bF A3 m3 := (zput bK_nd (i := 4) rfl rfl).trans (by rw [em3, eA3]; rfl)
    rw [ef]
    have eo : objs CV CB x A3 m3 = ((objs CV CB x A2 (M.fresh m.turn m.cells m.limits)).set 0 (x, .ins CB A2.dx (bF A3 m3))).set 4 (D, .lst ((as.map (·.1)).map V.ref)) ++ carsFrom CV 0 as m.cars := by
      unfold objs
      rw [c2, eA3, em3]
      rfl
    have ow : own x A3 = (own x A2).set 4 D ++ as.map (·.1) := by
      unfold own
      rw [c2, eA3]
      rfl
    have len3 : A3.cars.length = m3.cars.length := by rw [eA3, em3]; exact hal
    have cfst : (carsFrom CV 0 as m.cars).map (·.1) = as.map (·.1) := carsFrom_fst hal
    have ynd : (D :: as.map (·.1)).Nodup := by
      have := y.nd
      rw [List.map_cons, cfst] at this
      exact this
    obtain ⟨yn1, yn2⟩ := List.nodup_cons.mp ynd
    have asnew : ∀ a ∈ as.map (·.1), H2 a = none := fun a ha => y.newA (by rw [List.map_cons, cfst]; exact List.mem_cons_of_mem _ ha)
    have own3 : ∀ a ∈ own x A3, a ∈ own x A2 ∨ H2 a = none := fun a ha => by
      rw [ow] at ha
      rcases List.mem_append.mp ha with z | z
      · rcases List.mem_or_eq_of_mem_set z with z | z
        · exact .inl z
        · exact .inr (by rw [z]; exact nD)
      · exact .inr (asnew a z)
    have B3 : Br CV CB (upd H3 x (.ins CB A2.dx (bF A3 m3))) x A3 m3 := by
      refine ⟨len3, ?_, fun p hp => ?_⟩
      · rw [ow, List.nodup_append]
        refine ⟨nodup_put B2.nd nDown, yn2, fun a ha q hq e => ?_⟩
        have hq2 := asnew q hq
        rcases List.mem_or_eq_of_mem_set ha with z | z
        · obtain ⟨o, eo⟩ := B2.has z
          rw [e, hq2] at eo
          cases eo
        · exact yn1 (by rw [← z, e]; exact hq)
      · rw [eo] at hp
        rcases List.mem_append.mp hp with h | h
        · rcases List.mem_or_eq_of_mem_set h with h | h
          · exact lays_set (by rw [objs_fst B3o.len]; exact B3o.nd) B3o.at_ (k := 0) (o := .ins CB A2.dx (bF A2 (M.fresh m.turn m.cells m.limits))) rfl p h
          · subst h
            have nDx : D ≠ x := fun z => nDown (by rw [z]; exact B2.mem_b)
            show upd _ _ _ D = _
            rw [upd_ne nDx]
            exact y.get 0 rfl
        · have npx : p.1 ≠ x := fun z => by
            have h1 := asnew p.1 (by rw [← cfst]; exact List.mem_map_of_mem h)
            obtain ⟨o, e⟩ := B2.has B2.mem_b
            rw [z, e] at h1
            cases h1
          rw [upd_ne npx]
          exact y.at_ p (List.mem_cons_of_mem _ h)
    have f3 : ∀ a ∈ own x A3, H a = none := fun a ha => (own3 a ha).elim (f2 a) s2.free
    have s4 : Same H (upd H3 x (.ins CB A2.dx (bF A3 m3))) := same_at (s2.trans s3) nx
    generalize upd H3 x (.ins CB A2.dx (bF A3 m3)) = H4 at B3 s4 ⊢
    clear y B3o s3 ef eo ow ynd yn1 yn2 cfst own3
    -- for side in (LEFT, RIGHT)
    refine ⟨(by show 2 ≤ sizeLine; omega), fun tp ntp => ?_⟩
    have s5 : Same H4 (upd H4 tp (.tup [V.int 0, V.int 1])) := same_new ntp
    refine ⟨tp, rfl, ⟨_, SqT.of upd_same⟩, ?_⟩
    have sidestep : ∀ (d : Nat) (mi : M) (H' : Hp) (v3 : Option V), d ≤ 1 → mi.wait d = [] → Br CV CB H' x A3 mi → Same H H' → mi.cars = m.cars → ∀ D0 : Ends, (∀ H'', Br CV CB H'' x A3 (mi.setWait d (m.wait d)) → Same H H'' → Step (own x A3) H' (own x A3) H'' → D0.nx [some (.ref b), some (.ref x), some (nat d), v3] H'') →
        tDrop (tBM K "list" rExtend (tOp (rIxT K) (tFld K (tVar 1) "waiting") (tVar 2)) (tCons (tLc (iList K (tOp (rIxT K) (tFld K (tVar 0) "waiting") (tVar 2))) (gName 3) tYes (tOp (rIxL K) (tFld K (tVar 1) "came") (tFld K (tVar 3) "number")) [3]) tNil)) D0 [some (.ref b), some (.ref x), some (nat d), v3] H' := fun d mi H' v3 hd hw Bi si hci D0 fin => by
      have Bs := B.same si
      refine ⟨_, rfl, Bi.r_waiting T ?_⟩
      refine ⟨_, rfl, ?_⟩
      refine ⟨A3.wait, _, _, _, rfl, rfl, SqT.of Bi.l_wait, atW hd, ?_⟩
      refine ⟨.inl ⟨rfl, _, SqL.of (Bi.l_at hd)⟩, ?_⟩
      unfold tCons
      have hwl : (m.wait d).length ≤ 60 := by
        have := ok.len
        have := ok.num
        have e0 : m.w0 = m.wait 0 := rfl
        have e1 : m.w1 = m.wait 1 := rfl
        rcases (by omega : d = 0 ∨ d = 1) with rfl | rfl
        · rw [← e0]; omega
        · rw [← e1]; omega
      refine lcM (a := if d = 0 then A.w0 else A.w1) (A := A) (l := m.wait d) (fun i => .ref (A3.at_ i)) (fun R r => ⟨_, rfl, Bs.r_waiting T ⟨_, rfl, A.wait, _, _, _, rfl, rfl, SqT.of Bs.l_wait, atW hd, r⟩⟩) (SqL.of (Bs.l_at hd)) (by omega) (fun i hi H5 s Q1 q => ?_) (fun q H5 nq s hq => ?_)
      · have hi1 := (ok.wt d hd i hi).1
        refine ⟨_, rfl, (Bi.same s).r_came T ?_⟩
        refine ⟨_, rfl, (Bs.same s).v_number T hi1 ?_⟩
        refine ⟨A3.came, _, _, _, rfl, rfl, SqL.of (Bi.same s).l_came, atI_nat ((Bi.same s).came_at (by rw [hci]; exact hi1)), ?_⟩
        exact q H5 (Same.refl _)
      · have B5 := Bi.same s
        have hl5 := B5.l_at hd
        rw [hw] at hl5
        refine ⟨_, q, _, _, rfl, rfl, hl5, hq, by rw [refs_len, List.length_map]; show 0 + _ ≤ sizeLine; omega, ?_⟩
        have e5 : A3.refs [] ++ (m.wait d).map (fun i => V.ref (A3.at_ i)) = A3.refs (m.wait d) := by
          unfold Adr.refs
          rw [show ((m.wait d).map A3.at_).map V.ref = (m.wait d).map (fun i => V.ref (A3.at_ i)) from List.map_map ..]
          rfl
        rw [e5]
        have stw : Step (own x A3) H' (own x A3) (upd H5 (if d = 0 then A3.w0 else A3.w1) (.lst (A3.refs (m.wait d)))) := (Step.same s).trans (Step.at_ (B5.mem_w d))
        exact fin _ (B5.setW hd (m.wait d)) (same_step si stw f3) stw
    refine for_tup (K := K) (a := tp) (xs := [V.int 0, V.int 1]) (fun i σ H' => ∃ v2 v3, σ = [some (.ref b), some (.ref x), v2, v3] ∧ Same H H' ∧ H' tp = some (.tup [V.int 0, V.int 1]) ∧
        Br CV CB H' x A3 { m3 with w0 := if i = 0 then [] else m.w0, w1 := if i ≤ 1 then [] else m.w1 }) ⟨_, _, rfl, s4.trans s5, upd_same, ?_⟩ (fun i σ H' _ h => ?_) ?_ ?_
    · rw [em3]
      rw [em3] at B3
      exact B3.same s5
    · obtain ⟨_, _, _, _, ht, _⟩ := h
      exact SqT.of ht
    · rintro i v σ H' hv ⟨v2, v3, rfl, si, ht, Bi⟩
      have hi := (List.getElem?_eq_some_iff.mp hv).1
      have htp : tp ∉ own x A3 := B3.away ntp
      rcases (by have : i < 2 := hi; omega : i = 0 ∨ i = 1) with rfl | rfl
      · have ev : V.int 0 = v := Option.some.inj hv
        subst ev
        refine sidestep 0 _ H' v3 (by omega) rfl Bi si (by rw [em3]) _ fun H'' B'' s'' st'' => ?_
        exact ⟨_, _, rfl, s'', st''.keep _ _ ht htp, B''⟩
      · have ev : V.int 1 = v := Option.some.inj hv
        subst ev
        refine sidestep 1 _ H' v3 (by omega) rfl Bi si (by rw [em3]) _ fun H'' B'' s'' st'' => ?_
        exact ⟨_, _, rfl, s'', st''.keep _ _ ht htp, B''⟩
    rintro σ H5 ⟨v2, v3, rfl, s6, _, B6⟩
    have e6 : ({ m3 with w0 := if ([V.int 0, V.int 1] : List V).length = 0 then [] else m.w0, w1 := if ([V.int 0, V.int 1] : List V).length ≤ 1 then [] else m.w1 } : M) = { m3 with w0 := m.w0, w1 := m.w1 } := rfl
    rw [e6] at B6
    clear sidestep e6
    -- other.crossing = [other.came[vehicle.number] for vehicle in self.crossing]
    have Bs := B.same s6
    have hcl : m.cross.length ≤ 60 := by have := ok.len; have := ok.num; omega
    have num6 : ({ m3 with w0 := m.w0, w1 := m.w1 } : M).cars = m.cars := by rw [em3]
    unfold tSeq sFld
    dsimp only
    refine lcM (K := K) (a := A.cross) (A := A) (l := m.cross) (fun i => .ref (A3.at_ i)) (fun R r => ⟨_, rfl, Bs.r_crossing T r⟩) (SqL.of Bs.l_cross) (by omega) (fun i hi H7 s Q1 q => ?_) (fun q H7 nq s hq => ?_)
    · have hi1 := (ok.cr i hi).1
      refine ⟨_, rfl, (B6.same s).r_came T ?_⟩
      refine ⟨_, rfl, (Bs.same s).v_number T hi1 ?_⟩
      refine ⟨A3.came, _, _, _, rfl, rfl, SqL.of (B6.same s).l_came, atI_nat ((B6.same s).came_at (by rw [num6]; exact hi1)), ?_⟩
      exact q H7 (Same.refl _)
    have B7 := B6.same s
    have hq2 : H7 q = some (.lst (A3.refs m.cross)) := by
      rw [hq]
      unfold Adr.refs
      rw [List.map_map]
      rfl
    have qown : q ∉ own x A3 := B6.away nq
    have s7 : Same H H7 := s6.trans s
    refine ⟨_, rfl, x, CB, A3.dx, _, rfl, B7.ob, T.clB, T.a_crossing, small13 _ _, ?_⟩
    have B8 := B7.setCross hq2 qown
    have s8 : Same H (upd H7 x (.ins CB A3.dx (putF "crossing" (.ref q) (bF A3 { m3 with w0 := m.w0, w1 := m.w1 })))) := same_at s7 nx
    have f8 : ∀ a ∈ own x { A3 with cross := q }, H a = none := fun a ha => (own_cross ha).elim (f3 a) fun e => by rw [e]; exact s6.free nq
    generalize upd H7 x (.ins CB A3.dx (putF "crossing" (.ref q) (bF A3 { m3 with w0 := m.w0, w1 := m.w1 }))) = H8 at B8 s8 ⊢
    -- open_side, entered, is_shut, time
    refine ⟨_, rfl, (B.same s8).r_open_side T ?_⟩
    refine ⟨_, rfl, x, CB, _, _, rfl, B8.ob, T.clB, T.a_open_side, small13 _ _, ?_⟩
    have B9 := B8.setF (m' := { m3 with w0 := m.w0, w1 := m.w1, cross := m.cross, side := m.side }) 7 (f := "open_side") (y := nat m.side) rfl rfl rfl rfl
    have s9 := same_at (o := .ins CB A3.dx (putF "open_side" (nat m.side) (bF { A3 with cross := q } { m3 with w0 := m.w0, w1 := m.w1, cross := m.cross }))) s8 nx
    generalize upd H8 x (.ins CB A3.dx (putF "open_side" (nat m.side) (bF { A3 with cross := q } { m3 with w0 := m.w0, w1 := m.w1, cross := m.cross }))) = H9 at B9 s9 ⊢
    refine ⟨_, rfl, (B.same s9).r_entered T ?_⟩
    refine ⟨_, rfl, x, CB, _, _, rfl, B9.ob, T.clB, T.a_entered, small13 _ _, ?_⟩
    have B10 := B9.setF (m' := { m3 with w0 := m.w0, w1 := m.w1, cross := m.cross, side := m.side, gone := m.gone }) 8 (f := "entered") (y := nat m.gone) rfl rfl rfl rfl
    have s10 := same_at (o := .ins CB A3.dx (putF "entered" (nat m.gone) (bF { A3 with cross := q } { m3 with w0 := m.w0, w1 := m.w1, cross := m.cross, side := m.side }))) s9 nx
    generalize upd H9 x (.ins CB A3.dx (putF "entered" (nat m.gone) (bF { A3 with cross := q } { m3 with w0 := m.w0, w1 := m.w1, cross := m.cross, side := m.side }))) = H10 at B10 s10 ⊢
    refine ⟨_, rfl, (B.same s10).r_is_shut T ?_⟩
    refine ⟨_, rfl, x, CB, _, _, rfl, B10.ob, T.clB, T.a_is_shut, small13 _ _, ?_⟩
    have B11 := B10.setF (m' := { m3 with w0 := m.w0, w1 := m.w1, cross := m.cross, side := m.side, gone := m.gone, shut := m.shut }) 9 (f := "is_shut") (y := .bl m.shut) rfl rfl rfl rfl
    have s11 := same_at (o := .ins CB A3.dx (putF "is_shut" (.bl m.shut) (bF { A3 with cross := q } { m3 with w0 := m.w0, w1 := m.w1, cross := m.cross, side := m.side, gone := m.gone }))) s10 nx
    generalize upd H10 x (.ins CB A3.dx (putF "is_shut" (.bl m.shut) (bF { A3 with cross := q } { m3 with w0 := m.w0, w1 := m.w1, cross := m.cross, side := m.side, gone := m.gone }))) = H11 at B11 s11 ⊢
    refine ⟨_, rfl, (B.same s11).r_time T ?_⟩
    refine ⟨_, rfl, x, CB, _, _, rfl, B11.ob, T.clB, T.a_time, small13 _ _, ?_⟩
    have B12 := B11.setF (m' := { m3 with w0 := m.w0, w1 := m.w1, cross := m.cross, side := m.side, gone := m.gone, shut := m.shut, time := m.time }) 10 (f := "time") (y := nat m.time) rfl rfl rfl rfl
    have s12 := same_at (o := .ins CB A3.dx (putF "time" (nat m.time) (bF { A3 with cross := q } { m3 with w0 := m.w0, w1 := m.w1, cross := m.cross, side := m.side, gone := m.gone, shut := m.shut }))) s11 nx
    generalize upd H11 x (.ins CB A3.dx (putF "time" (nat m.time) (bF { A3 with cross := q } { m3 with w0 := m.w0, w1 := m.w1, cross := m.cross, side := m.side, gone := m.gone, shut := m.shut }))) = H12 at B12 s12 ⊢
    -- most_borne = list(..)
    refine ⟨_, rfl, (B.same s12).r_most_borne T ?_⟩
    refine ⟨A.most, _, rfl, .inl (SqL.of (B.same s12).l_most), fun q2 nq2 => ?_⟩
    have B12' := B12.same (same_new (o := .lst (nums m.most)) nq2)
    refine ⟨_, rfl, x, CB, _, _, rfl, B12'.ob, T.clB, T.a_most_borne, small13 _ _, ?_⟩
    have B13 := B12'.setPtr (A' := { A3 with cross := q, most := q2 }) (m' := { m3 with w0 := m.w0, w1 := m.w1, cross := m.cross, side := m.side, gone := m.gone, shut := m.shut, time := m.time, most := m.most }) 11 8 (f := "most_borne") (a := q2) (o := .lst (nums m.most)) rfl rfl rfl (by omega) rfl rfl rfl upd_same (B12.away nq2)
    have s13 := same_at (o := .ins CB A3.dx (putF "most_borne" (.ref q2) (bF { A3 with cross := q } { m3 with w0 := m.w0, w1 := m.w1, cross := m.cross, side := m.side, gone := m.gone, shut := m.shut, time := m.time }))) (s12.trans (same_new (o := .lst (nums m.most)) nq2)) nx
    have f13 : ∀ a ∈ own x { A3 with cross := q, most := q2 }, H a = none := fun a ha => (ptr_grow (A := { A3 with cross := q }) (A' := { A3 with cross := q, most := q2 }) (a := q2) (k := 9) rfl ha).elim (f8 a) fun e => by rw [e]; exact s12.free nq2
    generalize upd (upd H12 q2 (.lst (nums m.most))) x (.ins CB A3.dx (putF "most_borne" (.ref q2) (bF { A3 with cross := q } { m3 with w0 := m.w0, w1 := m.w1, cross := m.cross, side := m.side, gone := m.gone, shut := m.shut, time := m.time }))) = H13 at B13 s13 ⊢
    -- most_borne_at = list(..)
    refine ⟨_, rfl, (B.same s13).r_most_borne_at T ?_⟩
    refine ⟨A.mostAt, _, rfl, .inl (SqL.of (B.same s13).l_mostAt), fun q3 nq3 => ?_⟩
    have B13' := B13.same (same_new (o := .lst (nums m.mostAt)) nq3)
    refine ⟨_, rfl, x, CB, _, _, rfl, B13'.ob, T.clB, T.a_most_borne_at, small13 _ _, ?_⟩
    have B14 := B13'.setPtr (A' := { A3 with cross := q, most := q2, mostAt := q3 }) (m' := { m3 with w0 := m.w0, w1 := m.w1, cross := m.cross, side := m.side, gone := m.gone, shut := m.shut, time := m.time, most := m.most, mostAt := m.mostAt }) 12 9 (f := "most_borne_at") (a := q3) (o := .lst (nums m.mostAt)) rfl rfl rfl (by omega) rfl rfl rfl upd_same (B13.away nq3)
    have s14 := same_at (o := .ins CB A3.dx (putF "most_borne_at" (.ref q3) (bF { A3 with cross := q, most := q2 } { m3 with w0 := m.w0, w1 := m.w1, cross := m.cross, side := m.side, gone := m.gone, shut := m.shut, time := m.time, most := m.most }))) (s13.trans (same_new (o := .lst (nums m.mostAt)) nq3)) nx
    have f14 : ∀ a ∈ own x { A3 with cross := q, most := q2, mostAt := q3 }, H a = none := fun a ha => (ptr_grow (A := { A3 with cross := q, most := q2 }) (A' := { A3 with cross := q, most := q2, mostAt := q3 }) (a := q3) (k := 10) rfl ha).elim (f13 a) fun e => by rw [e]; exact s13.free nq3
    refine ⟨_, rfl, ?_⟩
    refine k x _ _ ?_ f14 s14
    have ef : ({ m3 with w0 := m.w0, w1 := m.w1, cross := m.cross, side := m.side, gone := m.gone, shut := m.shut, time := m.time, most := m.most, mostAt := m.mostAt } : M) = m := by rw [em3]; rfl
    rw [ef] at B14
    exact B14
end
end OL


namespace OL
open PySem PySem.Spec PyProof.Rows L2
/-! ## the calls -/
def sp_ticks_until_left (K : PySem.W.Frag) (CV CB : Addr) : Sp := fun vs H Q _ => ∃ (b : Addr) (A : Adr) (m : M) (i n : Nat), vs = [.ref b, nat i] ∧ Br CV CB H b A m ∧ OK m ∧ i < m.cars.length ∧
  ((m.ticks n).car i).place = 2 ∧ (∀ j, j < n → ((m.ticks j).car i).place ≠ 2) ∧ ∀ H', Same H H' → Q (nat n) H'
/-- a call: the bridge, the numbers handed over; what becomes of the bridge, what is answered -/
def spCall (CV CB : Addr) (pre : M → List Nat → Prop) (f : M → List Nat → M × List Int) : Sp := fun vs H Q _ => ∃ (b : Addr) (A : Adr) (m : M) (q : Addr) (a : List Nat), vs = [.ref b, .ref q] ∧ Br CV CB H b A m ∧ OK m ∧ H q = some (.lst (nums a)) ∧ q ∉ own b A ∧ pre m a ∧
  ∀ A' H' p, Br CV CB H' b A' (f m a).1 → Step (own b A) H (own b A') H' → p ∉ own b A' → (∀ c o, H c = some o → c ∉ own b A → c ≠ p) → H' p = some (.lst ((f m a).2.map V.int)) → Q (.ref p) H'
def sp_comes (K : PySem.W.Frag) (CV CB : Addr) : Sp := spCall CV CB two_ M.comesM
def sp_gives (K : PySem.W.Frag) (CV CB : Addr) : Sp := spCall CV CB one_ M.givesM
def sp_ticks (K : PySem.W.Frag) (CV CB : Addr) : Sp := spCall CV CB one_ M.ticksM
def sp_limit (K : PySem.W.Frag) (CV CB : Addr) : Sp := spCall CV CB two_ M.limitM
def sp_shut (K : PySem.W.Frag) (CV CB : Addr) : Sp := spCall CV CB one_ M.shutM
def sp_where (K : PySem.W.Frag) (CV CB : Addr) : Sp := spCall CV CB one_ M.whereM
def sp_when (K : PySem.W.Frag) (CV CB : Addr) : Sp := spCall CV CB when_ M.whenM
def sp_loads (K : PySem.W.Frag) (CV CB : Addr) : Sp := spCall CV CB any_ M.loadsM
def sp_queue (K : PySem.W.Frag) (CV CB : Addr) : Sp := spCall CV CB one_ M.queueM
def sp_most (K : PySem.W.Frag) (CV CB : Addr) : Sp := spCall CV CB any_ M.mostM
def sp_state (K : PySem.W.Frag) (CV CB : Addr) : Sp := spCall CV CB any_ M.stateM
theorem ticks_succ : ∀ (n : Nat) (m : M), m.ticks (n + 1) = (m.ticks n).tick
  | 0, _ => rfl
  | n + 1, m => by
    show (m.tick).ticks (n + 1) = ((m.tick).ticks n).tick
    exact ticks_succ n m.tick
theorem lefts_succ : ∀ (n : Nat) (m : M), m.lefts (n + 1) = m.lefts n ++ (m.ticks n).left
  | 0, m => by show m.left ++ [] = [] ++ m.left; simp
  | n + 1, m => by
    show m.left ++ m.tick.lefts (n + 1) = (m.left ++ m.tick.lefts n) ++ (m.tick.ticks n).left
    rw [lefts_succ n m.tick, List.append_assoc]
theorem tick_time (m : M) (ok : OK m) : m.tick.time = m.time + 1 := by
  have e0 := same_fields (moved_cross ok.up).same
  have h1 : m.up.moveAll.time = m.time + 1 := by
    show (m.up.moves m.up.cross).1.time = _
    rw [e0]
    rfl
  have h2 : m.up.moveAll.turned.time = m.time + 1 := by
    unfold M.turned
    split <;> exact h1
  have h3 : ∀ x : M, x.letEnter.time = x.time := fun x => by
    unfold M.letEnter
    split
    · rfl
    · split
      · exact take_time (p := 1)
      · rfl
  have h4 : m.up.moveAll.turned.entered.time = m.time + 1 := by
    unfold M.entered
    split
    · rw [h3]; exact h2
    · exact h2
  have h5 : ∀ (l : List Nat) (x : M) (k : Nat), (x.mosts k l).time = x.time := by
    intro l
    induction l with
    | nil => intro x k; rfl
    | cons a r ih =>
      intro x k
      show ((x.most1 k a).mosts (k + 1) r).time = x.time
      rw [ih]
      unfold M.most1
      split <;> rfl
  show (M.mosts _ 0 _).time = _
  rw [h5]
  exact h4
theorem ticks_time : ∀ (n : Nat) (m : M), OK m → (m.ticks n).time = m.time + n
  | 0, _, _ => rfl
  | n + 1, m, ok => by
    show (m.tick.ticks n).time = _
    rw [ticks_time n m.tick ok.tick, tick_time m ok]
    omega
theorem tick_num {m : M} (ok : OK m) : m.tick.cars.length = m.cars.length := by
  have h1 : m.up.moveAll.cars.length = m.cars.length := (moved_cross ok.up).fix.num
  have h2 : m.up.moveAll.turned.cars.length = m.cars.length := by
    unfold M.turned
    split <;> exact h1
  have h4 : m.up.moveAll.turned.entered.cars.length = m.cars.length := by
    unfold M.entered
    split
    · unfold M.letEnter
      split
      · exact h2
      · split
        · rw [fix_enters.num]; exact h2
        · exact h2
    · exact h2
  show (M.mosts _ 0 _).cars.length = _
  rw [(mosts_like _ _ 0).cars]
  exact h4
theorem ticks_num : ∀ (n : Nat) {m : M}, OK m → (m.ticks n).cars.length = m.cars.length
  | 0, _, _ => rfl
  | n + 1, m, ok => (ticks_num n ok.tick).trans (tick_num ok)
theorem lefts_len : ∀ (n : Nat) {m : M}, OK m → (m.lefts n).length ≤ 60 * n
  | 0, _, _ => Nat.le_refl _
  | n + 1, m, ok => by
    show (m.left ++ m.tick.lefts n).length ≤ 60 * (n + 1)
    rw [List.length_append]
    have h1 := lefts_len n ok.tick
    have h2 : m.left.length ≤ m.cross.length := (leaves_sub ok.up).length_le
    have := ok.len
    have := ok.num
    omega
section
variable {P : Program} {w : World} {K : PySem.W.Frag} {mg : Str → Option Value} {base : Heap} {CV CB CT PN : Addr}
theorem ok_Bridge_ticks_until_left {f : Addr} {fd : FuncData} (F : L2.Fun K "ticks_until_left" "Bridge.ticks_until_left" s_Bridge_ticks_until_left f fd) (T : Txt K mg CV CB CT PN) (c_copied : Met P w K mg base 4 CB "copied" (sp_copied K CV CB)) (c_tick : Met P w K mg base 4 CB "tick" (sp_tick K CV CB)) : FnOk P w K mg base CX0 5 f fd ["self", "number"] (sp_ticks_until_left K CV CB) := by
  refine F.ok sc_Bridge_ticks_until_left (fun vs H Q E h => ?_) (fun cdv Ar outer s H vs Q E hr h => ?_)
  · obtain ⟨b, A, m, i, n, rfl, _⟩ := h
    rfl
  · have hu := hu_of hr
    refine ⟨_, (pss_cons (ps_set (i := 2) sc_Bridge_ticks_until_left.nd rfl (Or.inl rfl) (pe_m0 c_copied hr (by decide) (pv 0)))
      (pss_cons (ps_set (i := 3) sc_Bridge_ticks_until_left.nd rfl (Or.inl rfl) (pe_ix ix_list (pe_fld (pv 2) rfl) (pv 1) (fun _ _ => rfl)))
      (pss_cons (ps_while PassesOwn.never (pt_cmpR op_ne (pe_fld (pv 3) rfl) (gl T.g_HAS_LEFT) (nomark _)) (pss_one (ps_expr (pe_m0 c_tick hr (by decide) (pv 2)))))
      (pss_one (ps_ret (pe_op op_sub (pe_fld (pv 2) rfl) (pe_fld (pv 0) rfl))))))), ?_⟩
    obtain ⟨b, A, m, i, n, rfl, B, ok, hi, h2, hn2, k⟩ := h
    refine ⟨_, rfl, b, A.dx, _, rfl, B.ob, zno (by decide +kernel), ?_⟩
    refine ⟨b, A, m, rfl, B, ok, fun c A1 H1 B1 f1 s1 => ?_⟩
    refine ⟨_, rfl, B1.r_came T ?_⟩
    refine ⟨_, rfl, ?_⟩
    refine ⟨A1.came, _, _, _, rfl, rfl, SqL.of B1.l_came, atI_nat (B1.came_at hi), ?_⟩
    refine ⟨fun r σ H' => ∃ A', r ≤ n ∧ σ = [some (.ref b), some (nat i), some (.ref c), some (.ref (A1.at_ i))] ∧ A'.cars = A1.cars ∧ Br CV CB H' c A' (m.ticks (n - r)) ∧ (∀ a ∈ own c A', H a = none) ∧ Same H H',
      ⟨n, A1, Nat.le_refl _, rfl, rfl, by rw [Nat.sub_self]; exact B1, f1, s1⟩, ?_⟩
    rintro r σ H' ⟨A', hr', rfl, ec, B', f', s'⟩
    have hi' : i < (m.ticks (n - r)).cars.length := by rw [ticks_num _ ok]; exact hi
    have ea : A1.at_ i = A'.at_ i := by unfold Adr.at_; rw [ec]
    refine ⟨_, rfl, ?_⟩
    rw [ea]
    refine B'.v_place T hi' ?_
    refine ⟨rfl, _, rfl, ?_⟩
    rw [show V.int 2 = nat 2 from rfl, dec_nat]
    cases r with
    | zero =>
      refine itF (by rw [Nat.sub_zero]; simp [h2]) ?_
      have Bs := B.same s'
      refine ⟨_, rfl, B'.r_time T ?_⟩
      refine ⟨_, rfl, Bs.r_time T ?_⟩
      refine ⟨_, _, rfl, rfl, ?_⟩
      show Q (.int (((m.ticks (n - 0)).time : Int) - (m.time : Int))) H'
      rw [Nat.sub_zero, ticks_time n m ok, show ((m.time + n : Nat) : Int) - (m.time : Int) = ((n : Nat) : Int) by omega]
      exact k H' s'
    | succ r =>
      refine itT (by simp [hn2 (n - (r + 1)) (by omega)]) ?_
      refine ⟨fun σ' H'' => ∃ A'', r ≤ n ∧ σ' = [some (.ref b), some (nat i), some (.ref c), some (.ref (A'.at_ i))] ∧ A''.cars = A1.cars ∧ Br CV CB H'' c A'' (m.ticks (n - r)) ∧ (∀ a ∈ own c A'', H a = none) ∧ Same H H'', fun σ' H'' h => ⟨r, Nat.lt_succ_self r, h⟩, ?_⟩
      refine ⟨_, rfl, c, A'.dx, _, rfl, B'.ob, zno (by decide +kernel), ?_⟩
      refine ⟨c, A', _, rfl, B', ok.ticks, fun p A'' H'' np ec' B'' st pn hp => ?_⟩
      refine ⟨A'', by omega, rfl, ec'.trans ec, ?_, fresh_step s' st f', same_step s' st f'⟩
      rw [show n - r = (n - (r + 1)) + 1 by omega, ticks_succ]
      exact B''
/-! ### what calls share -/
theorem ofN_map (l : List Nat) : (M.ofN l).map V.int = nums l := by
  unfold M.ofN
  rw [List.map_map]
  rfl
/-- the answer is a list made last -/
theorem ans {H H1 : Hp} {b : Addr} {A A1 : Adr} {m1 : M} {xs ys : List V} {Q : VK} (B1 : Br CV CB H1 b A1 m1) (st : Step (own b A) H (own b A1) H1)
    (k : ∀ A' H' p, Br CV CB H' b A' m1 → Step (own b A) H (own b A') H' → p ∉ own b A' → (∀ c o, H c = some o → c ∉ own b A → c ≠ p) → H' p = some (.lst ys) → Q (.ref p) H') {p : Addr} (np : H1 p = none) (e : xs = ys) : Q (.ref p) (upd H1 p (.lst xs)) := by
  subst e
  exact k A1 _ p (B1.same (same_new np)) (st.trans (Step.same (same_new np))) (B1.away np) (fun c o ec nc => ne_of_none (st.keep c o ec nc) np) upd_same
/-- the answer is a list that another def made -/
theorem ansR {H H1 H2 : Hp} {b : Addr} {A A1 : Adr} {m1 : M} {xs ys : List V} {Q : VK} (B1 : Br CV CB H1 b A1 m1) (st : Step (own b A) H (own b A1) H1)
    (k : ∀ A' H' p, Br CV CB H' b A' m1 → Step (own b A) H (own b A') H' → p ∉ own b A' → (∀ c o, H c = some o → c ∉ own b A → c ≠ p) → H' p = some (.lst ys) → Q (.ref p) H') {p : Addr} (np : H1 p = none) (s : Same H1 H2) (hp : H2 p = some (.lst xs)) (e : xs = ys) : Q (.ref p) H2 := by
  subst e
  exact k A1 _ p (B1.same s) (st.trans (Step.same s)) (B1.away np) (fun c o ec nc => ne_of_none (st.keep c o ec nc) np) hp
theorem arg_at {a : List Nat} {j : Nat} (h : j < a.length) : atI (nums a) (j : Int) = some (nat (a.getD j 0)) := atI_nat (getD_nums h)
theorem arg0 {a : List Nat} (h : 0 < a.length) : atI (nums a) 0 = some (nat (a.getD 0 0)) := arg_at (j := 0) h
theorem arg1 {a : List Nat} (h : 1 < a.length) : atI (nums a) 1 = some (nat (a.getD 1 0)) := arg_at (j := 1) h
theorem in01 (d : Nat) : inV (nat d) [V.int 0, V.int 1] = decide (d ≤ 1) := by
  show ((0 == (d : Int)) || ((1 == (d : Int)) || false)) = decide (d ≤ 1)
  rcases (by omega : d = 0 ∨ d = 1 ∨ 2 ≤ d) with rfl | rfl | h
  · rfl
  · rfl
  · rw [show ((0 : Int) == (d : Int)) = false by rw [beq_eq_false_iff_ne]; omega, show ((1 : Int) == (d : Int)) = false by rw [beq_eq_false_iff_ne]; omega]
    rw [decide_eq_false (by omega)]
    rfl
theorem came_len {H : Hp} {b : Addr} {A : Adr} {m : M} (B : Br CV CB H b A m) : ((A.cars.map (·.1)).map V.ref).length = m.cars.length := by rw [List.length_map, List.length_map, B.len]
theorem ok_comes {f : Addr} {fd : FuncData} (F : L2.Fun K "comes" "comes" s_comes f fd) (T : Txt K mg CV CB CT PN) (c_is_within : Cal P w K mg base 1 "is_within" (sp_is_within K CV CB)) (c_add_vehicle : Met P w K mg base 3 CB "add_vehicle" (sp_add_vehicle K CV CB)) (c_least_limit : Met P w K mg base 1 CB "least_limit" (sp_least_limit K CV CB)) : FnOk P w K mg base CX0 4 f fd ["bridge", "numbers"] (sp_comes K CV CB) := by
  refine F.ok sc_comes (fun vs H Q E h => ?_) (fun cdv Ar outer s H vs Q E hr h => ?_)
  · obtain ⟨b, A, m, q, a, rfl, _⟩ := h
    rfl
  · have hu := hu_of hr
    refine ⟨_, (pss_cons (ps_set (i := 2) sc_comes.nd rfl (Or.inl rfl) (pe_ix ix_list (pv 1) pe_int (fun _ _ => rfl)))
      (pss_cons (ps_set (i := 3) sc_comes.nd rfl (Or.inl rfl) (pe_ix ix_list (pv 1) pe_int (fun _ _ => rfl)))
      (pss_cons (ps_if (PW.pt (pw_or (pt_cmpR op_notIn_seq (pv 2) (pe_tup (pa_cons (gl T.g_LEFT) (pa_cons (gl T.g_RIGHT) pa_nil))) (by rfl)) (pw_or1 (pt_not (pt_val (pe_c c_is_within hr (by decide) (pa_cons (pv 3) (pa_cons (gl T.g_MOST_WEIGHT) pa_nil)))))))) (pss_one (ps_ret (pe_lst (pa_cons (pe_un un_neg pe_int) pa_nil)))) pss_nil)
      (pss_cons (ps_if (pt_cmpR op_ge (pe_callB call_len_seq (by rfl) T.b_len (by decide +kernel) (pa_cons (pe_fld (pv 0) rfl) pa_nil)) (gl T.g_MOST_VEHICLES) (nomark _)) (pss_one (ps_ret (pe_lst (pa_cons (pe_un un_neg pe_int) pa_nil)))) pss_nil)
      (pss_cons (ps_if (pt_cmpR op_gt (pv 3) (pe_m0 c_least_limit hr (by decide) (pv 0)) (nomark _)) (pss_one (ps_ret (pe_lst (pa_cons (pe_un un_neg pe_int) pa_nil)))) pss_nil)
      (pss_one (ps_ret (pe_lst (pa_cons (pe_m c_add_vehicle hr (by decide) (pv 0) (pa_cons (pv 2) (pa_cons (pv 3) pa_nil))) pa_nil))))))))), ?_⟩
    obtain ⟨b, A, m, q, a, rfl, B, ok, hq, nq, hlen, k⟩ := h
    have hsl := sizeLine_eq
    have hl : a.length = 2 := hlen
    unfold M.comesM at k
    refine ⟨_, rfl, q, _, _, _, rfl, rfl, SqL.of hq, arg0 (by omega), ?_⟩
    refine ⟨_, rfl, q, _, _, _, rfl, rfl, SqL.of hq, arg1 (by omega), ?_⟩
    generalize a.getD 0 0 = d at k ⊢
    generalize a.getD 1 0 = wt at k ⊢
    refine ⟨_, rfl, (by show 2 ≤ sizeLine; omega), fun t nt => ?_⟩
    have s1 : Same H (upd H t (.tup [V.int 0, V.int 1])) := same_new nt
    refine ⟨t, _, rfl, .inr (SqT.of upd_same), rfl, rfl, _, rfl, ?_⟩
    rw [if_pos rfl, in01]
    have B1 := B.same s1
    have st1 : Step (own b A) H (own b A) _ := Step.same s1
    have hq1 := s1 _ _ hq
    generalize upd H t (.tup [V.int 0, V.int 1]) = H1 at s1 B1 st1 hq1 ⊢
    by_cases c1 : d ≤ 1
    · rw [if_pos (decide_eq_true c1)] at k
      rw [decide_eq_true c1]
      refine itF rfl ?_
      refine ⟨_, rfl, wt, 1000, rfl, ?_⟩
      refine ⟨_, rfl, ?_⟩
      by_cases c2 : 1 ≤ wt ∧ wt ≤ 1000
      · rw [if_pos (decide_eq_true c2)] at k
        rw [decide_eq_true c2]
        refine itF rfl ?_
        refine ⟨_, rfl, B1.r_came T ?_⟩
        refine ⟨A.came, _, rfl, .inl (SqL.of B1.l_came), ?_⟩
        refine ⟨_, _, rfl, rfl, _, rfl, ?_⟩
        rw [came_len B1, show (60 : Int) = ((60 : Nat) : Int) from rfl, decide_le]
        by_cases c3 : 60 ≤ m.cars.length
        · rw [if_pos c3] at k
          refine itT (decide_eq_true c3) ?_
          exact ⟨_, rfl, (by show 1 ≤ sizeLine; omega), fun p np => ans B1 st1 k np rfl⟩
        · rw [if_neg c3] at k
          refine itF (decide_eq_false c3) ?_
          refine ⟨_, rfl, _, rfl, b, A.dx, _, rfl, B1.ob, zno (by decide +kernel), ?_⟩
          refine ⟨b, A, m, rfl, B1, ok, ?_⟩
          refine ⟨_, _, rfl, rfl, _, rfl, ?_⟩
          rw [decide_lt]
          by_cases c4 : m.least < wt
          · rw [if_pos c4] at k
            refine itT (decide_eq_true c4) ?_
            exact ⟨_, rfl, (by show 1 ≤ sizeLine; omega), fun p np => ans B1 st1 k np rfl⟩
          · rw [if_neg c4] at k
            refine itF (decide_eq_false c4) ?_
            refine ⟨_, rfl, b, A.dx, _, rfl, B1.ob, zno (by decide +kernel), _, rfl, _, rfl, ?_⟩
            refine ⟨b, A, m, d, wt, rfl, B1, ok, c1, by omega, fun A2 H2 B2 st2 => ?_⟩
            exact ⟨(by show 1 ≤ sizeLine; omega), fun p np => ans B2 (st1.trans st2) k np rfl⟩
      · rw [if_neg (by simp [c2])] at k
        rw [decide_eq_false c2]
        refine itT rfl ?_
        exact ⟨_, rfl, (by show 1 ≤ sizeLine; omega), fun p np => ans B1 st1 k np rfl⟩
    · rw [if_neg (by simp [c1])] at k
      rw [decide_eq_false c1]
      refine itT rfl ?_
      refine itT rfl ?_
      exact ⟨_, rfl, (by show 1 ≤ sizeLine; omega), fun p np => ans B1 st1 k np rfl⟩
end
end OL


namespace OL
open PySem PySem.Spec PyProof.Rows L2
section
variable {P : Program} {w : World} {K : PySem.W.Frag} {mg : Str → Option Value} {base : Heap} {CV CB CT PN : Addr}
theorem ok_gives {f : Addr} {fd : FuncData} (F : L2.Fun K "gives" "gives" s_gives f fd) (T : Txt K mg CV CB CT PN) (c_take_from_waiting : Met P w K mg base 2 CB "take_from_waiting" (sp_take_from_waiting K CV CB)) (c_how_many_wait : Met P w K mg base 1 CB "how_many_wait" (sp_how_many_wait K CV CB)) : FnOk P w K mg base CX0 3 f fd ["bridge", "numbers"] (sp_gives K CV CB) := by
  refine F.ok sc_gives (fun vs H Q E h => ?_) (fun cdv Ar outer s H vs Q E hr h => ?_)
  · obtain ⟨b, A, m, q, a, rfl, _⟩ := h
    rfl
  · have hu := hu_of hr
    refine ⟨_, (pss_cons (ps_set (i := 2) sc_gives.nd rfl (Or.inl rfl) (pe_ix ix_list (pv 1) pe_int (fun _ _ => rfl)))
      (pss_cons (ps_if (pt_cmpR op_ge (pv 2) (pe_callB call_len_seq (by rfl) T.b_len (by decide +kernel) (pa_cons (pe_fld (pv 0) rfl) pa_nil)) (nomark _)) (pss_one (ps_ret (pe_lst (pa_cons (pe_un un_neg pe_int) pa_nil)))) pss_nil)
      (pss_cons (ps_set (i := 3) sc_gives.nd rfl (Or.inl rfl) (pe_ix ix_list (pe_fld (pv 0) rfl) (pv 2) (fun _ _ => rfl)))
      (pss_cons (ps_if (pt_cmpR op_ne (pe_fld (pv 3) rfl) (gl T.g_WAITS) (nomark _)) (pss_one (ps_ret (pe_lst (pa_cons (pe_un un_neg pe_int) pa_nil)))) pss_nil)
      (pss_cons (ps_expr (pe_m c_take_from_waiting hr (by decide) (pv 0) (pa_cons (pv 3) (pa_cons (gl T.g_GAVE_UP) pa_nil))))
      (pss_one (ps_ret (pe_lst (pa_cons (pe_m0 c_how_many_wait hr (by decide) (pv 0)) pa_nil))))))))), ?_⟩
    obtain ⟨b, A, m, q, a, rfl, B, ok, hq, nq, hlen, k⟩ := h
    have hsl := sizeLine_eq
    have hl : a.length = 1 := hlen
    unfold M.givesM at k
    refine ⟨_, rfl, q, _, _, _, rfl, rfl, SqL.of hq, arg0 (by omega), ?_⟩
    generalize a.getD 0 0 = i at k ⊢
    refine ⟨_, rfl, _, rfl, B.r_came T ?_⟩
    refine ⟨A.came, _, rfl, .inl (SqL.of B.l_came), ?_⟩
    refine ⟨_, _, rfl, rfl, _, rfl, ?_⟩
    rw [came_len B, decide_le]
    by_cases c1 : m.cars.length ≤ i
    · rw [if_pos c1] at k
      refine itT (decide_eq_true c1) ?_
      exact ⟨_, rfl, (by show 1 ≤ sizeLine; omega), fun p np => ans B Step.refl k np rfl⟩
    · rw [if_neg c1] at k
      refine itF (decide_eq_false c1) ?_
      have hi : i < m.cars.length := by omega
      refine ⟨_, rfl, B.r_came T ?_⟩
      refine ⟨_, rfl, ?_⟩
      refine ⟨A.came, _, _, _, rfl, rfl, SqL.of B.l_came, atI_nat (B.came_at hi), ?_⟩
      refine ⟨_, rfl, B.v_place T hi ?_⟩
      refine ⟨rfl, _, rfl, ?_⟩
      rw [show V.int 0 = nat 0 from rfl, dec_nat]
      by_cases c2 : (m.car i).place = 0
      · rw [if_pos c2] at k
        refine itF (by simp [c2]) ?_
        have hs := ok.csd i hi
        refine ⟨_, rfl, b, A.dx, _, rfl, B.ob, zno (by decide +kernel), _, rfl, ?_⟩
        refine ⟨b, A, m, i, 3, rfl, B, hi, hs, ok.win i hi c2, ok.wnd _ hs, fun j hj => (ok.wt _ hs j hj).1, fun H1 B1 st1 => ?_⟩
        refine ⟨_, rfl, b, A.dx, _, rfl, B1.ob, zno (by decide +kernel), ?_⟩
        refine ⟨b, A, _, rfl, B1, ?_⟩
        exact ⟨(by show 1 ≤ sizeLine; omega), fun p np => ans B1 st1 k np rfl⟩
      · rw [if_neg c2] at k
        refine itT (by simp [c2]) ?_
        exact ⟨_, rfl, (by show 1 ≤ sizeLine; omega), fun p np => ans B Step.refl k np rfl⟩
theorem row_map (n : Nat) (l : List Nat) : (M.row n l).map V.int = nums (n :: l.length :: l) := ofN_map _
theorem ok_ticks {f : Addr} {fd : FuncData} (F : L2.Fun K "ticks" "ticks" s_ticks f fd) (T : Txt K mg CV CB CT PN) (c_is_within : Cal P w K mg base 1 "is_within" (sp_is_within K CV CB)) (c_with_row : Cal P w K mg base 1 "with_row" (sp_with_row K CV CB)) (c_tick : Met P w K mg base 4 CB "tick" (sp_tick K CV CB)) : FnOk P w K mg base CX0 5 f fd ["bridge", "numbers"] (sp_ticks K CV CB) := by
  refine F.ok sc_ticks (fun vs H Q E h => ?_) (fun cdv Ar outer s H vs Q E hr h => ?_)
  · obtain ⟨b, A, m, q, a, rfl, _⟩ := h
    rfl
  · have hu := hu_of hr
    refine ⟨_, (pss_cons (ps_set (i := 2) sc_ticks.nd rfl (Or.inl rfl) (pe_ix ix_list (pv 1) pe_int (fun _ _ => rfl)))
      (pss_cons (ps_if (pt_not (pt_val (pe_c c_is_within hr (by decide) (pa_cons (pv 2) (pa_cons (gl T.g_MOST_TICKS) pa_nil))))) (pss_one (ps_ret (pe_lst (pa_cons (pe_un un_neg pe_int) pa_nil)))) pss_nil)
      (pss_cons (ps_set (i := 3) sc_ticks.nd rfl (Or.inl rfl) (pe_lst pa_nil))
      (pss_cons (ps_for PassesOwn.never rfl (pi_range1 (by rfl) T.b_range (pa_cons (pv 2) pa_nil)) (pg_name (i := 4) sc_ticks.nd rfl (Or.inl rfl))
        (pss_one (ps_expr (pe_bm PySem.F.plainAttrs_list PySem.F.slot_list_extend PySem.F.type_list_extend mt_extend (pv 3) (pa_cons (pe_m0 c_tick hr (by decide) (pv 0)) pa_nil)))))
      (pss_one (ps_ret (pe_c c_with_row hr (by decide) (pa_cons (pe_fld (pv 0) rfl) (pa_cons (pv 3) pa_nil))))))))), ?_⟩
    obtain ⟨b, A, m, q, a, rfl, B, ok, hq, nq, hlen, k⟩ := h
    have hsl := sizeLine_eq
    have hl : a.length = 1 := hlen
    unfold M.ticksM at k
    refine ⟨_, rfl, q, _, _, _, rfl, rfl, SqL.of hq, arg0 (by omega), ?_⟩
    generalize a.getD 0 0 = n at k ⊢
    refine ⟨_, rfl, n, 1000, rfl, ?_⟩
    refine ⟨_, rfl, ?_⟩
    by_cases c1 : 1 ≤ n ∧ n ≤ 1000
    · rw [if_pos (decide_eq_true c1)] at k
      rw [decide_eq_true c1]
      refine itF rfl ?_
      refine ⟨Nat.zero_le _, fun g ng => ?_⟩
      have s1 : Same H (upd H g (.lst [])) := same_new ng
      have gown := B.away ng
      refine ⟨_, rfl, n, rfl, by omega, by omega, ?_⟩
      refine for_range (lo := 0) (n := (n : Int).toNat) (fun i σ H' => ∃ A' v4, σ = [some (.ref b), some (.ref q), some (nat n), some (.ref g), v4] ∧ Br CV CB H' b A' (m.ticks i) ∧ Step (own b A) H (own b A') H' ∧ g ∉ own b A' ∧ H' g = some (.lst (nums (m.lefts i)))) ⟨A, _, rfl, B.same s1, Step.same s1, gown, upd_same⟩ ?_ ?_
      · rintro i σ H' hi ⟨A', v4, rfl, B', st, gn, hg⟩
        refine ⟨_, rfl, .inl ⟨rfl, _, SqL.of hg⟩, ?_⟩
        refine ⟨_, rfl, b, A'.dx, _, rfl, B'.ob, zno (by decide +kernel), ?_⟩
        refine ⟨b, A', _, rfl, B', ok.ticks, fun p A2 H2 np _ B2 st2 pn hp => ?_⟩
        have hg2 := st2.keep _ _ hg gn
        have ngp : g ≠ p := ne_of_none hg np
        have hll := lefts_len i ok
        have hll2 : (m.ticks i).left.length ≤ 60 := by
          have h2 := (leaves_sub (OK.ticks (n := i) ok).up).length_le
          have := (OK.ticks (n := i) ok).len
          have := (OK.ticks (n := i) ok).num
          have e : (m.ticks i).up.cross = (m.ticks i).cross := rfl
          rw [e] at h2
          unfold M.left
          omega
        have gn2 : g ∉ own b A2 := fun z => by
          rcases st2.grow g z with h | h
          · exact gn h
          · rw [hg] at h; cases h
        refine ⟨g, p, _, _, rfl, rfl, hg2, hp, by rw [nums_len, nums_len]; omega, ?_⟩
        refine ⟨A2, _, rfl, ?_, ?_, gn2, ?_⟩
        · rw [ticks_succ]
          exact B2.apart (Step.at_ (F := [g]) (List.mem_cons_self ..)) fun x hx z => by
            simp at z
            exact gn2 (z ▸ hx)
        · refine ⟨fun c o e nc => ?_, fun c hc => ?_⟩
          · have ne : c ≠ g := ne_of_none e ng
            rw [upd_ne ne]
            exact (st.trans st2).keep _ _ e nc
          · exact (st.trans st2).grow c hc
        · rw [upd_same, lefts_succ, nums_app]
      · rintro σ H' ⟨A', v4, rfl, B', st, gn, hg⟩
        rw [Int.toNat_natCast] at B' hg
        have hll := lefts_len n ok
        refine ⟨_, rfl, B'.r_time T ?_⟩
        refine ⟨_, rfl, ?_⟩
        refine ⟨_, g, _, rfl, hg, by omega, fun p H2 np s2 hp => ?_⟩
        exact ansR B' st k np s2 hp (row_map _ _).symm
    · rw [if_neg (by simp [c1])] at k
      rw [decide_eq_false c1]
      refine itT rfl ?_
      exact ⟨_, rfl, (by show 1 ≤ sizeLine; omega), fun p np => ans B Step.refl k np rfl⟩
theorem OK.setLim {m : M} (ok : OK m) (i n : Nat) : OK (m.setLimit i n) :=
  ⟨by show (m.limits.set i n).length = _; rw [List.length_set]; exact ok.lim, ok.mo, ok.ma, ok.some_, ok.few, ok.pos, ok.sd, ok.num, ok.csd, ok.wt, ok.wnd, ok.win, ok.cr, ok.cnd, ok.cin, ok.len⟩
theorem heavy_len {m : M} (ok : OK m) : m.heavy.length ≤ 60 := by
  have h : m.heavy.length ≤ (List.range m.cars.length).length := List.length_filter_le ..
  rw [List.length_range] at h
  have := ok.num
  omega
theorem ok_limit {f : Addr} {fd : FuncData} (F : L2.Fun K "limit" "limit" s_limit f fd) (T : Txt K mg CV CB CT PN) (c_is_within : Cal P w K mg base 1 "is_within" (sp_is_within K CV CB)) (c_numbers_of : Cal P w K mg base 1 "numbers_of" (sp_numbers_of K CV CB)) (c_with_row : Cal P w K mg base 1 "with_row" (sp_with_row K CV CB)) (c_send_heavy_away : Met P w K mg base 3 CB "send_heavy_away" (sp_send_heavy_away K CV CB)) : FnOk P w K mg base CX0 4 f fd ["bridge", "numbers"] (sp_limit K CV CB) := by
  refine F.ok sc_limit (fun vs H Q E h => ?_) (fun cdv Ar outer s H vs Q E hr h => ?_)
  · obtain ⟨b, A, m, q, a, rfl, _⟩ := h
    rfl
  · have hu := hu_of hr
    refine ⟨_, (pss_cons (ps_set (i := 2) sc_limit.nd rfl (Or.inl rfl) (pe_ix ix_list (pv 1) pe_int (fun _ _ => rfl)))
      (pss_cons (ps_set (i := 3) sc_limit.nd rfl (Or.inl rfl) (pe_ix ix_list (pv 1) pe_int (fun _ _ => rfl)))
      (pss_cons (ps_if (pt_not (pt_val (pe_c c_is_within hr (by decide) (pa_cons (pv 3) (pa_cons (gl T.g_MOST_LIMIT) pa_nil))))) (pss_one (ps_ret (pe_lst (pa_cons (pe_un un_neg pe_int) pa_nil)))) pss_nil)
      (pss_cons (ps_if (pt_cmpR op_ge (pv 2) (pe_callB call_len_seq (by rfl) T.b_len (by decide +kernel) (pa_cons (pe_fld (pv 0) rfl) pa_nil)) (nomark _)) (pss_one (ps_ret (pe_lst (pa_cons (pe_un un_neg pe_int) pa_nil)))) pss_nil)
      (pss_cons (ps_if (pt_truth (pe_fld (pv 0) rfl) (by intro _; rfl)) (pss_one (ps_ret (pe_lst (pa_cons (pe_un un_neg pe_int) pa_nil)))) pss_nil)
      (pss_cons (ps_asg (pv 3) (pg_sub (pe_fld (pv 0) rfl) (pv 2) set_list))
      (pss_cons (ps_set (i := 4) sc_limit.nd rfl (Or.inl rfl) (pe_m0 c_send_heavy_away hr (by decide) (pv 0)))
      (pss_one (ps_ret (pe_c c_with_row hr (by decide) (pa_cons (pe_callB call_len_seq (by rfl) T.b_len (by decide +kernel) (pa_cons (pv 4) pa_nil)) (pa_cons (pe_c c_numbers_of hr (by decide) (pa_cons (pv 4) pa_nil)) pa_nil)))))))))))), ?_⟩
    obtain ⟨b, A, m, q, a, rfl, B, ok, hq, nq, hlen, k⟩ := h
    have hsl := sizeLine_eq
    have hl : a.length = 2 := hlen
    unfold M.limitM at k
    refine ⟨_, rfl, q, _, _, _, rfl, rfl, SqL.of hq, arg0 (by omega), ?_⟩
    refine ⟨_, rfl, q, _, _, _, rfl, rfl, SqL.of hq, arg1 (by omega), ?_⟩
    generalize a.getD 0 0 = i at k ⊢
    generalize a.getD 1 0 = n at k ⊢
    refine ⟨_, rfl, n, 1000, rfl, ?_⟩
    refine ⟨_, rfl, ?_⟩
    by_cases c1 : 1 ≤ n ∧ n ≤ 1000
    · rw [if_pos (decide_eq_true c1)] at k
      rw [decide_eq_true c1]
      refine itF rfl ?_
      refine ⟨_, rfl, _, rfl, B.r_limits T ?_⟩
      refine ⟨A.lims, _, rfl, .inl (SqL.of B.l_lims), ?_⟩
      refine ⟨_, _, rfl, rfl, _, rfl, ?_⟩
      rw [nums_len, decide_le]
      by_cases c2 : m.limits.length ≤ i
      · rw [if_pos c2] at k
        refine itT (decide_eq_true c2) ?_
        exact ⟨_, rfl, (by show 1 ≤ sizeLine; omega), fun p np => ans B Step.refl k np rfl⟩
      · rw [if_neg c2] at k
        refine itF (decide_eq_false c2) ?_
        refine ⟨_, rfl, B.r_crossing T ?_⟩
        refine ⟨_, tru_refs B.l_cross, ?_⟩
        by_cases c3 : m.cross.isEmpty = true
        · rw [if_pos c3] at k
          rw [c3]
          refine itF rfl ?_
          refine ⟨_, rfl, _, rfl, B.r_limits T ?_⟩
          refine ⟨_, rfl, ?_⟩
          refine ⟨A.lims, _, _, i, rfl, rfl, B.l_lims, by rw [nums_len]; exact ixN_nat (by omega), ?_⟩
          have B1 := B.setL (m' := m.setLimit i n) 1 (a := A.lims) (o' := .lst ((nums m.limits).set i (nat n))) rfl rfl (by rw [← nums_set]; rfl) rfl
          have ok1 := ok.setLim i n
          have hl1 := heavy_len ok1
          refine ⟨_, rfl, b, A.dx, _, rfl, B1.ob, zno (by decide +kernel), ?_⟩
          refine ⟨b, A, m.setLimit i n, rfl, B1, ok1, fun p H2 np B2 st2 hp => ?_⟩
          have S2 := sends_all ok1 (l := (m.setLimit i n).heavy) (r := []) (List.append_nil _)
          refine ⟨_, rfl, ?_⟩
          refine ⟨p, _, rfl, .inl (SqL.of hp), ?_⟩
          refine ⟨_, rfl, ?_⟩
          refine ⟨b, p, A, _, (m.setLimit i n).heavy, rfl, B2, hp, fun j hj => ?_, by omega, fun p2 H3 np2 s3 hp2 => ?_⟩
          · show j < ((m.setLimit i n).send (m.setLimit i n).heavy).cars.length
            rw [S2.fix.num]
            exact (heavy_mem.mp hj).1
          · refine ⟨(m.setLimit i n).heavy.length, p2, (m.setLimit i n).heavy, ?_, hp2, by omega, fun p3 H4 np3 s4 hp3 => ?_⟩
            · rw [refs_len]
              rfl
            · refine ansR (B2.same s3) (((Step.at_ (B.mem_l 1 rfl)).trans st2).trans (Step.same s3)) k np3 s4 hp3 (row_map _ _).symm
        · rw [if_neg c3] at k
          rw [Bool.not_eq_true] at c3
          rw [c3]
          refine itT rfl ?_
          exact ⟨_, rfl, (by show 1 ≤ sizeLine; omega), fun p np => ans B Step.refl k np rfl⟩
    · rw [if_neg (by simp [c1])] at k
      rw [decide_eq_false c1]
      refine itT rfl ?_
      exact ⟨_, rfl, (by show 1 ≤ sizeLine; omega), fun p np => ans B Step.refl k np rfl⟩
theorem ok_shut {f : Addr} {fd : FuncData} (F : L2.Fun K "shut" "shut" s_shut f fd) (T : Txt K mg CV CB CT PN)  : FnOk P w K mg base CX0 1 f fd ["bridge", "numbers"] (sp_shut K CV CB) := by
  refine F.ok sc_shut (fun vs H Q E h => ?_) (fun cdv Ar outer s H vs Q E hr h => ?_)
  · obtain ⟨b, A, m, q, a, rfl, _⟩ := h
    rfl
  · have hu := hu_of hr
    refine ⟨_, (pss_cons (ps_set (i := 2) sc_shut.nd rfl (Or.inl rfl) (pe_ix ix_list (pv 1) pe_int (fun _ _ => rfl)))
      (pss_cons (ps_if (pt_cmpR op_notIn_seq (pv 2) (pe_tup (pa_cons pe_int (pa_cons pe_int pa_nil))) (by rfl)) (pss_one (ps_ret (pe_lst (pa_cons (pe_un un_neg pe_int) pa_nil)))) pss_nil)
      (pss_cons (ps_fld (pv 0) (pe_cmpR op_eq (pv 2) pe_int (nomark _)) rfl)
      (pss_one (ps_ret (pe_lst (pa_cons (pe_callB call_len_seq (by rfl) T.b_len (by decide +kernel) (pa_cons (pe_fld (pv 0) rfl) pa_nil)) pa_nil))))))), ?_⟩
    obtain ⟨b, A, m, q, a, rfl, B, ok, hq, nq, hlen, k⟩ := h
    have hsl := sizeLine_eq
    have hl : a.length = 1 := hlen
    unfold M.shutM at k
    refine ⟨_, rfl, q, _, _, _, rfl, rfl, SqL.of hq, arg0 (by omega), ?_⟩
    generalize a.getD 0 0 = d at k ⊢
    refine ⟨_, rfl, (by show 2 ≤ sizeLine; omega), fun t nt => ?_⟩
    have s1 : Same H (upd H t (.tup [V.int 0, V.int 1])) := same_new nt
    refine ⟨t, _, rfl, .inr (SqT.of upd_same), rfl, rfl, _, rfl, ?_⟩
    rw [if_pos rfl, in01]
    have B1 := B.same s1
    have st1 : Step (own b A) H (own b A) _ := Step.same s1
    generalize upd H t (.tup [V.int 0, V.int 1]) = H1 at s1 B1 st1 ⊢
    by_cases c1 : d ≤ 1
    · rw [if_pos (decide_eq_true c1)] at k
      rw [decide_eq_true c1]
      refine itF rfl ?_
      refine ⟨_, rfl, rfl, ?_⟩
      rw [show V.int 1 = nat 1 from rfl, dec_nat]
      refine ⟨_, rfl, b, CB, _, _, rfl, B1.ob, T.clB, T.a_is_shut, small13 _ _, ?_⟩
      have B2 := B1.setF (m' := { m with shut := decide (d = 1) }) 9 (f := "is_shut") (y := .bl (decide (d = 1))) rfl rfl rfl rfl
      have st2 := st1.trans (Step.at_ (o := .ins CB A.dx (putF "is_shut" (.bl (decide (d = 1))) (bF A m))) B1.mem_b)
      refine ⟨_, rfl, B2.r_crossing T ?_⟩
      refine ⟨A.cross, _, rfl, .inl (SqL.of B2.l_cross), ?_⟩
      rw [refs_len]
      exact ⟨(by show 1 ≤ sizeLine; omega), fun p np => ans B2 st2 k np rfl⟩
    · rw [if_neg (by simp [c1])] at k
      rw [decide_eq_false c1]
      refine itT rfl ?_
      exact ⟨_, rfl, (by show 1 ≤ sizeLine; omega), fun p np => ans B1 st1 k np rfl⟩
theorem idx_first {l : List Nat} {i j : Nat} (h : l[j]? = some i) (hn : ∀ k, k < j → l[k]? ≠ some i) : l.idxOf i = j := by
  induction l generalizing j with
  | nil => simp at h
  | cons a r ih =>
    cases j with
    | zero =>
      have e : a = i := Option.some.inj h
      rw [e, List.idxOf_cons_self]
    | succ j =>
      have ne : a ≠ i := fun e => hn 0 (by omega) (by rw [e]; rfl)
      have e2 := ih (j := j) h fun k hk e => hn (k + 1) (by omega) e
      rw [List.idxOf_cons, beq_eq_false_iff_ne.mpr ne, e2]
      rfl
theorem ok_where {f : Addr} {fd : FuncData} (F : L2.Fun K "where" "where" s_where f fd) (T : Txt K mg CV CB CT PN) (c_with_row : Cal P w K mg base 1 "with_row" (sp_with_row K CV CB)) : FnOk P w K mg base CX0 2 f fd ["bridge", "numbers"] (sp_where K CV CB) := by
  refine F.ok sc_where (fun vs H Q E h => ?_) (fun cdv Ar outer s H vs Q E hr h => ?_)
  · obtain ⟨b, A, m, q, a, rfl, _⟩ := h
    rfl
  · have hu := hu_of hr
    refine ⟨_, (pss_cons (ps_set (i := 2) sc_where.nd rfl (Or.inl rfl) (pe_ix ix_list (pv 1) pe_int (fun _ _ => rfl)))
      (pss_cons (ps_if (pt_cmpR op_ge (pv 2) (pe_callB call_len_seq (by rfl) T.b_len (by decide +kernel) (pa_cons (pe_fld (pv 0) rfl) pa_nil)) (nomark _)) (pss_one (ps_ret (pe_lst (pa_cons (pe_un un_neg pe_int) pa_nil)))) pss_nil)
      (pss_cons (ps_set (i := 3) sc_where.nd rfl (Or.inl rfl) (pe_ix ix_list (pe_fld (pv 0) rfl) (pv 2) (fun _ _ => rfl)))
      (pss_cons (ps_if (pt_cmpR op_eq (pe_fld (pv 3) rfl) (gl T.g_WAITS) (nomark _)) (pss_one (ps_ret (pe_c c_with_row hr (by decide) (pa_cons (gl T.g_WAITS) (pa_cons (pe_lst (pa_cons (pe_bm PySem.F.plainAttrs_list PySem.F.slot_list_index PySem.F.type_list_index (mt_indexR T.eqV hu) (pe_ix ix_tup (pe_fld (pv 0) rfl) (pe_fld (pv 3) rfl) (fun _ _ => rfl)) (pa_cons (pv 3) pa_nil)) pa_nil)) pa_nil))))) pss_nil)
      (pss_cons (ps_if (pt_cmpR op_eq (pe_fld (pv 3) rfl) (gl T.g_CROSSES) (nomark _)) (pss_one (ps_ret (pe_c c_with_row hr (by decide) (pa_cons (gl T.g_CROSSES) (pa_cons (pe_lst (pa_cons (pe_fld (pv 3) rfl) pa_nil)) pa_nil))))) pss_nil)
      (pss_one (ps_ret (pe_c c_with_row hr (by decide) (pa_cons (pe_fld (pv 3) rfl) (pa_cons (pe_lst (pa_cons (pe_fld (pv 3) rfl) pa_nil)) pa_nil)))))))))), ?_⟩
    obtain ⟨b, A, m, q, a, rfl, B, ok, hq, nq, hlen, k⟩ := h
    have hsl := sizeLine_eq
    have hl : a.length = 1 := hlen
    unfold M.whereM at k
    refine ⟨_, rfl, q, _, _, _, rfl, rfl, SqL.of hq, arg0 (by omega), ?_⟩
    generalize a.getD 0 0 = i at k ⊢
    refine ⟨_, rfl, _, rfl, B.r_came T ?_⟩
    refine ⟨A.came, _, rfl, .inl (SqL.of B.l_came), ?_⟩
    refine ⟨_, _, rfl, rfl, _, rfl, ?_⟩
    rw [came_len B, decide_le]
    by_cases c1 : m.cars.length ≤ i
    · rw [if_pos c1] at k
      refine itT (decide_eq_true c1) ?_
      exact ⟨_, rfl, (by show 1 ≤ sizeLine; omega), fun p np => ans B Step.refl k np rfl⟩
    · rw [if_neg c1] at k
      refine itF (decide_eq_false c1) ?_
      have hi : i < m.cars.length := by omega
      refine ⟨_, rfl, B.r_came T ?_⟩
      refine ⟨_, rfl, ?_⟩
      refine ⟨A.came, _, _, _, rfl, rfl, SqL.of B.l_came, atI_nat (B.came_at hi), ?_⟩
      refine ⟨_, rfl, B.v_place T hi ?_⟩
      refine ⟨rfl, _, rfl, ?_⟩
      rw [show V.int 0 = nat 0 from rfl, dec_nat]
      by_cases c2 : (m.car i).place = 0
      · rw [if_pos c2] at k
        refine itT (decide_eq_true c2) ?_
        have hs := ok.csd i hi
        refine ⟨_, rfl, B.r_waiting T ?_⟩
        refine ⟨_, rfl, B.v_side T hi ?_⟩
        refine ⟨A.wait, _, _, _, rfl, rfl, SqT.of B.l_wait, atW hs, ?_⟩
        refine ⟨.inl ⟨rfl, _, SqL.of (B.l_at hs)⟩, _, rfl, ?_⟩
        have hlt : ∀ j ∈ m.wait (m.car i).side, j < m.cars.length := fun j hj => (ok.wt _ hs j hj).1
        obtain ⟨j, hj, hn⟩ := mem_first (ok.win i hi c2)
        obtain ⟨g1, g2⟩ := at_first B hlt hj hn
        rw [idx_first hj hn] at k
        refine ⟨_, A.at_ i, _, j, rfl, rfl, B.l_at hs, B.insts hlt, g1, g2, ?_⟩
        refine ⟨(by show 1 ≤ sizeLine; omega), fun t nt => ?_⟩
        refine ⟨0, t, [j], rfl, upd_same, by simp, fun p H2 np s2 hp => ?_⟩
        exact ansR (B.same (same_new nt)) (Step.same (same_new nt)) k np s2 hp (row_map _ _).symm
      · rw [if_neg c2] at k
        refine itF (decide_eq_false c2) ?_
        refine ⟨_, rfl, B.v_place T hi ?_⟩
        refine ⟨rfl, _, rfl, ?_⟩
        rw [show V.int 1 = nat 1 from rfl, dec_nat]
        by_cases c3 : (m.car i).place = 1
        · rw [if_pos c3] at k
          refine itT (decide_eq_true c3) ?_
          refine ⟨_, rfl, B.v_cell T hi ?_⟩
          refine ⟨(by show 1 ≤ sizeLine; omega), fun t nt => ?_⟩
          refine ⟨1, t, [(m.car i).cell], rfl, upd_same, by simp, fun p H2 np s2 hp => ?_⟩
          exact ansR (B.same (same_new nt)) (Step.same (same_new nt)) k np s2 hp (row_map _ _).symm
        · rw [if_neg c3] at k
          refine itF (decide_eq_false c3) ?_
          refine ⟨_, rfl, B.v_place T hi ?_⟩
          refine ⟨_, rfl, B.v_went_at T hi ?_⟩
          refine ⟨(by show 1 ≤ sizeLine; omega), fun t nt => ?_⟩
          refine ⟨_, t, [(m.car i).went], rfl, upd_same, by simp, fun p H2 np s2 hp => ?_⟩
          exact ansR (B.same (same_new nt)) (Step.same (same_new nt)) k np s2 hp (row_map _ _).symm
theorem ok_when {f : Addr} {fd : FuncData} (F : L2.Fun K "when" "when" s_when f fd) (T : Txt K mg CV CB CT PN) (c_ticks_until_left : Met P w K mg base 5 CB "ticks_until_left" (sp_ticks_until_left K CV CB)) (c_will_leave : Met P w K mg base 1 CB "will_leave" (sp_will_leave K CV CB)) : FnOk P w K mg base CX0 6 f fd ["bridge", "numbers"] (sp_when K CV CB) := by
  refine F.ok sc_when (fun vs H Q E h => ?_) (fun cdv Ar outer s H vs Q E hr h => ?_)
  · obtain ⟨b, A, m, q, a, rfl, _⟩ := h
    rfl
  · have hu := hu_of hr
    refine ⟨_, (pss_cons (ps_set (i := 2) sc_when.nd rfl (Or.inl rfl) (pe_ix ix_list (pv 1) pe_int (fun _ _ => rfl)))
      (pss_cons (ps_if (pt_cmpR op_ge (pv 2) (pe_callB call_len_seq (by rfl) T.b_len (by decide +kernel) (pa_cons (pe_fld (pv 0) rfl) pa_nil)) (nomark _)) (pss_one (ps_ret (pe_lst (pa_cons (pe_un un_neg pe_int) pa_nil)))) pss_nil)
      (pss_cons (ps_if (pt_not (pt_val (pe_m c_will_leave hr (by decide) (pv 0) (pa_cons (pe_ix ix_list (pe_fld (pv 0) rfl) (pv 2) (fun _ _ => rfl)) pa_nil)))) (pss_one (ps_ret (pe_lst (pa_cons (pe_un un_neg pe_int) pa_nil)))) pss_nil)
      (pss_one (ps_ret (pe_lst (pa_cons (pe_m c_ticks_until_left hr (by decide) (pv 0) (pa_cons (pv 2) pa_nil)) pa_nil))))))), ?_⟩
    obtain ⟨b, A, m, q, a, rfl, B, ok, hq, nq, hpre, k⟩ := h
    have hsl := sizeLine_eq
    obtain ⟨hl, hgo⟩ := hpre
    unfold M.whenM at k
    refine ⟨_, rfl, q, _, _, _, rfl, rfl, SqL.of hq, arg0 (by omega), ?_⟩
    generalize a.getD 0 0 = i at k hgo ⊢
    refine ⟨_, rfl, _, rfl, B.r_came T ?_⟩
    refine ⟨A.came, _, rfl, .inl (SqL.of B.l_came), ?_⟩
    refine ⟨_, _, rfl, rfl, _, rfl, ?_⟩
    rw [came_len B, decide_le]
    by_cases c1 : m.cars.length ≤ i
    · rw [if_pos c1] at k
      refine itT (decide_eq_true c1) ?_
      exact ⟨_, rfl, (by show 1 ≤ sizeLine; omega), fun p np => ans B Step.refl k np rfl⟩
    · rw [if_neg c1] at k
      refine itF (decide_eq_false c1) ?_
      have hi : i < m.cars.length := by omega
      refine ⟨_, rfl, b, A.dx, _, rfl, B.ob, zno (by decide +kernel), ?_⟩
      refine ⟨_, rfl, B.r_came T ?_⟩
      refine ⟨_, rfl, ?_⟩
      refine ⟨A.came, _, _, _, rfl, rfl, SqL.of B.l_came, atI_nat (B.came_at hi), ?_⟩
      refine ⟨b, A, m, i, rfl, B, hi, ?_⟩
      refine ⟨_, rfl, ?_⟩
      by_cases c2 : m.willLeave i = true
      · rw [if_pos c2] at k
        obtain ⟨h1, h2⟩ := hgo hi c2
        unfold M.willLeave at c2
        rw [c2]
        refine itF rfl ?_
        refine ⟨_, rfl, b, A.dx, _, rfl, B.ob, zno (by decide +kernel), _, rfl, ?_⟩
        refine ⟨b, A, m, i, _, rfl, B, ok, hi, h1, h2, fun H1 s1 => ?_⟩
        exact ⟨(by show 1 ≤ sizeLine; omega), fun p np => ans (B.same s1) (Step.same s1) k np rfl⟩
      · rw [if_neg c2] at k
        rw [Bool.not_eq_true] at c2
        unfold M.willLeave at c2
        rw [c2]
        refine itT rfl ?_
        exact ⟨_, rfl, (by show 1 ≤ sizeLine; omega), fun p np => ans B Step.refl k np rfl⟩
theorem cr_cells {m : M} (ok : OK m) : ∀ i ∈ m.cross, i < m.cars.length ∧ (m.car i).cell < m.N := fun i hi => ⟨(ok.cr i hi).1, (ok.cr i hi).2.2⟩
theorem cross_few {m : M} (ok : OK m) : m.cross.length ≤ 60 := by have := ok.len; have := ok.num; omega
theorem wait_few {m : M} (ok : OK m) {d : Nat} (hd : d ≤ 1) : (m.wait d).length ≤ 60 := by
  have := ok.len
  have := ok.num
  have e0 : m.w0 = m.wait 0 := rfl
  have e1 : m.w1 = m.wait 1 := rfl
  rcases (by omega : d = 0 ∨ d = 1) with rfl | rfl
  · rw [← e0]; omega
  · rw [← e1]; omega
theorem ok_loads {f : Addr} {fd : FuncData} (F : L2.Fun K "loads" "loads" s_loads f fd) (T : Txt K mg CV CB CT PN) (c_with_row : Cal P w K mg base 1 "with_row" (sp_with_row K CV CB)) (c_borne : Met P w K mg base 1 CB "borne" (sp_borne K CV CB)) : FnOk P w K mg base CX0 2 f fd ["bridge", "numbers"] (sp_loads K CV CB) := by
  refine F.ok sc_loads (fun vs H Q E h => ?_) (fun cdv Ar outer s H vs Q E hr h => ?_)
  · obtain ⟨b, A, m, q, a, rfl, _⟩ := h
    rfl
  · have hu := hu_of hr
    refine ⟨_, (pss_one (ps_ret (pe_c c_with_row hr (by decide) (pa_cons (pe_callB call_len_seq (by rfl) T.b_len (by decide +kernel) (pa_cons (pe_fld (pv 0) rfl) pa_nil)) (pa_cons (pe_m0 c_borne hr (by decide) (pv 0)) pa_nil))))), ?_⟩
    obtain ⟨b, A, m, q, a, rfl, B, ok, hq, nq, hpre, k⟩ := h
    have hsl := sizeLine_eq
    refine ⟨_, rfl, B.r_crossing T ?_⟩
    refine ⟨A.cross, _, rfl, .inl (SqL.of B.l_cross), ?_⟩
    rw [refs_len]
    refine ⟨_, rfl, b, A.dx, _, rfl, B.ob, zno (by decide +kernel), ?_⟩
    refine ⟨b, A, m, rfl, B, cr_cells ok, ok.few, fun p H1 np s1 hp => ?_⟩
    have hbl : m.borne.length = m.cells.length := by unfold M.borne; rw [borne_len, List.length_replicate]
    have := ok.few
    refine ⟨_, p, _, rfl, hp, by omega, fun p2 H2 np2 s2 hp2 => ?_⟩
    exact ansR (B.same s1) (Step.same s1) k np2 s2 hp2 (row_map _ _).symm
theorem ok_queue {f : Addr} {fd : FuncData} (F : L2.Fun K "queue" "queue" s_queue f fd) (T : Txt K mg CV CB CT PN) (c_numbers_of : Cal P w K mg base 1 "numbers_of" (sp_numbers_of K CV CB)) (c_with_row : Cal P w K mg base 1 "with_row" (sp_with_row K CV CB)) : FnOk P w K mg base CX0 2 f fd ["bridge", "numbers"] (sp_queue K CV CB) := by
  refine F.ok sc_queue (fun vs H Q E h => ?_) (fun cdv Ar outer s H vs Q E hr h => ?_)
  · obtain ⟨b, A, m, q, a, rfl, _⟩ := h
    rfl
  · have hu := hu_of hr
    refine ⟨_, (pss_cons (ps_set (i := 2) sc_queue.nd rfl (Or.inl rfl) (pe_ix ix_list (pv 1) pe_int (fun _ _ => rfl)))
      (pss_cons (ps_if (pt_cmpR op_notIn_seq (pv 2) (pe_tup (pa_cons (gl T.g_LEFT) (pa_cons (gl T.g_RIGHT) pa_nil))) (by rfl)) (pss_one (ps_ret (pe_lst (pa_cons (pe_un un_neg pe_int) pa_nil)))) pss_nil)
      (pss_cons (ps_set (i := 3) sc_queue.nd rfl (Or.inl rfl) (pe_ix ix_tup (pe_fld (pv 0) rfl) (pv 2) (fun _ _ => rfl)))
      (pss_one (ps_ret (pe_c c_with_row hr (by decide) (pa_cons (pe_callB call_len_seq (by rfl) T.b_len (by decide +kernel) (pa_cons (pv 3) pa_nil)) (pa_cons (pe_c c_numbers_of hr (by decide) (pa_cons (pv 3) pa_nil)) pa_nil)))))))), ?_⟩
    obtain ⟨b, A, m, q, a, rfl, B, ok, hq, nq, hlen, k⟩ := h
    have hsl := sizeLine_eq
    have hl : a.length = 1 := hlen
    unfold M.queueM at k
    refine ⟨_, rfl, q, _, _, _, rfl, rfl, SqL.of hq, arg0 (by omega), ?_⟩
    generalize a.getD 0 0 = d at k ⊢
    refine ⟨_, rfl, (by show 2 ≤ sizeLine; omega), fun t nt => ?_⟩
    have s1 : Same H (upd H t (.tup [V.int 0, V.int 1])) := same_new nt
    refine ⟨t, _, rfl, .inr (SqT.of upd_same), rfl, rfl, _, rfl, ?_⟩
    rw [if_pos rfl, in01]
    have B1 := B.same s1
    have st1 : Step (own b A) H (own b A) _ := Step.same s1
    generalize upd H t (.tup [V.int 0, V.int 1]) = H1 at s1 B1 st1 ⊢
    by_cases c1 : d ≤ 1
    · rw [if_pos (decide_eq_true c1)] at k
      rw [decide_eq_true c1]
      refine itF rfl ?_
      refine ⟨_, rfl, B1.r_waiting T ?_⟩
      refine ⟨_, rfl, ?_⟩
      refine ⟨A.wait, _, _, _, rfl, rfl, SqT.of B1.l_wait, atW c1, ?_⟩
      refine ⟨_, rfl, ?_⟩
      refine ⟨_, _, rfl, .inl (SqL.of (B1.l_at c1)), ?_⟩
      rw [refs_len]
      have hw := wait_few ok c1
      refine ⟨_, rfl, ?_⟩
      refine ⟨b, _, A, m, m.wait d, rfl, B1, B1.l_at c1, fun j hj => (ok.wt d c1 j hj).1, by omega, fun p H2 np s2 hp => ?_⟩
      refine ⟨_, p, _, rfl, hp, by omega, fun p2 H3 np2 s3 hp2 => ?_⟩
      exact ansR (B1.same s2) (st1.trans (Step.same s2)) k np2 s3 hp2 (row_map _ _).symm
    · rw [if_neg (by simp [c1])] at k
      rw [decide_eq_false c1]
      refine itT rfl ?_
      exact ⟨_, rfl, (by show 1 ≤ sizeLine; omega), fun p np => ans B1 st1 k np rfl⟩
theorem ok_most {f : Addr} {fd : FuncData} (F : L2.Fun K "most" "most" s_most f fd) (T : Txt K mg CV CB CT PN) (c_by_twos : Cal P w K mg base 1 "by_twos" (sp_by_twos K CV CB)) (c_with_row : Cal P w K mg base 1 "with_row" (sp_with_row K CV CB)) : FnOk P w K mg base CX0 2 f fd ["bridge", "numbers"] (sp_most K CV CB) := by
  refine F.ok sc_most (fun vs H Q E h => ?_) (fun cdv Ar outer s H vs Q E hr h => ?_)
  · obtain ⟨b, A, m, q, a, rfl, _⟩ := h
    rfl
  · have hu := hu_of hr
    refine ⟨_, (pss_one (ps_ret (pe_c c_with_row hr (by decide) (pa_cons pe_int (pa_cons (pe_c c_by_twos hr (by decide) (pa_cons (pe_fld (pv 0) rfl) (pa_cons (pe_fld (pv 0) rfl) pa_nil))) pa_nil))))), ?_⟩
    obtain ⟨b, A, m, q, a, rfl, B, ok, hq, nq, hpre, k⟩ := h
    have hsl := sizeLine_eq
    have h1 := ok.mo
    have h2 := ok.ma
    have h3 := ok.few
    refine ⟨_, rfl, B.r_most_borne T ?_⟩
    refine ⟨_, rfl, B.r_most_borne_at T ?_⟩
    refine ⟨A.most, A.mostAt, m.most, m.mostAt, rfl, B.l_most, B.l_mostAt, by omega, by omega, fun p H1 np s1 hp => ?_⟩
    refine ⟨0, p, M.twos m.most m.mostAt, rfl, hp, ?_, fun p2 H2 np2 s2 hp2 => ?_⟩
    · unfold M.twos
      rw [twos_len, List.length_zip]
      omega
    · exact ansR (B.same s1) (Step.same s1) k np2 s2 hp2 (row_map _ _).symm
end
end OL


namespace OL
open PySem PySem.Spec PyProof.Rows L2
def sp_begins (K : PySem.W.Frag) (CV CB : Addr) : Sp := spCall CV CB begins_ M.beginsM
/-- where the call at a place ends -/
def endM (xs : List Nat) (s : Nat) : Nat := s + 1 + argLen (xs.getD s 0) (xs.drop (s + 1))
def sp_end_of_call (K : PySem.W.Frag) (CV CB : Addr) : Sp := fun vs H Q _ => ∃ (q : Addr) (xs : List Nat) (s : Nat), vs = [.ref q, nat s] ∧ SqL K H q (nums xs) ∧ s < xs.length ∧ xs.getD s 0 < 12 ∧ (xs.getD s 0 = 0 → s + 2 < xs.length) ∧ Q (nat (endM xs s)) H
def sp_answers (K : PySem.W.Frag) (CV CB : Addr) : Sp := fun vs H Q _ => ∃ (q : Addr) (xs : List Nat), vs = [.ref q] ∧ SqL K H q (nums xs) ∧ xs.length ≤ 5040 ∧ GoodRun xs.length (M.fresh 1 [1] [1]) xs ∧ (runM xs.length (M.fresh 1 [1] [1]) xs).length ≤ 2000000 ∧
  ∀ H' p, H' p = some (.lst ((runM xs.length (M.fresh 1 [1] [1]) xs).map V.int)) → Q (.ref p) H'
theorem yes_go {te : TE} {σ : L2.St} {H : Hp} {Q1 : VK} {Q0 : Hp → Prop} (h : te σ H Q1) : tYes σ H fun b H3 => if b = true then te σ H3 Q1 else Q0 H3 := h
theorem cut_from (xs : List V) (n : Nat) : cutV xs (some (n : Int)) none = xs.drop n := by
  unfold cutV
  rw [HT.sIx_nat, HT.sIx_none, List.take_of_length_le (by rw [List.length_drop]; omega)]
  by_cases h : n ≤ xs.length
  · rw [Nat.min_eq_left h]
  · rw [Nat.min_eq_right (by omega), List.drop_eq_nil_of_le (Nat.le_refl _), List.drop_eq_nil_of_le (by omega)]
theorem cut_both (xs : List V) (n k : Nat) (h : n ≤ k) (hk : k ≤ xs.length) : cutV xs (some (n : Int)) (some (k : Int)) = (xs.drop n).take (k - n) := by
  unfold cutV
  rw [HT.sIx_nat, HT.sIx_nat, Nat.min_eq_left (show n ≤ xs.length by omega), Nat.min_eq_left hk]
theorem nums_drop (l : List Nat) (n : Nat) : (nums l).drop n = nums (l.drop n) := (List.map_drop ..).symm
theorem nums_take (l : List Nat) (n : Nat) : (nums l).take n = nums (l.take n) := (List.map_take ..).symm
theorem every_nums (l : List Nat) (c : Nat) : every ((nums l).drop c) = nums (every (l.drop c)) := by rw [nums_drop, every_map]
/-- what a play of calls needs to know of a def: it keeps the promise of the call of its place -/
def HS (CV CB : Addr) (fs : List Addr) (f : Addr) (sp : Sp) : Prop := ∃ c, c < 12 ∧ fs[c]? = some f ∧ sp = spCall CV CB (preM c) (M.callM c)
theorem OK_fresh1 : OK (M.fresh 1 [1] [1]) := by
  refine ⟨rfl, rfl, rfl, by decide, by decide, by decide, by decide, by decide, ?_, ?_, ?_, ?_, ?_, by decide, ?_, by decide⟩
  · intro i h; exact absurd h (by show ¬ i < 0; omega)
  · intro d hd i hi
    have : (M.fresh 1 [1] [1]).wait d = [] := by unfold M.wait; split <;> rfl
    rw [this] at hi; cases hi
  · intro d hd
    have : (M.fresh 1 [1] [1]).wait d = [] := by unfold M.wait; split <;> rfl
    rw [this]; exact List.nodup_nil
  · intro i h; exact absurd h (by show ¬ i < 0; omega)
  · intro i h; cases h
  · intro i h; exact absurd h (by show ¬ i < 0; omega)
section
variable {P : Program} {w : World} {K : PySem.W.Frag} {mg : Str → Option Value} {base : Heap} {CV CB CT PN : Addr}
theorem ok_are_spans {f : Addr} {fd : FuncData} (F : L2.Fun K "are_spans" "are_spans" s_are_spans f fd) (T : Txt K mg CV CB CT PN) (c_is_within : Cal P w K mg base 1 "is_within" (sp_is_within K CV CB)) : FnOk P w K mg base CX0 2 f fd ["spans"] (sp_are_spans K CV CB) := by
  refine F.ok sc_are_spans (fun vs H Q E h => ?_) (fun cdv Ar outer s H vs Q E hr h => ?_)
  · obtain ⟨l, xs, rfl, _⟩ := h
    rfl
  · have hu := hu_of hr
    refine ⟨_, (pss_cons (ps_if (PW.pt (pw_or (pt_cmpR op_ne (pe_op op_mod (pe_callB call_len_seq (by rfl) T.b_len (by decide +kernel) (pa_cons (pv 0) pa_nil)) pe_int) pe_int (nomark _)) (pw_or1 (pt_not (pt_val (pe_c c_is_within hr (by decide) (pa_cons (pe_op op_fdiv (pe_callB call_len_seq (by rfl) T.b_len (by decide +kernel) (pa_cons (pv 0) pa_nil)) pe_int) (pa_cons (gl T.g_MOST_SPANS) pa_nil)))))))) (pss_one (ps_ret pe_bl)) pss_nil)
      (pss_cons (ps_set (i := 1) sc_are_spans.nd rfl (Or.inl rfl) (pe_callB (cr_all rfl) (by rfl) T.b_all (by decide +kernel) (pa_cons (pe_lc (own := [("many", 2)]) (g := gName 2) (te := (tCall (sp_is_within K CV CB) [] E0 (tCons (tVar 2) (tCons (tC (.int 5)) tNil)))) (tt := tYes) (by rfl) sc_are_spans.nd (pi_list (pe_two 0 (pv 0))) (blkOk_by (own := [("many", 2)]) (N := n_are_spans) (sc := defScope s_are_spans) (by decide +kernel)) (fun _ _ _ _ _ => pg_name (i := 2) sc_are_spans.nd rfl (Or.inl rfl)) (fun _ _ _ _ _ => by exact pts_nil) (fun _ _ _ _ _ => by exact (pe_c c_is_within hr (by decide) (pa_cons (pv 2) (pa_cons (gl T.g_MOST_CELLS) pa_nil))))) pa_nil)))
      (pss_one (ps_ret (pe_and (pv 1) (pe_one (pe_callB (cr_all rfl) (by rfl) T.b_all (by decide +kernel) (pa_cons (pe_lc (own := [("bound", 3)]) (g := gName 3) (te := (tCall (sp_is_within K CV CB) [] E0 (tCons (tVar 3) (tCons (tC (.int 1000)) tNil)))) (tt := tYes) (by rfl) sc_are_spans.nd (pi_list (pe_two 1 (pv 0))) (blkOk_by (own := [("bound", 3)]) (N := n_are_spans) (sc := defScope s_are_spans) (by decide +kernel)) (fun _ _ _ _ _ => pg_name (i := 3) sc_are_spans.nd rfl (Or.inl rfl)) (fun _ _ _ _ _ => by exact pts_nil) (fun _ _ _ _ _ => by exact (pe_c c_is_within hr (by decide) (pa_cons (pv 3) (pa_cons (gl T.g_MOST_LIMIT) pa_nil))))) pa_nil)))))))), ?_⟩
    obtain ⟨l, xs, rfl, hl, hz, k⟩ := h
    have hsl := sizeLine_eq
    unfold areSpans at k
    refine ⟨_, rfl, l, _, rfl, .inl (SqL.of hl), ?_⟩
    refine ⟨_, _, rfl, rfl, (by show (0 : Int) < 2; decide), ?_⟩
    have e1 : V.int (((nums xs).length : Int) % 2) = nat (xs.length % 2) := by
      rw [nums_len]
      show V.int _ = V.int _
      congr 1
    refine ⟨rfl, !decide (xs.length % 2 = 0), ?_, ?_⟩
    · show V.bl (!decide (V.int (((nums xs).length : Int) % 2) = V.int 0)) = _
      rw [e1, show V.int 0 = nat 0 from rfl, dec_nat]
    by_cases c1 : xs.length % 2 = 0
    · rw [decide_eq_true c1] at k ⊢
      refine itF rfl ?_
      refine ⟨_, rfl, l, _, rfl, .inl (SqL.of hl), ?_⟩
      refine ⟨_, _, rfl, rfl, ⟨by decide, by decide⟩, ?_⟩
      rw [nums_len]
      refine ⟨xs.length / 2, 12, ?_, ?_⟩
      · show [V.int ((xs.length : Int) / 2), V.int 12] = _
        rw [show (xs.length : Int) / 2 = ((xs.length / 2 : Nat) : Int) by omega]
        rfl
      refine ⟨_, rfl, ?_⟩
      by_cases c2 : 1 ≤ xs.length / 2 ∧ xs.length / 2 ≤ 12
      · rw [decide_eq_true c2] at k ⊢
        refine itF rfl ?_
        rw [Bool.true_and, Bool.true_and] at k
        have one : ∀ (c top : Nat) (H1 : Hp) (Q1 : VK) (σ : L2.St) (j : Nat), j < σ.length → Same H H1 → top ≤ 1000 → σ[0]? = some (some (.ref l)) → (∀ D H', H1 D = none → Same H1 H' → H' D = some (.lst (((every (xs.drop c)).map fun n => decide (1 ≤ n ∧ n ≤ top)).map V.bl)) → Q1 (.ref D) H') →
            tLc (iList K (tTwo K c (tVar 0))) (gName j) tYes (tCall (sp_is_within K CV CB) [] E0 (tCons (tVar j) (tCons (tC (.int (top : Int))) tNil))) [j] σ H1 Q1 := fun c top H1 Q1 σ j hj s1 htop hσ fin => by
          refine ⟨_, hσ, l, _, rfl, SqL.of (s1 _ _ hl), fun p np => ?_⟩
          rw [every_nums]
          refine ⟨p, rfl, ⟨_, SqL.of upd_same⟩, fun D nD => ?_⟩
          have s2 : Same H1 (upd H1 p (.lst (nums (every (xs.drop c))))) := same_new np
          have hlen : (every (xs.drop c)).length ≤ 60 := by rw [every_len, List.length_drop]; omega
          refine lc_list (K := K) (a := p) (xs := nums (every (xs.drop c))) (fun i H' => Same (upd H1 p (.lst (nums (every (xs.drop c))))) H' ∧ H' D = some (.lst ((((every (xs.drop c)).take i).map fun n => decide (1 ≤ n ∧ n ≤ top)).map V.bl))) ⟨same_new nD, upd_same⟩ (fun i H' _ h => SqL.of (h.1 _ _ upd_same)) (fun i x H' hx h => ?_) (fun H' h => ?_)
          · obtain ⟨s, hD⟩ := h
            obtain ⟨n, hn, rfl⟩ := nums_at hx
            refine ⟨?_, ?_⟩
            · show (((σ.set j none).set j (some (nat n))).set j none) = σ.set j none
              rw [List.set_set, List.set_set]
            · refine yes_go ?_
              refine ⟨_, (by
                show ((σ.set j none).set j (some (nat n)))[j]? = some (some (nat n))
                rw [List.getElem?_set_self (by rw [List.length_set]; exact hj)]), n, top, rfl, ?_⟩
              refine ⟨_, hD, by rw [List.length_map, List.length_map, List.length_take]; omega, same_at s nD, ?_⟩
              rw [upd_same, take_one hn, List.map_append, List.map_append]
              rfl
          · obtain ⟨s, hD⟩ := h
            rw [nums_len, List.take_length] at hD
            exact fin D H' (s2.free nD) (s2.trans s) hD
        unfold tNext tSeq tAsg tCB tCons
        dsimp only
        refine one 0 5 H _ _ 2 (by show 2 < 4; decide) (Same.refl H) (by decide) rfl fun D H1 nD s1 hD => ?_
        refine ⟨D, (every (xs.drop 0)).map fun n => decide (1 ≤ n ∧ n ≤ 5), rfl, SqL.of hD, ?_⟩
        rw [all_dec]
        refine ⟨_, rfl, _, rfl, ?_⟩
        by_cases c3 : ((every (xs.drop 0)).all fun n => decide (1 ≤ n ∧ n ≤ 5)) = true
        · rw [c3] at k ⊢
          rw [Bool.true_and] at k
          refine itT rfl ?_
          refine one 1 1000 H1 _ _ 3 (by show 3 < 4; decide) s1 (by decide) rfl fun D2 H2 nD2 s2 hD2 => ?_
          refine ⟨D2, (every (xs.drop 1)).map fun n => decide (1 ≤ n ∧ n ≤ 1000), rfl, SqL.of hD2, ?_⟩
          rw [all_dec]
          exact k H2 (s1.trans s2)
        · rw [Bool.not_eq_true] at c3
          rw [c3] at k ⊢
          refine itF rfl ?_
          exact k H1 s1
      · rw [decide_eq_false c2] at k ⊢
        refine itT rfl ?_
        exact k H (Same.refl H)
    · rw [decide_eq_false c1] at k ⊢
      refine itT rfl ?_
      exact k H (Same.refl H)
theorem ok_begins {f : Addr} {fd : FuncData} (F : L2.Fun K "begins" "begins" s_begins f fd) (T : Txt K mg CV CB CT PN) (c_are_spans : Cal P w K mg base 2 "are_spans" (sp_are_spans K CV CB)) (c_is_within : Cal P w K mg base 1 "is_within" (sp_is_within K CV CB)) (c_renew : Met P w K mg base 1 CB "renew" (sp_renew K CV CB)) : FnOk P w K mg base CX0 3 f fd ["bridge", "numbers"] (sp_begins K CV CB) := by
  refine F.ok sc_begins (fun vs H Q E h => ?_) (fun cdv Ar outer s H vs Q E hr h => ?_)
  · obtain ⟨b, A, m, q, a, rfl, _⟩ := h
    rfl
  · have hu := hu_of hr
    refine ⟨_, (pss_cons (ps_set (i := 2) sc_begins.nd rfl (Or.inl rfl) (pe_ix ix_list (pv 1) pe_int (fun _ _ => rfl)))
      (pss_cons (ps_set (i := 3) sc_begins.nd rfl (Or.inl rfl) (pe_slice sl_list (pv 1) (po_some pe_int) po_none))
      (pss_cons (ps_if (PW.pt (pw_or (pt_not (pt_val (pe_c c_is_within hr (by decide) (pa_cons (pv 2) (pa_cons (gl T.g_MOST_TURN) pa_nil))))) (pw_or1 (pt_not (pt_val (pe_c c_are_spans hr (by decide) (pa_cons (pv 3) pa_nil))))))) (pss_one (ps_ret (pe_lst (pa_cons (pe_un un_neg pe_int) pa_nil)))) pss_nil)
      (pss_cons (ps_expr (pe_m c_renew hr (by decide) (pv 0) (pa_cons (pv 2) (pa_cons (pe_two 0 (pv 3)) (pa_cons (pe_two 1 (pv 3)) pa_nil)))))
      (pss_one (ps_ret (pe_lst (pa_cons (pe_callB call_len_seq (by rfl) T.b_len (by decide +kernel) (pa_cons (pe_fld (pv 0) rfl) pa_nil)) pa_nil)))))))), ?_⟩
    obtain ⟨b, A, m, q, a, rfl, B, ok, hq, nq, hlen, k⟩ := h
    have hsl := sizeLine_eq
    obtain ⟨l1, l2⟩ := hlen
    unfold M.beginsM at k
    refine ⟨_, rfl, q, _, _, _, rfl, rfl, SqL.of hq, arg0 (by omega), ?_⟩
    refine ⟨_, rfl, 2, rfl, q, _, rfl, SqL.of hq, fun p np => ?_⟩
    rw [show cutV (nums a) (some 2) none = nums (a.drop 2) from (cut_from (nums a) 2).trans (nums_drop a 2)]
    have s1 : Same H (upd H p (.lst (nums (a.drop 2)))) := same_new np
    have hp : upd H p (.lst (nums (a.drop 2))) p = some (.lst (nums (a.drop 2))) := upd_same
    have B1 := B.same s1
    have st1 : Step (own b A) H (own b A) _ := Step.same s1
    generalize upd H p (.lst (nums (a.drop 2))) = H1 at s1 hp B1 st1 ⊢
    have l3 : (a.drop 2).length ≤ 60 := by rw [List.length_drop]; omega
    generalize a.getD 0 0 = t at k ⊢
    generalize a.drop 2 = xs at k hp l3 ⊢
    refine ⟨_, rfl, t, 20, rfl, ?_⟩
    refine ⟨_, rfl, ?_⟩
    by_cases c1 : 1 ≤ t ∧ t ≤ 20
    · rw [if_pos (decide_eq_true c1)] at k
      rw [decide_eq_true c1]
      refine itF rfl ?_
      refine ⟨_, rfl, p, xs, rfl, hp, l3, fun H2 s2 => ?_⟩
      refine ⟨_, rfl, ?_⟩
      have B2 := B1.same s2
      have hp2 := s2 _ _ hp
      have st2 := st1.trans (Step.same s2)
      by_cases c2 : areSpans xs = true
      · rw [if_pos c2] at k
        rw [c2]
        refine itF rfl ?_
        refine ⟨_, rfl, b, A.dx, _, rfl, B2.ob, zno (by decide +kernel), ?_⟩
        refine ⟨_, rfl, ?_⟩
        refine ⟨_, rfl, p, _, rfl, SqL.of hp2, fun p3 np3 => ?_⟩
        rw [every_nums]
        have s3 : Same H2 (upd H2 p3 (.lst (nums (every (xs.drop 0))))) := same_new np3
        refine ⟨_, rfl, p, _, rfl, SqL.of (s3 _ _ hp2), fun p4 np4 => ?_⟩
        rw [every_nums]
        have s4 : Same _ (upd (upd H2 p3 (.lst (nums (every (xs.drop 0))))) p4 (.lst (nums (every (xs.drop 1))))) := same_new np4
        unfold areSpans at c2
        rw [Bool.and_eq_true, Bool.and_eq_true, Bool.and_eq_true] at c2
        obtain ⟨⟨⟨g1, g2⟩, g3⟩, g4⟩ := c2
        have g2' := of_decide_eq_true g2
        have g3' := List.all_eq_true.mp g3
        have B4 := (B2.same s3).same s4
        refine ⟨b, A.dx, p3, p4, _, t, every (xs.drop 0), every (xs.drop 1), rfl, B4.ob, .inr ⟨_, _, rfl⟩, s4 _ _ upd_same, upd_same, by rw [every_len]; show (xs.length + 1) / 2 ≤ 12; have g1' := of_decide_eq_true g1; omega, fun c hc => (of_decide_eq_true (g3' c hc)).2, fun A5 H5 _ B5 st5 => ?_⟩
        have st : Step (own b A) H (own b A5) H5 := (st2.trans (Step.same (s3.trans s4))).trans (st5.wide fun x hx => by simp at hx; rw [hx]; exact B.mem_b)
        refine ⟨_, rfl, B5.r_span_of T ?_⟩
        refine ⟨A5.spans, _, rfl, .inl (SqL.of B5.l_spans), ?_⟩
        rw [nums_len]
        exact ⟨(by show 1 ≤ sizeLine; omega), fun p np => ans B5 st k np rfl⟩
      · rw [if_neg c2] at k
        rw [Bool.not_eq_true] at c2
        rw [c2]
        refine itT rfl ?_
        exact ⟨_, rfl, (by show 1 ≤ sizeLine; omega), fun p np => ans B2 st2 k np rfl⟩
    · rw [if_neg (by simp [c1])] at k
      rw [decide_eq_false c1]
      refine itT rfl ?_
      exact ⟨_, rfl, (by show 1 ≤ sizeLine; omega), fun p np => ans B1 st1 k np rfl⟩
theorem ok_end_of_call {f : Addr} {fd : FuncData} (F : L2.Fun K "end_of_call" "end_of_call" s_end_of_call f fd) (T : Txt K mg CV CB CT PN)  : FnOk P w K mg base CX0 1 f fd ["calls", "start"] (sp_end_of_call K CV CB) := by
  refine F.ok sc_end_of_call (fun vs H Q E h => ?_) (fun cdv Ar outer s H vs Q E hr h => ?_)
  · obtain ⟨q, xs, s, rfl, _⟩ := h
    rfl
  · have hu := hu_of hr
    refine ⟨_, (pss_cons (ps_set (i := 2) sc_end_of_call.nd rfl (Or.inl rfl) (pe_op op_add (pe_op op_add (pv 1) pe_int) (pe_ix ix_tup (gl T.g_PLAIN_NUMBERS) (pe_ix ix_list (pv 0) (pv 1) (fun _ _ => rfl)) (fun _ _ => rfl))))
      (pss_cons (ps_if (pt_cmpR op_eq (pe_ix ix_list (pv 0) (pv 1) (fun _ _ => rfl)) (gl T.g_BEGINS) (nomark _)) (pss_one (ps_aug (i := 2) sc_end_of_call.nd rfl (Or.inl rfl) (pe_op op_add pe_int (pe_ix ix_list (pv 0) (pv 2) (fun _ _ => rfl))) ip_add)) pss_nil)
      (pss_one (ps_ret (pv 2))))), ?_⟩
    obtain ⟨q, xs, s, rfl, hq, hs, hc, h0, k⟩ := h
    have hat : atI (nums xs) (s : Int) = some (nat (xs.getD s 0)) := arg_at hs
    refine ⟨_, rfl, _, _, rfl, rfl, ?_⟩
    refine ⟨_, rfl, ?_⟩
    refine ⟨_, rfl, q, _, _, _, rfl, rfl, hq, hat, ?_⟩
    have hpl : atI (nums plains) ((xs.getD s 0 : Nat) : Int) = some (nat (plains.getD (xs.getD s 0) 0)) := arg_at (by show _ < 12; exact hc)
    refine ⟨PN, _, _, _, rfl, rfl, T.plain _, hpl, ?_⟩
    refine ⟨_, _, rfl, rfl, ?_⟩
    refine ⟨_, rfl, _, rfl, q, _, _, _, rfl, rfl, hq, hat, ?_⟩
    refine ⟨rfl, _, rfl, ?_⟩
    rw [show V.int 0 = nat 0 from rfl, dec_nat]
    unfold endM argLen at k
    by_cases c : xs.getD s 0 = 0
    · refine itT (decide_eq_true c) ?_
      rw [if_pos c] at k
      have e0 : plains.getD (xs.getD s 0) 0 = 1 := by rw [c]; rfl
      have h2 : atI (nums xs) ((s : Int) + 1 + ((plains.getD (xs.getD s 0) 0 : Nat) : Int)) = some (nat (xs.getD (s + 2) 0)) := by
        rw [e0, show (s : Int) + 1 + ((1 : Nat) : Int) = ((s + 2 : Nat) : Int) by omega]
        exact arg_at (h0 c)
      refine ⟨_, rfl, _, rfl, _, rfl, ?_⟩
      refine ⟨q, _, _, _, rfl, rfl, hq, h2, ?_⟩
      refine ⟨_, _, rfl, rfl, ?_⟩
      refine ⟨_, _, rfl, rfl, ?_⟩
      refine ⟨_, rfl, ?_⟩
      have e1 : (xs.drop (s + 1)).getD 1 0 = xs.getD (s + 2) 0 := by
        rw [List.getD_eq_getElem?_getD, List.getElem?_drop, List.getD_eq_getElem?_getD]
      rw [e1] at k
      show Q (.int ((s : Int) + 1 + ((plains.getD (xs.getD s 0) 0 : Nat) : Int) + (1 + ((xs.getD (s + 2) 0 : Nat) : Int)))) H
      rw [e0, show (s : Int) + 1 + ((1 : Nat) : Int) + (1 + ((xs.getD (s + 2) 0 : Nat) : Int)) = ((s + 1 + (2 + xs.getD (s + 2) 0) : Nat) : Int) by omega]
      exact k
    · refine itF (decide_eq_false c) ?_
      rw [if_neg c] at k
      refine ⟨_, rfl, ?_⟩
      show Q (.int ((s : Int) + 1 + ((plains.getD (xs.getD s 0) 0 : Nat) : Int))) H
      rw [show (s : Int) + 1 + ((plains.getD (xs.getD s 0) 0 : Nat) : Int) = ((s + 1 + plains.getD (xs.getD s 0) 0 : Nat) : Int) by omega]
      exact k
end
end OL


namespace OL
open PySem PySem.Spec PyProof.Rows L2
theorem rows_take {rs : List (List Nat)} {i : Nat} {r : List Nat} (h : rs[i]? = some r) : ((rs.take (i + 1)).flatMap fun r => r.length :: r) = ((rs.take i).flatMap fun r => r.length :: r) ++ (r.length :: r) := by
  rw [take_one h, List.flatMap_append]
  simp
theorem drop_at {xs : List Nat} {s : Nat} (h : s < xs.length) : xs.drop s = xs.getD s 0 :: xs.drop (s + 1) := by
  rw [List.drop_eq_getElem_cons h, List.getD_eq_getElem?_getD, List.getElem?_eq_getElem h]
  rfl
section
variable {P : Program} {w : World} {K : PySem.W.Frag} {mg : Str → Option Value} {base : Heap} {CV CB CT PN : Addr}
theorem ok_state {f : Addr} {fd : FuncData} (F : L2.Fun K "state" "state" s_state f fd) (T : Txt K mg CV CB CT PN) (c_by_twos : Cal P w K mg base 1 "by_twos" (sp_by_twos K CV CB)) (c_numbers_of : Cal P w K mg base 1 "numbers_of" (sp_numbers_of K CV CB)) : FnOk P w K mg base CX0 2 f fd ["bridge", "numbers"] (sp_state K CV CB) := by
  refine F.ok sc_state (fun vs H Q E h => ?_) (fun cdv Ar outer s H vs Q E hr h => ?_)
  · obtain ⟨b, A, m, q, a, rfl, _⟩ := h
    rfl
  · have hu := hu_of hr
    refine ⟨_, (pss_cons (ps_set (i := 2) sc_state.nd rfl (Or.inl rfl) (pe_lst (pa_cons (pe_fld (pv 0) rfl) (pa_cons (pe_fld (pv 0) rfl) (pa_cons (pe_fld (pv 0) rfl) (pa_cons (pe_ifExp (pt_val (pe_fld (pv 0) rfl)) pe_int pe_int) (pa_cons (pe_callB call_len_seq (by rfl) T.b_len (by decide +kernel) (pa_cons (pe_fld (pv 0) rfl) pa_nil)) pa_nil)))))))
      (pss_cons (ps_set (i := 3) sc_state.nd rfl (Or.inl rfl) (pe_c c_by_twos hr (by decide) (pa_cons (pe_fld (pv 0) rfl) (pa_cons (pe_fld (pv 0) rfl) pa_nil))))
      (pss_cons (ps_set (i := 4) sc_state.nd rfl (Or.inl rfl) (pe_c c_by_twos hr (by decide) (pa_cons (pe_c c_numbers_of hr (by decide) (pa_cons (pe_fld (pv 0) rfl) pa_nil)) (pa_cons (pe_lc (own := [("vehicle", 7)]) (g := gName 7) (te := (tFld K (tVar 7) "cell")) (tt := tYes) (by rfl) sc_state.nd (pi_list (pe_fld (pv 0) rfl)) (blkOk_by (own := [("vehicle", 7)]) (N := n_state) (sc := defScope s_state) (by decide +kernel)) (fun _ _ _ _ _ => pg_name (i := 7) sc_state.nd rfl (Or.inl rfl)) (fun _ _ _ _ _ => by exact pts_nil) (fun _ _ _ _ _ => by exact (pe_fld (pv 7) rfl))) pa_nil))))
      (pss_cons (ps_set (i := 5) sc_state.nd rfl (Or.inl rfl) (pe_lst (pa_cons (pe_fld (pv 0) rfl) pa_nil)))
      (pss_cons (ps_for PassesOwn.never rfl (pi_tup (pe_tup (pa_cons (pv 2) (pa_cons (pv 3) (pa_cons (pv 4) pa_nil))))) (pg_name (i := 6) sc_state.nd rfl (Or.inl rfl))
        (pss_cons (ps_expr (pe_bm PySem.F.plainAttrs_list PySem.F.slot_list_append PySem.F.type_list_append mt_append (pv 5) (pa_cons (pe_callB call_len_seq (by rfl) T.b_len (by decide +kernel) (pa_cons (pv 6) pa_nil)) pa_nil)))
      (pss_one (ps_expr (pe_bm PySem.F.plainAttrs_list PySem.F.slot_list_extend PySem.F.type_list_extend mt_extend (pv 5) (pa_cons (pv 6) pa_nil))))))
      (pss_one (ps_ret (pv 5)))))))), ?_⟩
    obtain ⟨b, A, m, q, a, rfl, B, ok, hq, nq, hpre, k⟩ := h
    have hsl := sizeLine_eq
    have hcf := cross_few ok
    have hfew := ok.few
    have hlim := ok.lim
    -- turns
    refine ⟨_, rfl, B.r_turn T ?_⟩
    refine ⟨_, rfl, B.r_open_side T ?_⟩
    refine ⟨_, rfl, B.r_entered T ?_⟩
    refine ⟨_, rfl, B.r_is_shut T ?_⟩
    refine ⟨_, rfl, ?_⟩
    have rest : ∀ (v : V), v = nat (if m.shut = true then 1 else 0) → ∀ (t : Addr) (H1 : Hp), H t = none → Same H H1 → H1 t = some (.lst [nat m.turn, nat m.side, nat m.gone, v, nat m.cars.length]) →
        tSeq (tAsg (tCall (sp_by_twos K CV CB) [] E0 (tCons (tFld K (tVar 0) "cells") (tCons (tFld K (tVar 0) "limits") tNil))) (gName 3))
          (tSeq (tAsg (tCall (sp_by_twos K CV CB) [] E0 (tCons (tCall (sp_numbers_of K CV CB) [] E0 (tCons (tFld K (tVar 0) "crossing") tNil)) (tCons (tLc (iList K (tFld K (tVar 0) "crossing")) (gName 7) tYes (tFld K (tVar 7) "cell") [7]) tNil))) (gName 4))
          (tSeq (tAsg (tLst (tCons (tFld K (tVar 0) "time") tNil)) (gName 5))
          (tSeq (tFor (iTup K (tTup (tCons (tVar 2) (tCons (tVar 3) (tCons (tVar 4) tNil))))) (gName 6)
            (tSeq (tDrop (tBM K "list" rAppend (tVar 5) (tCons (tCB (fun xs H Q => ∃ p ys, xs = [.ref p] ∧ (SqL K H p ys ∨ SqT K H p ys) ∧ Q (.int ys.length) H) (tCons (tVar 6) tNil)) tNil)))
              (tDrop (tBM K "list" rExtend (tVar 5) (tCons (tVar 6) tNil)))))
          (tRet (tVar 5))))) { nx := fun _ H' => Q .non H', rt := Q } [some (.ref b), some (.ref q), some (.ref t), none, none, none, none, none] H1 := fun v ev t H1 nt s1 ht => by
      have B1 := B.same s1
      -- spans
      refine ⟨_, rfl, B1.r_cells T ?_⟩
      refine ⟨_, rfl, B1.r_limits T ?_⟩
      refine ⟨A.cells, A.lims, m.cells, m.limits, rfl, B1.l_cells, B1.l_lims, by omega, by omega, fun u H2 nu s2 hu => ?_⟩
      have B2 := B1.same s2
      -- crossing
      refine ⟨_, rfl, B2.r_crossing T ?_⟩
      refine ⟨b, A.cross, A, m, m.cross, rfl, B2, B2.l_cross, fun j hj => (ok.cr j hj).1, by omega, fun c1 H3 nc1 s3 hc1 => ?_⟩
      have B3 := B2.same s3
      unfold tCons
      dsimp only
      refine lcM (K := K) (A := A) (l := m.cross) (fun i => nat (m.car i).cell) (fun R r => ⟨_, rfl, B3.r_crossing T r⟩) (SqL.of B3.l_cross) (by omega) (fun i hi H4 s Q1 g => ⟨_, rfl, (B3.same s).v_cell T (ok.cr i hi).1 (g H4 (Same.refl _))⟩) (fun c2 H4 nc2 s4 hc2 => ?_)
      have B4 := B3.same s4
      have ec2 : m.cross.map (fun i => nat (m.car i).cell) = nums (m.cross.map fun i => (m.car i).cell) := by
        show _ = List.map _ _
        rw [List.map_map]
        rfl
      rw [ec2] at hc2
      refine ⟨c1, c2, m.cross, m.cross.map fun i => (m.car i).cell, rfl, s4 _ _ hc1, hc2, by rw [List.length_map], by omega, fun x H5 nx s5 hx => ?_⟩
      have B5 := B4.same s5
      -- answer = [bridge.time]
      refine ⟨_, rfl, B5.r_time T ?_⟩
      refine ⟨(by show 1 ≤ sizeLine; omega), fun an nan => ?_⟩
      have s05 : Same H H5 := (((s1.trans s2).trans s3).trans s4).trans s5
      have sa : Same H5 (upd H5 an (.lst [nat m.time])) := same_new nan
      have nanH : H an = none := s05.free nan
      have t5 := s5 _ _ (s4 _ _ (s3 _ _ (s2 _ _ ht)))
      have u5 := s5 _ _ (s4 _ _ (s3 _ _ hu))
      have hrow : ∀ {H' : Hp}, Same H5 H' → ∀ (i : Nat) (r : List Nat), ([[m.turn, m.side, m.gone, if m.shut = true then 1 else 0, m.cars.length], M.twos m.cells m.limits, M.twos m.cross (m.cross.map fun i => (m.car i).cell)] : List (List Nat))[i]? = some r →
          ∃ ad : Addr, ([V.ref t, V.ref u, V.ref x] : List V)[i]? = some (V.ref ad) ∧ H' ad = some (.lst (nums r)) ∧ r.length ≤ 1000 := fun {H'} s i r hr => by
        have l1 : (M.twos m.cells m.limits).length ≤ 1000 := by unfold M.twos; rw [twos_len, List.length_zip]; omega
        have l2 : (M.twos m.cross (m.cross.map fun i => (m.car i).cell)).length ≤ 1000 := by unfold M.twos; rw [twos_len, List.length_zip]; omega
        match i, hr with
        | 0, hr =>
          have e := Option.some.inj hr
          subst e
          refine ⟨t, rfl, ?_, (by show 5 ≤ 1000; decide)⟩
          rw [s _ _ t5, ev]
          rfl
        | 1, hr =>
          have e := Option.some.inj hr
          subst e
          exact ⟨u, rfl, s _ _ u5, l1⟩
        | 2, hr =>
          have e := Option.some.inj hr
          subst e
          exact ⟨x, rfl, s _ _ hx, l2⟩
        | i + 3, hr => simp at hr
      refine ⟨_, rfl, _, rfl, _, rfl, (by show 3 ≤ sizeLine; omega), fun tp ntp => ?_⟩
      have st : Same (upd H5 an (.lst [nat m.time])) (upd (upd H5 an (.lst [nat m.time])) tp (.tup [.ref t, .ref u, .ref x])) := same_new ntp
      refine ⟨tp, rfl, ⟨_, SqT.of upd_same⟩, ?_⟩
      refine for_tup (K := K) (a := tp) (xs := [V.ref t, V.ref u, V.ref x]) (fun i σ H' => ∃ v6, σ = [some (.ref b), some (.ref q), some (.ref t), some (.ref u), some (.ref x), some (.ref an), v6, none] ∧ Same H5 H' ∧ H' tp = some (.tup [.ref t, .ref u, .ref x]) ∧
          H' an = some (.lst (nums (m.time :: (([[m.turn, m.side, m.gone, if m.shut = true then 1 else 0, m.cars.length], M.twos m.cells m.limits, M.twos m.cross (m.cross.map fun i => (m.car i).cell)].take i).flatMap fun r => r.length :: r))))) ⟨_, rfl, sa.trans st, upd_same, st _ _ upd_same⟩ (fun i σ H' _ h => ?_) ?_ ?_
      · obtain ⟨_, _, _, h, _⟩ := h
        exact SqT.of h
      · rintro i vx σ H' hv ⟨v6, rfl, s, htp, han⟩
        have hi : i < 3 := (List.getElem?_eq_some_iff.mp hv).1
        obtain ⟨r, hr⟩ : ∃ r, ([[m.turn, m.side, m.gone, if m.shut = true then 1 else 0, m.cars.length], M.twos m.cells m.limits, M.twos m.cross (m.cross.map fun i => (m.car i).cell)] : List (List Nat))[i]? = some r := ⟨_, List.getElem?_eq_getElem hi⟩
        obtain ⟨ad, had, hrr, hrl⟩ := hrow s i r hr
        have evx : vx = .ref ad := Option.some.inj (hv.symm.trans had)
        subst evx
        rw [rows_take hr]
        have hflat : ((([[m.turn, m.side, m.gone, if m.shut = true then 1 else 0, m.cars.length], M.twos m.cells m.limits, M.twos m.cross (m.cross.map fun i => (m.car i).cell)] : List (List Nat)).take i).flatMap fun r => r.length :: r).length ≤ 4000 := by
          have hr0 := hrow (Same.refl H5)
          match i, hi with
          | 0, _ => simp
          | 1, _ => simp
          | 2, _ =>
            obtain ⟨_, _, _, g1⟩ := hr0 1 _ rfl
            simp
            omega
        generalize ((([[m.turn, m.side, m.gone, if m.shut = true then 1 else 0, m.cars.length], M.twos m.cells m.limits, M.twos m.cross (m.cross.map fun i => (m.car i).cell)] : List (List Nat)).take i).flatMap fun r => r.length :: r) = done at han hflat ⊢
        have nad : ad ≠ an := fun e => by
          obtain ⟨ad2, h1, h2, _⟩ := hrow (Same.refl H5) i r hr
          have e2 : ad = ad2 := V.ref.inj (Option.some.inj (had.symm.trans h1))
          rw [← e2, e, nan] at h2
          cases h2
        have ntpan : tp ≠ an := (ne_of_none (upd_same : upd H5 an (.lst [nat m.time]) an = _) ntp).symm
        refine ⟨_, rfl, .inl ⟨rfl, _, SqL.of han⟩, ?_⟩
        refine ⟨_, rfl, ad, _, rfl, .inl (SqL.of hrr), ?_⟩
        refine ⟨an, _, _, rfl, rfl, han, by rw [nums_len, List.length_cons]; omega, ?_⟩
        have hrr2 : upd H' an (.lst (nums (m.time :: done) ++ [V.int ((nums r).length : Nat)])) ad = some (.lst (nums r)) := by rw [upd_ne nad]; exact hrr
        refine ⟨_, rfl, .inl ⟨rfl, _, SqL.of upd_same⟩, ?_⟩
        refine ⟨_, rfl, ?_⟩
        refine ⟨an, ad, _, _, rfl, rfl, upd_same, hrr2, by rw [List.length_append, nums_len, nums_len, List.length_cons]; show done.length + 1 + 1 + r.length ≤ sizeLine; omega, ?_⟩
        rw [upd_upd]
        refine ⟨_, rfl, same_at s nan, ?_, ?_⟩
        · rw [upd_ne ntpan]; exact htp
        · rw [upd_same, nums_len, ← List.cons_append, nums_app, List.append_assoc]
          rfl
      · rintro σ H' ⟨v6, rfl, s, _, han⟩
        refine ⟨_, rfl, ?_⟩
        have B' := B5.same s
        refine k A H' an B' (Step.same (s05.trans s)) (B.away nanH) (fun c o e _ => ne_of_none e nanH) ?_
        rw [han]
        unfold M.stateM
        rw [ofN_map]
        congr 3
        show m.time :: _ = m.time :: _
        congr 1
        show (5 :: _) ++ ((_ :: _) ++ ((_ :: _) ++ [])) = _
        rw [List.append_nil]
        rfl
    cases eS : m.shut with
    | true =>
      refine itT rfl ?_
      refine ⟨_, rfl, B.r_came T ?_⟩
      refine ⟨A.came, _, rfl, .inl (SqL.of B.l_came), ?_⟩
      refine ⟨(by show 5 ≤ sizeLine; omega), fun t nt => ?_⟩
      refine rest (.int 1) (by rw [eS]; rfl) t _ nt (same_new nt) ?_
      rw [upd_same, came_len B]
    | false =>
      refine itF rfl ?_
      refine ⟨_, rfl, B.r_came T ?_⟩
      refine ⟨A.came, _, rfl, .inl (SqL.of B.l_came), ?_⟩
      refine ⟨(by show 5 ≤ sizeLine; omega), fun t nt => ?_⟩
      refine rest (.int 0) (by rw [eS]; rfl) t _ nt (same_new nt) ?_
      rw [upd_same, came_len B]
theorem ok_answers {f : Addr} {fd : FuncData} (F : L2.Fun K "answers" "answers" s_answers f fd) (T : Txt K mg CV CB CT PN) {fs : List Addr} (hCT : ∀ H, SqT K H CT (fs.map V.ref)) (hfl : fs.length = 12) (c_end_of_call : Cal P w K mg base 1 "end_of_call" (sp_end_of_call K CV CB)) (c_Bridge : Mak P w K mg base 2 "Bridge" CB (sp_Bridge K CV CB)) (c_held : ∀ f sp, HS CV CB fs f sp → Held P w K mg base 6 f sp) : FnOk P w K mg base CX0 7 f fd ["calls"] (sp_answers K CV CB) := by
  refine F.ok sc_answers (fun vs H Q E h => ?_) (fun cdv Ar outer s H vs Q E hr h => ?_)
  · obtain ⟨q, xs, rfl, _⟩ := h
    rfl
  · have hu := hu_of hr
    refine ⟨_, (pss_cons (ps_set (i := 1) sc_answers.nd rfl (Or.inl rfl) (pe_k0 c_Bridge hr (by decide)))
      (pss_cons (ps_set (i := 2) sc_answers.nd rfl (Or.inl rfl) (pe_lst pa_nil))
      (pss_cons (ps_set (i := 3) sc_answers.nd rfl (Or.inl rfl) pe_int)
      (pss_cons (ps_while PassesOwn.never (pt_cmpR op_lt (pv 3) (pe_callB call_len_seq (by rfl) T.b_len (by decide +kernel) (pa_cons (pv 0) pa_nil)) (nomark _)) (pss_cons (ps_set (i := 4) sc_answers.nd rfl (Or.inl rfl) (pe_c c_end_of_call hr (by decide) (pa_cons (pv 0) (pa_cons (pv 3) pa_nil))))
      (pss_cons (ps_set (i := 5) sc_answers.nd rfl (Or.inl rfl) (pe_callS (pe_ix ix_tup (gl T.g_CALLS) (pe_ix ix_list (pv 0) (pv 3) (fun _ _ => rfl)) (fun _ _ => rfl)) c_held hr (by decide) (pa_cons (pv 1) (pa_cons (pe_slice sl_list (pv 0) (po_some (pe_op op_add (pv 3) pe_int)) (po_some (pv 4))) pa_nil))))
      (pss_cons (ps_expr (pe_bm PySem.F.plainAttrs_list PySem.F.slot_list_append PySem.F.type_list_append mt_append (pv 2) (pa_cons (pe_callB call_len_seq (by rfl) T.b_len (by decide +kernel) (pa_cons (pv 5) pa_nil)) pa_nil)))
      (pss_cons (ps_expr (pe_bm PySem.F.plainAttrs_list PySem.F.slot_list_extend PySem.F.type_list_extend mt_extend (pv 2) (pa_cons (pv 5) pa_nil)))
      (pss_one (ps_set (i := 3) sc_answers.nd rfl (Or.inl rfl) (pv 4))))))))
      (pss_one (ps_ret (pv 2))))))), ?_⟩
    obtain ⟨q, xs, rfl, hq, hlen, hrun, htot, k⟩ := h
    have hsl := sizeLine_eq
    -- bridge = Bridge()
    intro x dx nx nd ne
    refine ⟨x, dx, rfl, upd_same, fun A1 H1 B1 st1 => ⟨rfl, ?_⟩⟩
    have s0 : Step [x] H (own x A1) H1 := by
      refine ⟨fun a o e n => st1.keep a o ?_ n, fun a ha => ?_⟩
      · have n1 : a ≠ x := fun z => n (by simp [z])
        rw [upd_ne n1, upd_ne (ne_of_none e nd)]
        exact e
      · rcases st1.grow a ha with z | z
        · exact .inl z
        · refine .inr ?_
          by_cases e : a = x
          · rw [e]; exact nx
          · by_cases e2 : a = dx
            · rw [e2]; exact nd
            · rw [upd_ne e, upd_ne e2] at z; exact z
    have fx : ∀ a ∈ [x], H a = none := fun a ha => by simp at ha; rw [ha]; exact nx
    have s1 : Same H H1 := same_step (Same.refl H) s0 fx
    have f1 : ∀ a ∈ own x A1, H a = none := fresh_step (Same.refl H) s0 fx
    -- given = []
    refine ⟨Nat.zero_le _, fun g ng => ?_⟩
    have gown := B1.away ng
    have gH : H g = none := s1.free ng
    have s2 : Same H1 (upd H1 g (.lst [])) := same_new ng
    -- start = 0; while start < len(calls)
    refine ⟨fun r σ H' => ∃ (s : Nat) (A' : Adr) (m : M) (done : List Int) (f : Nat) (v4 v5 : Option V), s ≤ xs.length ∧ r = xs.length - s ∧ σ = [some (.ref q), some (.ref x), some (.ref g), some (nat s), v4, v5] ∧ Br CV CB H' x A' m ∧ OK m ∧ GoodRun f m (xs.drop s) ∧
        done ++ runM f m (xs.drop s) = runM xs.length (M.fresh 1 [1] [1]) xs ∧ H' g = some (.lst (done.map V.int)) ∧ g ∉ own x A' ∧ (∀ a ∈ own x A', H a = none) ∧ Same H H',
      ⟨xs.length, 0, A1, _, [], xs.length, _, _, Nat.zero_le _, rfl, rfl, B1.same s2, OK_fresh1, hrun, rfl, upd_same, gown, f1, s1.trans s2⟩, ?_⟩
    rintro r σ H' ⟨s, A', m, done, f, v4, v5, hs, rfl, rfl, B', ok, good, eq, hg, gn, fr, sm⟩
    have hq' := sm.seq hq
    refine ⟨_, rfl, _, rfl, q, _, rfl, .inl hq', ?_⟩
    refine ⟨_, _, rfl, rfl, _, rfl, ?_⟩
    rw [nums_len, decide_lt]
    by_cases c : s < xs.length
    · refine itT (decide_eq_true c) ?_
      rw [drop_at c] at good eq
      cases f with
      | zero => exact good.elim
      | succ f =>
        obtain ⟨g1, g2, g3, g4, g5, g6⟩ := good
        have hN : ∀ σ2 H2, (∃ (A2 : Adr) (v4 v5 : Option V), σ2 = [some (.ref q), some (.ref x), some (.ref g), some (nat (endM xs s)), v4, v5] ∧ Br CV CB H2 x A2 (M.callM (xs.getD s 0) m ((xs.drop (s + 1)).take (argLen (xs.getD s 0) (xs.drop (s + 1))))).1 ∧
            H2 g = some (.lst ((done ++ ((((M.callM (xs.getD s 0) m ((xs.drop (s + 1)).take (argLen (xs.getD s 0) (xs.drop (s + 1))))).2.length : Nat) : Int) :: (M.callM (xs.getD s 0) m ((xs.drop (s + 1)).take (argLen (xs.getD s 0) (xs.drop (s + 1))))).2)).map V.int)) ∧ g ∉ own x A2 ∧ (∀ a ∈ own x A2, H a = none) ∧ Same H H2) →
            ∃ m', m' < xs.length - s ∧ ∃ (s' : Nat) (A' : Adr) (m : M) (done : List Int) (f : Nat) (v4 v5 : Option V), s' ≤ xs.length ∧ m' = xs.length - s' ∧ σ2 = [some (.ref q), some (.ref x), some (.ref g), some (nat s'), v4, v5] ∧ Br CV CB H2 x A' m ∧ OK m ∧ GoodRun f m (xs.drop s') ∧
              done ++ runM f m (xs.drop s') = runM xs.length (M.fresh 1 [1] [1]) xs ∧ H2 g = some (.lst (done.map V.int)) ∧ g ∉ own x A' ∧ (∀ a ∈ own x A', H a = none) ∧ Same H H2 := fun σ2 H2 h => by
          obtain ⟨A2, v4, v5, e1, e2, e3, e4, e5, e6⟩ := h
          have le : endM xs s ≤ xs.length := by
            unfold endM
            rw [List.length_drop] at g3
            omega
          have lt : s < endM xs s := by unfold endM; omega
          have ed : (xs.drop (s + 1)).drop (argLen (xs.getD s 0) (xs.drop (s + 1))) = xs.drop (endM xs s) := by rw [List.drop_drop]; rfl
          refine ⟨xs.length - endM xs s, by omega, endM xs s, A2, _, _, f, v4, v5, le, rfl, e1, e2, g5, ?_, ?_, e3, e4, e5, e6⟩
          · rw [← ed]; exact g6
          · rw [← ed, List.append_assoc]; exact eq
        refine ⟨_, hN, ?_⟩
        -- end = end_of_call(calls, start)
        have h0' : xs.getD s 0 = 0 → s + 2 < xs.length := fun e => by
          have := g2 e
          rw [List.length_drop] at this
          omega
        refine ⟨_, rfl, _, rfl, q, xs, s, rfl, hq', c, g1, h0', ?_⟩
        have le : endM xs s ≤ xs.length := by
          unfold endM
          rw [List.length_drop] at g3
          omega
        have lt : s + 1 ≤ endM xs s := by unfold endM; omega
        -- answer = CALLS[calls[start]](bridge, calls[start + 1:end])
        obtain ⟨fa, hfa⟩ : ∃ fa, fs[xs.getD s 0]? = some fa := ⟨_, List.getElem?_eq_getElem (by omega)⟩
        refine ⟨_, rfl, _, rfl, q, _, _, _, rfl, rfl, hq', arg_at c, ?_⟩
        refine ⟨CT, _, _, V.ref fa, rfl, rfl, hCT _, atI_nat (by rw [List.getElem?_map, hfa]; rfl), ?_⟩
        refine ⟨fa, spCall CV CB (preM (xs.getD s 0)) (M.callM (xs.getD s 0)), rfl, ⟨_, g1, hfa, rfl⟩, ?_⟩
        refine ⟨_, rfl, ?_⟩
        refine ⟨_, rfl, _, rfl, _, _, rfl, rfl, ?_⟩
        refine ⟨_, rfl, _, rfl, _, rfl, q, _, rfl, hq', fun p np => ?_⟩
        have ecut : cutV (nums xs) (some ((s : Int) + 1)) (some ((endM xs s : Nat) : Int)) = nums ((xs.drop (s + 1)).take (argLen (xs.getD s 0) (xs.drop (s + 1)))) := by
          rw [show (s : Int) + 1 = ((s + 1 : Nat) : Int) by omega, cut_both _ _ _ lt (by rw [nums_len]; exact le), nums_drop, nums_take]
          congr 2
          unfold endM
          omega
        have hp : upd H' p (.lst (cutV (nums xs) (some ((s : Int) + 1)) (some ((endM xs s : Nat) : Int)))) p = some (.lst (nums ((xs.drop (s + 1)).take (argLen (xs.getD s 0) (xs.drop (s + 1)))))) := by rw [upd_same, ecut]
        have s3 : Same H' (upd H' p (.lst (cutV (nums xs) (some ((s : Int) + 1)) (some ((endM xs s : Nat) : Int))))) := same_new np
        generalize upd H' p (.lst (cutV (nums xs) (some ((s : Int) + 1)) (some ((endM xs s : Nat) : Int)))) = H3 at s3 hp ⊢
        refine ⟨x, A', m, p, _, rfl, B'.same s3, ok, hp, B'.away np, g4, fun A4 H4 p4 B4 st4 pn4 hne hp4 => ?_⟩
        have hg3 := s3 _ _ hg
        have hg4 := st4.keep _ _ hg3 gn
        have ngp : g ≠ p4 := hne g _ hg3 gn
        have fr4 : ∀ a ∈ own x A4, H a = none := fresh_step (sm.trans s3) st4 fr
        have sm4 : Same H H4 := same_step (sm.trans s3) st4 fr
        have gn4 : g ∉ own x A4 := fun z => by
          rcases st4.grow g z with h | h
          · exact gn h
          · rw [hg3] at h; cases h
        have tot : done.length + ((M.callM (xs.getD s 0) m ((xs.drop (s + 1)).take (argLen (xs.getD s 0) (xs.drop (s + 1))))).2.length + 1) ≤ 2000000 := by
          rw [← eq, List.length_append] at htot
          have e7 : runM (f + 1) m (xs.getD s 0 :: xs.drop (s + 1)) = ((((M.callM (xs.getD s 0) m ((xs.drop (s + 1)).take (argLen (xs.getD s 0) (xs.drop (s + 1))))).2.length : Nat) : Int) :: (M.callM (xs.getD s 0) m ((xs.drop (s + 1)).take (argLen (xs.getD s 0) (xs.drop (s + 1))))).2) ++ runM f (M.callM (xs.getD s 0) m ((xs.drop (s + 1)).take (argLen (xs.getD s 0) (xs.drop (s + 1))))).1 ((xs.drop (s + 1)).drop (argLen (xs.getD s 0) (xs.drop (s + 1)))) := rfl
          rw [e7, List.length_append, List.length_cons] at htot
          omega
        generalize M.callM (xs.getD s 0) m ((xs.drop (s + 1)).take (argLen (xs.getD s 0) (xs.drop (s + 1)))) = res at B4 hp4 tot ⊢
        -- given.append(len(answer))
        refine ⟨_, rfl, .inl ⟨rfl, _, SqL.of hg4⟩, ?_⟩
        refine ⟨_, rfl, p4, _, rfl, .inl (SqL.of hp4), ?_⟩
        refine ⟨g, _, _, rfl, rfl, hg4, by rw [List.length_map]; omega, ?_⟩
        -- given.extend(answer)
        refine ⟨_, rfl, .inl ⟨rfl, _, SqL.of upd_same⟩, ?_⟩
        refine ⟨_, rfl, ?_⟩
        refine ⟨g, p4, _, _, rfl, rfl, upd_same, (by rw [upd_ne ngp.symm]; exact hp4), by rw [List.length_append, List.length_map, List.length_map]; show done.length + 1 + _ ≤ sizeLine; omega, ?_⟩
        rw [upd_upd]
        -- start = end
        refine ⟨_, rfl, ?_⟩
        refine ⟨A4, _, _, rfl, B4.apart (Step.at_ (F := [g]) (List.mem_cons_self ..)) (fun y hy z => ?_), ?_, gn4, fr4, same_at sm4 gH⟩
        · simp at z
          exact gn4 (z ▸ hy)
        · rw [upd_same, List.length_map, List.append_assoc, List.map_append]
          rfl
    · refine itF (decide_eq_false c) ?_
      refine ⟨_, rfl, ?_⟩
      refine k H' g ?_
      have e : xs.drop s = [] := List.drop_eq_nil_of_le (by omega)
      rw [e] at eq
      have e2 : runM f m [] = [] := by cases f <;> rfl
      rw [e2, List.append_nil] at eq
      rw [hg, eq]
end
end OL


/-! ## the mirror against the specification -/
namespace OL
open M
def carOf (m : M) (i : Nat) : Sy49.Car := ⟨i, (m.car i).side, (m.car i).weight⟩
def dist (m : M) (i : Nat) : Nat := if (m.car i).side = 0 then (m.car i).cell else m.N - 1 - (m.car i).cell
def enc (m : M) (l : List Nat) : List (Sy49.Car × Nat) := l.map fun i => (carOf m i, dist m i)
def waitIds (m : M) : List Nat := (List.range m.cars.length).filter fun i => decide ((m.car i).place = 0)
/-! ### spans -/
theorem spans_sum : ∀ (cs : List Nat) (k : Nat), (spansFrom k cs).length = cs.sum
  | [], _ => rfl
  | c :: r, k => by
    show (List.replicate c k ++ spansFrom (k + 1) r).length = (c :: r).sum
    rw [List.length_append, List.length_replicate, spans_sum r, List.sum_cons]
theorem zip_fst : ∀ (cs ls : List Nat), ls.length = cs.length → (cs.zip ls).map (fun x => x.1) = cs
  | [], _, _ => rfl
  | c :: r, l :: t, h => by
    show c :: (r.zip t).map _ = c :: r
    rw [zip_fst r t (Nat.succ.inj h)]
  | _ :: _, [], h => by simp at h
theorem zip_getD : ∀ (cs ls : List Nat) (k : Nat), ls.length = cs.length → ((cs.zip ls).getD k (0, 0)).2 = ls.getD k 0
  | [], [], k, _ => by simp
  | c :: r, l :: t, 0, h => rfl
  | c :: r, l :: t, k + 1, h => by
    have := zip_getD r t k (Nat.succ.inj h)
    simpa using this
  | _ :: _, [], _, h => by simp at h
  | [], _ :: _, _, h => by simp at h
/-- which span a cell is in, by both -/
theorem spanOf_eq : ∀ (cs ls : List Nat) (k c : Nat), ls.length = cs.length → c < (spansFrom k cs).length → k + Sy49.spanOf (cs.zip ls) c = (spansFrom k cs).getD c 0
  | [], _, k, c, _, h => by simp [spansFrom] at h
  | a :: r, l :: t, k, c, h, hc => by
    show k + (if c < a then 0 else Sy49.spanOf (r.zip t) (c - a) + 1) = (List.replicate a k ++ spansFrom (k + 1) r).getD c 0
    by_cases g : c < a
    · rw [if_pos g, List.getD_eq_getElem?_getD, List.getElem?_append_left (by rw [List.length_replicate]; exact g), List.getElem?_replicate, if_pos g]
      rfl
    · have hc' : c < a + (spansFrom (k + 1) r).length := by
        have : (spansFrom k (a :: r)).length = a + (spansFrom (k + 1) r).length := by
          show (List.replicate a k ++ spansFrom (k + 1) r).length = _
          rw [List.length_append, List.length_replicate]
        omega
      rw [if_neg g, List.getD_eq_getElem?_getD, List.getElem?_append_right (by rw [List.length_replicate]; omega), List.length_replicate]
      have ih := spanOf_eq r t (k + 1) (c - a) (Nat.succ.inj h) (by omega)
      rw [List.getD_eq_getElem?_getD] at ih
      rw [← ih]
      omega
  | _ :: _, [], _, _, h, _ => by simp at h
/-- what both know of the spans -/
structure SpanEq (m : M) (s : Sy49.St) : Prop where
  spans : s.spans = m.cells.zip m.limits
  lim : m.limits.length = m.cells.length
section
variable {m : M} {s : Sy49.St}
theorem SpanEq.cells (h : SpanEq m s) : Sy49.cells s = m.N := by
  unfold Sy49.cells M.N M.spanOf
  rw [h.spans, zip_fst _ _ h.lim, spans_sum]
theorem SpanEq.span (h : SpanEq m s) {c : Nat} (hc : c < m.N) : Sy49.spanOf s.spans c = m.span c := by
  unfold M.span M.spanOf
  rw [← spanOf_eq m.cells m.limits 0 c h.lim hc, h.spans, Nat.zero_add]
theorem SpanEq.limit (h : SpanEq m s) (k : Nat) : Sy49.limitOf s k = m.limit k := by
  unfold Sy49.limitOf M.limit
  rw [h.spans, zip_getD _ _ _ h.lim]
theorem foldl_zip : ∀ (cs ls : List Nat) (a : Nat), ls.length = cs.length → (cs.zip ls).foldl (fun (m : Nat) (x : Nat × Nat) => min m x.2) a = ls.foldl min a
  | [], [], _, _ => rfl
  | c :: r, l :: t, a, h => foldl_zip r t (min a l) (Nat.succ.inj h)
  | _ :: _, [], _, h => by simp at h
  | [], _ :: _, _, h => by simp at h
theorem SpanEq.least (h : SpanEq m s) : Sy49.least s = m.least := by
  unfold Sy49.least M.least
  rw [h.limit, h.spans, foldl_zip _ _ _ h.lim]
  rfl
/-- a cell by how far one is -/
theorem SpanEq.cellOf (h : SpanEq m s) {i : Nat} (hc : (m.car i).cell < m.N) : Sy49.cellOf s (m.car i).side (dist m i) = (m.car i).cell := by
  unfold Sy49.cellOf dist
  rw [h.cells]
  by_cases g : (m.car i).side = 0
  · rw [if_pos g, if_pos g]
  · rw [if_neg g, if_neg g]; omega
theorem SpanEq.bears (h : SpanEq m s) : ∀ (l : List Nat) (k : Nat), (∀ i ∈ l, (m.car i).cell < m.N) → Sy49.bears s (enc m l) k = m.borneBy k l := by
  intro l k hl
  unfold Sy49.bears M.borneBy M.on enc
  rw [List.filter_map, List.map_map]
  congr 1
  rw [show ((fun (x : Sy49.Car × Nat) => x.1.weight) ∘ fun i => (carOf m i, dist m i)) = fun j => (m.car j).weight from rfl]
  congr 1
  apply List.filter_congr
  intro i hi
  show (Sy49.spanOf s.spans (Sy49.cellOf s (m.car i).side (dist m i)) == k) = decide (m.span (m.car i).cell = k)
  rw [h.cellOf (hl i hi), h.span (hl i hi)]
  rw [Bool.beq_eq_decide_eq]
/-- free, by how far they are: all from one side -/
theorem free_eq (l : List Nat) {d c a : Nat} (hd : d ≤ 1) (hl : ∀ i ∈ l, (m.car i).side = d ∧ (m.car i).cell < m.N) (hc : c < m.N) (ha : a = if d = 0 then c else m.N - 1 - c) :
    (enc m l).all (fun (z : Sy49.Car × Nat) => z.2 != a) = m.free c l := by
  unfold enc M.free
  rw [List.all_map]
  rw [Bool.eq_iff_iff, List.all_eq_true, List.all_eq_true]
  have key : ∀ i ∈ l, ((fun (z : Sy49.Car × Nat) => z.2 != a) ∘ fun i => (carOf m i, dist m i)) i = !decide ((m.car i).cell = c) := fun i hi => by
    obtain ⟨h1, h2⟩ := hl i hi
    show (dist m i != a) = _
    unfold dist
    rw [h1, ha]
    rw [Bool.eq_iff_iff, bne_iff_ne, Bool.not_eq_true', decide_eq_false_iff_not]
    by_cases g : d = 0
    · rw [if_pos g, if_pos g]
    · rw [if_neg g, if_neg g]
      omega
  constructor
  · intro h i hi; rw [← key i hi]; exact h i hi
  · intro h i hi; rw [key i hi]; exact h i hi
end
end OL


namespace OL
open M
/-- the mirror m and the specification's state s are of one bridge -/
structure R (m : M) (s : Sy49.St) : Prop where
  ok : OK m
  turn : s.turn = m.turn
  tpos : 1 ≤ m.turn
  spans : s.spans = m.cells.zip m.limits
  waits : s.waits = (waitIds m).map (carOf m)
  wq : ∀ d, d ≤ 1 → m.wait d = (waitIds m).filter fun i => decide ((m.car i).side = d)
  onIt : s.onIt = enc m m.cross
  cside : ∀ i ∈ m.cross, (m.car i).side = m.side
  side : s.side = m.side
  gone : s.gone = m.gone
  shut : s.shut = m.shut
  time : s.time = m.time
  came : s.came = m.cars.length
  pa : ∀ p ∈ s.past, p.id < m.cars.length ∧ (m.car p.id).place = p.how + 2 ∧ (m.car p.id).went = p.time
  pb : ∀ i, i < m.cars.length → 2 ≤ (m.car i).place → ∃ p ∈ s.past, p.id = i
  most : s.most = m.most.zip m.mostAt
  light : ∀ i, i < m.cars.length → (m.car i).place ≤ 1 → ∀ l ∈ m.limits, (m.car i).weight ≤ l
theorem R.sp {m : M} {s : Sy49.St} (h : R m s) : SpanEq m s := ⟨h.spans, h.ok.lim⟩
theorem SpanEq.fix {m m' : M} {s : Sy49.St} (h : SpanEq m s) (f : Fix m m') : SpanEq m' s := ⟨by rw [f.cells, f.limits]; exact h.spans, by rw [f.cells, f.limits]; exact h.lim⟩
theorem carOf_fix {m m' : M} (f : Fix m m') (i : Nat) : carOf m' i = carOf m i := by unfold carOf; rw [f.sd, f.wt]
theorem enc_same {m m' : M} {l : List Nat} (hN : m'.N = m.N) (h : ∀ i ∈ l, m'.car i = m.car i) : enc m' l = enc m l := by
  unfold enc
  apply List.map_congr_left
  intro i hi
  unfold carOf dist
  rw [h i hi, hN]
theorem enc_app (m : M) (a b : List Nat) : enc m (a ++ b) = enc m a ++ enc m b := List.map_append ..
/-! ### one moves on -/
section
variable {m : M} {s : Sy49.St}
theorem last_iff (h : SpanEq m s) {i : Nat} (hs : (m.car i).side ≤ 1) (hc : (m.car i).cell < m.N) : dist m i + 1 = Sy49.cells s ↔ (m.car i).cell = m.last (m.car i).side := by
  rw [h.cells]
  unfold dist M.last M.first
  by_cases g : (m.car i).side = 0
  · rw [if_pos g, g, if_neg (by omega)]
    omega
  · have : (m.car i).side = 1 := by omega
    rw [if_neg g, this, if_pos rfl]
    omega
theorem next_dist {i : Nat} (hs : (m.car i).side ≤ 1) (hc : (m.car i).cell < m.N) (hl : ¬ (m.car i).cell = m.last (m.car i).side) : dist m i + 1 = (if (m.car i).side = 0 then m.next i else m.N - 1 - m.next i) := by
  unfold dist M.next
  unfold M.last M.first at hl
  by_cases g : (m.car i).side = 0
  · rw [if_pos g, if_pos g, if_pos g]
  · have : (m.car i).side = 1 := by omega
    rw [this] at hl
    rw [if_neg g, if_neg g, if_neg g]
    rw [if_pos (by omega)] at hl
    omega
theorem cellOf_next (h : SpanEq m s) {i : Nat} (hs : (m.car i).side ≤ 1) (hc : (m.car i).cell < m.N) (hl : ¬ (m.car i).cell = m.last (m.car i).side) : Sy49.cellOf s (m.car i).side (dist m i + 1) = m.next i := by
  have nl := next_lt hc hs hl
  unfold Sy49.cellOf
  rw [next_dist hs hc hl, h.cells]
  by_cases g : (m.car i).side = 0
  · rw [if_pos g, if_pos g]
  · rw [if_neg g, if_neg g]; omega
theorem canMove_eq (h : SpanEq m s) {i d : Nat} (hd : d ≤ 1) (hi : (m.car i).side = d) (hc : (m.car i).cell < m.N) (hl : ¬ (m.car i).cell = m.last (m.car i).side) {l : List Nat} (hl' : ∀ j ∈ l, (m.car j).side = d ∧ (m.car j).cell < m.N) :
    ((enc m l).all (fun (z : Sy49.Car × Nat) => z.2 != dist m i + 1) && (Sy49.sameSpan s (carOf m i).side (dist m i) (dist m i + 1) || Sy49.room s (enc m l) (carOf m i) (dist m i + 1))) = m.canMove i (m.next i) l := by
  have hs : (m.car i).side ≤ 1 := by omega
  have nl := next_lt hc hs hl
  have e1 : (enc m l).all (fun (z : Sy49.Car × Nat) => z.2 != dist m i + 1) = m.free (m.next i) l := free_eq l hd hl' nl (by rw [next_dist hs hc hl, hi])
  have e2 : Sy49.sameSpan s (carOf m i).side (dist m i) (dist m i + 1) = decide (m.span (m.next i) = m.span (m.car i).cell) := by
    unfold Sy49.sameSpan
    show (Sy49.spanOf s.spans (Sy49.cellOf s (m.car i).side (dist m i)) == Sy49.spanOf s.spans (Sy49.cellOf s (m.car i).side (dist m i + 1))) = _
    rw [h.cellOf hc, cellOf_next h hs hc hl, h.span hc, h.span nl, Bool.beq_eq_decide_eq]
    exact decide_eq_decide.mpr ⟨fun e => e.symm, fun e => e.symm⟩
  have e3 : Sy49.room s (enc m l) (carOf m i) (dist m i + 1) = (m.free (m.next i) l && m.bearsIt (m.span (m.next i)) (m.car i).weight l) := by
    unfold Sy49.room M.bearsIt
    rw [e1]
    show (_ && decide (Sy49.bears s (enc m l) (Sy49.spanOf s.spans (Sy49.cellOf s (m.car i).side (dist m i + 1))) + (m.car i).weight ≤ Sy49.limitOf s (Sy49.spanOf s.spans (Sy49.cellOf s (m.car i).side (dist m i + 1))))) = _
    rw [cellOf_next h hs hc hl, h.span nl, h.bears l _ (fun j hj => (hl' j hj).2), h.limit]
  rw [e1, e2, e3]
  unfold M.canMove
  cases m.free (m.next i) l <;> simp
end
theorem gone_pre : ∀ (r : List Nat) (S : M × List Nat × List Nat), ∃ t, (r.foldl M.move1 S).2.1 = S.2.1 ++ t
  | [], S => ⟨[], by simp⟩
  | x :: r, S => by
    obtain ⟨t, ht⟩ := gone_pre r (M.move1 S x)
    have h1 : ∃ t1, (M.move1 S x).2.1 = S.2.1 ++ t1 := by
      unfold M.move1
      split
      · exact ⟨[x], rfl⟩
      · exact ⟨[], by simp⟩
    obtain ⟨t1, h1⟩ := h1
    refine ⟨t1 ++ t, ?_⟩
    show (r.foldl M.move1 (M.move1 S x)).2.1 = _
    rw [ht, h1, List.append_assoc]
/-- the loop of those on the bridge, from any place of it on -/
theorem moved_from {m : M} (ok : OK m) {s : Sy49.St} (h : SpanEq m s) {d : Nat} (hd : d ≤ 1) (hs : ∀ i ∈ m.cross, (m.car i).side = d) : ∀ (r l : List Nat) (S : M × List Nat × List Nat), l ++ r = m.cross → Moved m l S →
    Sy49.moved s (enc S.1 S.2.2) (enc m r) = (enc (r.foldl M.move1 S).1 (r.foldl M.move1 S).2.2, ((r.foldl M.move1 S).2.1.drop S.2.1.length).map (carOf m))
  | [], l, S, e, M1 => by
    show (_, _) = (_, _)
    rw [List.foldl_nil, List.drop_length]
    rfl
  | i :: r, l, S, e, M1 => by
    have e' : (l ++ [i]) ++ r = m.cross := by rw [List.append_assoc]; exact e
    have hi : i ∈ m.cross := by rw [← e]; simp
    obtain ⟨c1, c2, c3⟩ := ok.cr i hi
    have nd := ok.cnd
    rw [← e] at nd
    have hni : i ∉ l := fun z => (List.nodup_append.mp nd).2.2 i z i (by simp) rfl
    have M3 := M1.step hni c1 c2 c3 (ok.csd i c1)
    have ih := moved_from ok h hd hs r (l ++ [i]) (M.move1 S i) e' M3
    have ei := M1.out i hni
    have lcross : ∀ j ∈ l, j ∈ m.cross := fun j hj => by rw [← e]; simp [hj]
    have hsub := M1.sub
    have hst := M1.st
    have hfix := M1.fix
    rw [List.foldl_cons]
    obtain ⟨mi, gi, ai⟩ := S
    have hN : mi.N = m.N := hfix.N
    have sp1 : SpanEq mi s := h.fix hfix
    have hn : i < mi.cars.length := by rw [hfix.num]; exact c1
    have hci : (mi.car i).cell < mi.N := by rw [ei, hN]; exact c3
    have hsi : (mi.car i).side = d := by rw [hfix.sd]; exact hs i hi
    have hai : ∀ j ∈ ai, (mi.car j).side = d ∧ (mi.car j).cell < mi.N := fun j hj => by
      have z := hsub.subset hj
      refine ⟨by rw [hfix.sd]; exact hs j (lcross j z), ?_⟩
      rw [hN]
      rcases hst j z with ⟨_, _, _, q⟩ | ⟨q, _⟩
      · exact q
      · exact absurd hj q
    have ecar : carOf m i = carOf mi i := (carOf_fix hfix i).symm
    have edist : dist m i = dist mi i := by unfold dist; rw [ei, hN]
    have ain : i ∉ ai := fun z => hni (hsub.subset z)
    show Sy49.moved s (enc mi ai) ((carOf m i, dist m i) :: enc m r) = _
    rw [ecar, edist]
    unfold Sy49.moved
    by_cases c : (mi.car i).cell = mi.last (mi.car i).side
    · rw [if_pos ((last_iff sp1 (by omega) hci).mpr c)]
      have em : M.move1 (mi, gi, ai) i = (mi.put i 2, gi ++ [i], ai) := by unfold M.move1; rw [if_pos c]
      rw [em] at ih ⊢
      have ea : enc (mi.put i 2) ai = enc mi ai := enc_same rfl fun j hj => car_set_ne fun q => ain (by rw [q]; exact hj)
      rw [show enc ((mi.put i 2, gi ++ [i], ai) : M × List Nat × List Nat).1 ((mi.put i 2, gi ++ [i], ai) : M × List Nat × List Nat).2.2 = enc mi ai from ea] at ih
      rw [ih]
      obtain ⟨t, ht⟩ := gone_pre r (mi.put i 2, gi ++ [i], ai)
      have hg : (r.foldl M.move1 (mi.put i 2, gi ++ [i], ai)).2.1.drop gi.length = i :: (r.foldl M.move1 (mi.put i 2, gi ++ [i], ai)).2.1.drop (gi ++ [i]).length := by
        rw [ht]
        simp
      show (_, _ :: _) = (_, ((r.foldl M.move1 (mi.put i 2, gi ++ [i], ai)).2.1.drop gi.length).map (carOf m))
      rw [hg, List.map_cons, ecar]
    · rw [if_neg fun z => c ((last_iff sp1 (by omega) hci).mp z)]
      rw [canMove_eq sp1 (by omega) rfl hci c (fun j hj => by rw [hsi]; exact hai j hj)]
      have em : M.move1 (mi, gi, ai) i = (if mi.canMove i (mi.next i) ai = true then mi.setCell i (mi.next i) else mi, gi, ai ++ [i]) := by unfold M.move1; rw [if_neg c]
      rw [em] at ih ⊢
      by_cases g : mi.canMove i (mi.next i) ai = true
      · rw [if_pos g] at ih ⊢
        rw [if_pos g]
        have ea : enc (mi.setCell i (mi.next i)) (ai ++ [i]) = enc mi ai ++ [(carOf mi i, dist mi i + 1)] := by
          rw [enc_app, enc_same (m := mi) (m' := mi.setCell i (mi.next i)) rfl fun j hj => car_set_ne fun q => ain (by rw [q]; exact hj)]
          congr 1
          show [(carOf _ i, dist _ i)] = _
          have e1 : (mi.setCell i (mi.next i)).car i = { mi.car i with cell := mi.next i } := car_set hn
          congr 1
          unfold carOf dist
          rw [e1, show (mi.setCell i (mi.next i)).N = mi.N from rfl]
          congr 1
          have := next_dist (m := mi) (i := i) (by omega) hci c
          unfold dist at this
          rw [this]
        rw [← ea]
        exact ih
      · rw [if_neg g] at ih ⊢
        rw [if_neg g]
        have ea : enc mi (ai ++ [i]) = enc mi ai ++ [(carOf mi i, dist mi i)] := enc_app ..
        rw [← ea]
        exact ih
theorem moved_eq {m : M} {s : Sy49.St} (ok : OK m) (sp : SpanEq m s) (cs : ∀ i ∈ m.cross, (m.car i).side = m.side) (on : s.onIt = enc m m.cross) :
    Sy49.moved s [] s.onIt = (enc m.moveAll m.moveAll.cross, m.leaves.map (carOf m)) := by
  have := moved_from ok sp ok.sd cs m.cross [] (m, [], []) rfl (Moved.nil m)
  rw [on]
  exact this
end OL


namespace OL
open M
/-! ## a tick, by both -/
theorem fix_moveAll {m : M} (ok : OK m) : Fix m m.moveAll := by
  have f := (moved_cross ok).fix
  exact ⟨f.turn, f.cells, f.limits, f.num, f.sd, f.wt⟩
theorem moveAll_eq {m : M} (ok : OK m) : m.moveAll = { m with cars := (m.moves m.cross).1.cars, cross := (m.moves m.cross).2.2 } := by
  have e0 := same_fields (moved_cross ok).same
  unfold M.moveAll
  rw [e0]
def leftBy (m : M) (l : List Nat) (t : Nat) : List Sy49.Past := l.map fun i => ⟨i, 0, t⟩
/-- the first part of a tick -/
theorem R.move {m : M} {s : Sy49.St} (h : R m s) :
    R m.up.moveAll { s with time := s.time + 1, onIt := (Sy49.moved s [] s.onIt).1, past := s.past ++ (Sy49.moved s [] s.onIt).2.map fun (c : Sy49.Car) => (⟨c.id, 0, s.time + 1⟩ : Sy49.Past) } ∧
    (Sy49.moved s [] s.onIt).2.map (fun (c : Sy49.Car) => c.id) = m.left := by
  have ok := h.ok.up
  have sp : SpanEq m.up s := ⟨h.spans, h.ok.lim⟩
  have mv := moved_eq ok sp h.cside h.onIt
  have mc := moved_cross ok
  have f := fix_moveAll ok
  have e := moveAll_eq ok
  have hcar : ∀ j, m.up.moveAll.car j = (m.up.moves m.up.cross).1.car j := fun j => rfl
  have hout : ∀ j, j ∉ m.cross → m.up.moveAll.car j = m.car j := fun j hj => mc.out j hj
  have wsame : waitIds m.up.moveAll = waitIds m := by
    unfold waitIds
    rw [f.num]
    apply List.filter_congr
    intro i hi
    by_cases z : i ∈ m.cross
    · have h1 := (h.ok.cr i z).2.1
      have h2 : (m.up.moveAll.car i).place ≠ 0 := by
        rw [hcar]
        rcases mc.st i z with ⟨_, _, q, _⟩ | ⟨_, _, q, _⟩ <;> omega
      rw [decide_eq_false h2, decide_eq_false (by omega)]
    · rw [hout i z]
  have hids : (Sy49.moved s [] s.onIt).2.map (fun (c : Sy49.Car) => c.id) = m.left := by
    rw [mv]
    show (m.up.leaves.map (carOf m.up)).map _ = m.up.leaves
    rw [List.map_map]
    exact List.map_id _
  have hpast : (Sy49.moved s [] s.onIt).2.map (fun (c : Sy49.Car) => (⟨c.id, 0, s.time + 1⟩ : Sy49.Past)) = m.left.map fun i => ⟨i, 0, s.time + 1⟩ := by
    rw [← hids, List.map_map]
    rfl
  refine ⟨?_, hids⟩
  rw [hpast]
  refine ⟨ok.moveAll, ?_, ?_, ?_, ?_, fun d hd => ?_, ?_, fun i hi => ?_, ?_, ?_, ?_, ?_, ?_, fun p hp => ?_, fun i hi h2 => ?_, ?_, fun i hi h1 l hl => ?_⟩
  · rw [f.turn]; exact h.turn
  · rw [f.turn]; exact h.tpos
  · rw [f.cells, f.limits]; exact h.spans
  · rw [wsame]
    show s.waits = _
    rw [h.waits]
    exact List.map_congr_left fun i _ => (carOf_fix f i).symm
  · rw [wsame]
    have e1 : m.up.moveAll.wait d = m.wait d := by rw [e]; rfl
    rw [e1, h.wq d hd]
    exact List.filter_congr fun i _ => by rw [f.sd]; rfl
  · show (Sy49.moved s [] s.onIt).1 = _
    rw [mv]
  · have e1 : m.up.moveAll.side = m.side := by rw [e]; rfl
    rw [f.sd, e1]
    exact h.cside i (mc.sub.subset hi)
  · rw [e]; exact h.side
  · rw [e]; exact h.gone
  · rw [e]; exact h.shut
  · rw [e]
    show s.time + 1 = m.time + 1
    rw [h.time]
  · rw [f.num]; exact h.came
  · rcases List.mem_append.mp hp with hp | hp
    · obtain ⟨a, b, c⟩ := h.pa p hp
      have z : p.id ∉ m.cross := fun z => by have := (h.ok.cr _ z).2.1; omega
      rw [f.num, hout _ z]
      exact ⟨a, b, c⟩
    · obtain ⟨i, hi, rfl⟩ := List.mem_map.mp hp
      have z : i ∈ m.cross := mc.gsub.subset hi
      rw [f.num]
      refine ⟨(h.ok.cr i z).1, ?_⟩
      rw [hcar]
      rcases mc.st i z with ⟨_, q, _⟩ | ⟨_, _, q1, q2⟩
      · exact absurd hi q
      · refine ⟨q1, ?_⟩
        show _ = s.time + 1
        rw [q2, h.time]
        rfl
  · rw [f.num] at hi
    by_cases z : i ∈ m.cross
    · rw [hcar] at h2
      rcases mc.st i z with ⟨_, _, q, _⟩ | ⟨_, q, _⟩
      · omega
      · exact ⟨⟨i, 0, s.time + 1⟩, List.mem_append_right _ (List.mem_map_of_mem (f := fun i => (⟨i, 0, s.time + 1⟩ : Sy49.Past)) q), rfl⟩
    · rw [hout i z] at h2
      obtain ⟨p, hp, e2⟩ := h.pb i hi h2
      exact ⟨p, List.mem_append_left _ hp, e2⟩
  · rw [e]; exact h.most
  · rw [f.num] at hi
    rw [f.limits] at hl
    rw [f.wt]
    refine h.light i hi ?_ l hl
    by_cases z : i ∈ m.cross
    · have := (h.ok.cr i z).2.1; omega
    · rw [hout i z] at h1; exact h1
/-! ### whose turn it is -/
theorem find_map {α β : Type} (p : β → Bool) (f : α → β) : ∀ l : List α, (l.map f).find? p = (l.filter fun x => p (f x)).head?.map f
  | [] => rfl
  | a :: r => by
    rw [List.map_cons, List.find?_cons, List.filter_cons]
    cases h : p (f a) with
    | true => simp
    | false => simp [find_map p f r]
theorem R.first {m : M} {s : Sy49.St} (h : R m s) {d : Nat} (hd : d ≤ 1) : Sy49.first s d = (m.wait d).head?.map (carOf m) := by
  unfold Sy49.first
  rw [h.waits, find_map, h.wq d hd]
  rfl
theorem R.over {m : M} {s : Sy49.St} (h : R m s) : Sy49.over s = m.over := by
  have hd := h.ok.sd
  unfold Sy49.over M.over
  rw [h.side, h.first (show 1 - m.side ≤ 1 by omega), h.first hd, h.turn, h.gone]
  cases m.wait (1 - m.side) <;> cases m.wait m.side <;> rfl
theorem enc_nil {m : M} {l : List Nat} : enc m l = [] ↔ l = [] := by unfold enc; simp
theorem R.turned {m : M} {s : Sy49.St} (h : R m s) : R m.turned (Sy49.turned s) := by
  by_cases c : m.over = true ∧ m.cross = []
  · have es : Sy49.turned s = { s with side := 1 - s.side, gone := 0 } := if_pos ⟨h.over.trans c.1, by rw [h.onIt, enc_nil]; exact c.2⟩
    have em : m.turned = m.change := if_pos (by rw [c.1, c.2]; rfl)
    rw [es, em]
    exact ⟨h.ok.change, h.turn, h.tpos, h.spans, h.waits, h.wq, h.onIt, (fun i hi => by rw [show m.change.cross = m.cross from rfl, c.2] at hi; cases hi), by show 1 - s.side = 1 - m.side; rw [h.side], rfl, h.shut, h.time, h.came, h.pa, h.pb, h.most, h.light⟩
  · have es : Sy49.turned s = s := if_neg fun z => c ⟨h.over.symm.trans z.1, by have := z.2; rw [h.onIt, enc_nil] at this; exact this⟩
    have em : m.turned = m := if_neg fun z => c (by
      have z' := Bool.and_eq_true_iff.mp z
      exact ⟨z'.2, List.isEmpty_iff.mp z'.1⟩)
    rw [es, em]
    exact h
/-! ### one enters -/
theorem waitIds_nd (m : M) : (waitIds m).Nodup := List.Sublist.nodup List.filter_sublist List.nodup_range
theorem room0_eq {m : M} {s : Sy49.St} (h : R m s) {i : Nat} (hi : (m.car i).side = m.side) : Sy49.room s s.onIt (carOf m i) 0 = (m.free (m.first m.side) m.cross && m.bearsIt (m.span (m.first m.side)) (m.car i).weight m.cross) := by
  have hf := first_lt h.ok m.side
  have hcr : ∀ j ∈ m.cross, (m.car j).side = m.side ∧ (m.car j).cell < m.N := fun j hj => ⟨h.cside j hj, (h.ok.cr j hj).2.2⟩
  have e0 : Sy49.cellOf s (m.car i).side 0 = m.first m.side := by
    unfold Sy49.cellOf M.first
    rw [h.sp.cells, hi]
    by_cases g : m.side = 0
    · rw [if_pos g, if_pos g]
    · rw [if_neg g, if_neg g, Nat.sub_zero]
  have e1 : (enc m m.cross).all (fun (x : Sy49.Car × Nat) => x.2 != 0) = m.free (m.first m.side) m.cross := by
    refine free_eq m.cross h.ok.sd hcr hf ?_
    unfold M.first
    by_cases g : m.side = 0
    · rw [if_pos g, if_pos g]
    · rw [if_neg g, if_neg g, Nat.sub_self]
  unfold Sy49.room M.bearsIt
  rw [h.onIt, e1]
  show (_ && decide (Sy49.bears s (enc m m.cross) (Sy49.spanOf s.spans (Sy49.cellOf s (m.car i).side 0)) + (m.car i).weight ≤ Sy49.limitOf s (Sy49.spanOf s.spans (Sy49.cellOf s (m.car i).side 0)))) = _
  rw [e0, h.sp.span hf, h.sp.bears _ _ (fun j hj => (hcr j hj).2), h.sp.limit]
theorem R.entered {m : M} {s : Sy49.St} (h : R m s) : R m.entered (Sy49.entered s) := by
  have em : m.entered = if (!m.shut && !m.over) = true then m.letEnter else m := rfl
  have ef : Sy49.first s s.side = (m.wait m.side).head?.map (carOf m) := by rw [h.side, h.first h.ok.sd]
  cases e : m.wait m.side with
  | nil =>
    have es : Sy49.entered s = s := by
      unfold Sy49.entered
      rw [ef, e]
      rfl
    have : m.letEnter = m := by unfold M.letEnter; rw [e]
    rw [es, em, this]
    split <;> exact h
  | cons i r =>
    obtain ⟨i1, i2, i3⟩ := head_waits h.ok e
    have es : Sy49.entered s = if s.shut = true ∨ Sy49.over s = true ∨ Sy49.room s s.onIt (carOf m i) 0 = false then s else { s with waits := s.waits.filter fun (x : Sy49.Car) => x.id != (carOf m i).id, onIt := s.onIt ++ [(carOf m i, 0)], gone := s.gone + 1 } := by
      unfold Sy49.entered
      rw [ef, e]
      rfl
    rw [es, em]
    have el : m.letEnter = if (m.free (m.first m.side) m.cross && m.bearsIt (m.span (m.first m.side)) (m.car i).weight m.cross) = true then m.enters i else m := by
      unfold M.letEnter
      rw [e]
    rw [h.shut, h.over, room0_eq h i2, el]
    cases c1 : m.shut with
    | true => simpa using h
    | false =>
      cases c2 : m.over with
      | true => simpa using h
      | false =>
        cases c3 : (m.free (m.first m.side) m.cross && m.bearsIt (m.span (m.first m.side)) (m.car i).weight m.cross) with
        | false => simpa using h
        | true =>
          rw [if_neg (show ¬ (false = true ∨ false = true ∨ true = false) by simp), if_pos (show (!false && !false) = true from rfl), if_pos (show true = true from rfl)]
          have f := fix_enters (m := m) (i := i)
          obtain ⟨t1, t2, t3, t4, t5, t6, t7, t8, t9, t10⟩ := setWait_other (m := m) (d := (m.car i).side) (l := (m.wait (m.car i).side).erase i)
          have hd := h.ok.csd i i1
          have wids : waitIds (m.enters i) = (waitIds m).filter fun j => decide (j ≠ i) := by
            unfold waitIds
            rw [f.num, List.filter_filter]
            apply List.filter_congr
            intro j hj
            by_cases z : i = j
            · subst z
              rw [enters_car i1]
              simp
            · rw [enters_car_ne z]
              have ne : j ≠ i := fun q => z q.symm
              simp [ne]
          refine ⟨h.ok.enters i1 i3, ?_, ?_, ?_, ?_, fun d hd' => ?_, ?_, fun j hj => ?_, ?_, ?_, ?_, ?_, ?_, fun p hp => ?_, fun j hj h2 => ?_, ?_, fun j hj h1 l hl => ?_⟩
          · rw [f.turn]; exact h.turn
          · rw [f.turn]; exact h.tpos
          · rw [f.cells, f.limits]; exact h.spans
          · show s.waits.filter (fun (x : Sy49.Car) => x.id != (carOf m i).id) = _
            rw [h.waits, wids, List.filter_map]
            rw [List.map_congr_left fun j _ => carOf_fix f j]
            congr 1
            apply List.filter_congr
            intro j _
            show (j != i) = _
            rw [bne, Bool.beq_eq_decide_eq, decide_not]
          · rw [enters_wait hd hd', wids, List.filter_filter]
            by_cases g : d = (m.car i).side
            · have nd : ((waitIds m).filter fun i => decide ((m.car i).side = d)).Nodup := List.Sublist.nodup List.filter_sublist (waitIds_nd m)
              rw [if_pos g, h.wq d hd', List.Nodup.erase_eq_filter nd i, List.filter_filter]
              apply List.filter_congr
              intro j _
              rw [f.sd]
              rw [bne, Bool.beq_eq_decide_eq, decide_not, Bool.and_comm]
            · rw [if_neg g, h.wq d hd']
              apply List.filter_congr
              intro j _
              rw [f.sd]
              by_cases z : j = i
              · subst z
                rw [decide_eq_false fun q => g q.symm]
                rfl
              · simp [z]
          · show s.onIt ++ [(carOf m i, 0)] = enc (m.enters i) (m.cross ++ [i])
            have hni : i ∉ m.cross := fun z => by have := (h.ok.cr i z).2.1; omega
            rw [enc_app, h.onIt, enc_same (m := m) (m' := m.enters i) f.N fun j hj => enters_car_ne fun q => hni (by rw [q]; exact hj)]
            congr 1
            show [(carOf m i, 0)] = [(carOf (m.enters i) i, dist (m.enters i) i)]
            rw [carOf_fix f]
            congr 2
            unfold dist
            rw [enters_car i1, f.N]
            show 0 = if (m.car i).side = 0 then m.first m.side else m.N - 1 - m.first m.side
            rw [i2]
            unfold M.first
            by_cases g : m.side = 0
            · rw [if_pos g, if_pos g]
            · rw [if_neg g, if_neg g, Nat.sub_self]
          · rw [f.sd]
            have e1 : (m.enters i).side = m.side := t5
            rw [e1]
            have hj' : j ∈ m.cross ++ [i] := hj
            rcases List.mem_append.mp hj' with z | z
            · exact h.cside j z
            · simp at z; subst z; exact i2
          · exact h.side.trans t5.symm
          · show s.gone + 1 = m.gone + 1
            rw [h.gone]
          · show false = (m.setWait _ _).shut
            rw [t7, c1]
          · exact h.time.trans t8.symm
          · rw [f.num]; exact h.came
          · obtain ⟨a, b, c⟩ := h.pa p hp
            have z : i ≠ p.id := fun z => by rw [← z] at b; omega
            rw [f.num, enters_car_ne z]
            exact ⟨a, b, c⟩
          · rw [f.num] at hj
            by_cases z : i = j
            · subst z
              rw [enters_car i1] at h2
              have : 2 ≤ 1 := h2
              omega
            · rw [enters_car_ne z] at h2
              exact h.pb j hj h2
          · show s.most = (m.setWait _ _).most.zip (m.setWait _ _).mostAt
            rw [t9, t10]; exact h.most
          · rw [f.num] at hj
            rw [f.limits] at hl
            rw [f.wt]
            refine h.light j hj ?_ l hl
            by_cases z : i = j
            · subst z; omega
            · rw [enters_car_ne z] at h1; exact h1
end OL


namespace OL
open M
/-! ### what is noted -/
theorem borneBy_snoc (m : M) (k : Nat) (l : List Nat) (i : Nat) : m.borneBy k (l ++ [i]) = m.borneBy k l + (if m.span (m.car i).cell = k then (m.car i).weight else 0) := by
  unfold M.borneBy M.on
  rw [List.filter_append, List.map_append, List.sum_append]
  congr 1
  rw [List.filter_cons]
  by_cases c : m.span (m.car i).cell = k
  · rw [if_pos (decide_eq_true c), if_pos c]; simp
  · rw [if_neg (by simp [c]), if_neg c]; simp
theorem borne_get (m : M) (l : List Nat) : (l.foldl m.borne1 (List.replicate m.cells.length 0)).length = m.cells.length ∧ ∀ k, k < m.cells.length → (l.foldl m.borne1 (List.replicate m.cells.length 0)).getD k 0 = m.borneBy k l := by
  induction l using snoc_ind with
  | h0 =>
    refine ⟨by simp, fun k hk => ?_⟩
    show (List.replicate m.cells.length 0).getD k 0 = 0
    rw [List.getD_eq_getElem?_getD, List.getElem?_replicate, if_pos hk]
    rfl
  | h1 l i ih =>
    obtain ⟨h1, h2⟩ := ih
    rw [List.foldl_append]
    show (m.borne1 _ i).length = _ ∧ ∀ k, k < m.cells.length → (m.borne1 _ i).getD k 0 = _
    generalize l.foldl m.borne1 (List.replicate m.cells.length 0) = ws at h1 h2
    unfold M.borne1
    refine ⟨by rw [List.length_set]; exact h1, fun k hk => ?_⟩
    rw [borneBy_snoc, ← h2 k hk, List.getD_eq_getElem?_getD]
    by_cases c : m.span (m.car i).cell = k
    · subst c
      rw [List.getElem?_set_self (by omega), if_pos rfl]
      rfl
    · rw [List.getElem?_set_ne c, if_neg c, List.getD_eq_getElem?_getD, Nat.add_zero]
theorem most1_get (m : M) (k w j : Nat) (hj : j < m.most.length) (hj2 : j < m.mostAt.length) :
    (m.most1 k w).most.getD j 0 = (if j = k ∧ m.most.getD j 0 < w then w else m.most.getD j 0) ∧ (m.most1 k w).mostAt.getD j 0 = (if j = k ∧ m.most.getD j 0 < w then m.time else m.mostAt.getD j 0) := by
  unfold M.most1
  by_cases c : m.most.getD k 0 < w
  · rw [if_pos c]
    by_cases e : j = k
    · subst e
      rw [if_pos ⟨rfl, c⟩, if_pos ⟨rfl, c⟩]
      constructor
      · show (m.most.set j w).getD j 0 = w
        rw [List.getD_eq_getElem?_getD, List.getElem?_set_self hj]; rfl
      · show (m.mostAt.set j m.time).getD j 0 = m.time
        rw [List.getD_eq_getElem?_getD, List.getElem?_set_self hj2]; rfl
    · rw [if_neg fun z => e z.1, if_neg fun z => e z.1]
      constructor
      · show (m.most.set k w).getD j 0 = _
        rw [List.getD_eq_getElem?_getD, List.getElem?_set_ne (fun q => e q.symm), List.getD_eq_getElem?_getD]
      · show (m.mostAt.set k m.time).getD j 0 = _
        rw [List.getD_eq_getElem?_getD, List.getElem?_set_ne (fun q => e q.symm), List.getD_eq_getElem?_getD]
  · rw [if_neg c]
    constructor
    · rw [if_neg]
      rintro ⟨rfl, q⟩; exact c q
    · rw [if_neg]
      rintro ⟨rfl, q⟩; exact c q
theorem most1_keeps (m : M) (k w : Nat) : (m.most1 k w).most.length = m.most.length ∧ (m.most1 k w).mostAt.length = m.mostAt.length ∧ (m.most1 k w).time = m.time ∧ ∃ a b, (m.most1 k w) = { m with most := a, mostAt := b } := by
  unfold M.most1
  split
  · exact ⟨by simp, by simp, rfl, _, _, rfl⟩
  · exact ⟨rfl, rfl, rfl, m.most, m.mostAt, rfl⟩
theorem mosts_keeps : ∀ (ws : List Nat) (m : M) (k : Nat), (m.mosts k ws).most.length = m.most.length ∧ (m.mosts k ws).mostAt.length = m.mostAt.length ∧ ∃ a b, (m.mosts k ws) = { m with most := a, mostAt := b }
  | [], m, _ => ⟨rfl, rfl, m.most, m.mostAt, rfl⟩
  | w :: r, m, k => by
    obtain ⟨h1, h2, a, b, h3⟩ := mosts_keeps r (m.most1 k w) (k + 1)
    obtain ⟨g1, g2, _, a', b', g4⟩ := most1_keeps m k w
    refine ⟨h1.trans g1, h2.trans g2, a, b, ?_⟩
    show (m.most1 k w).mosts (k + 1) r = _
    rw [h3, g4]
theorem mosts_get : ∀ (ws : List Nat) (m : M) (k j : Nat), j < m.most.length → j < m.mostAt.length →
    (m.mosts k ws).most.getD j 0 = (if k ≤ j ∧ m.most.getD j 0 < ws.getD (j - k) 0 then ws.getD (j - k) 0 else m.most.getD j 0) ∧
    (m.mosts k ws).mostAt.getD j 0 = (if k ≤ j ∧ m.most.getD j 0 < ws.getD (j - k) 0 then m.time else m.mostAt.getD j 0)
  | [], m, k, j, _, _ => by
    show m.most.getD j 0 = _ ∧ m.mostAt.getD j 0 = _
    simp
  | w :: r, m, k, j, h1, h2 => by
    obtain ⟨g1, g2, g3, _⟩ := most1_keeps m k w
    have ih := mosts_get r (m.most1 k w) (k + 1) j (by omega) (by omega)
    obtain ⟨a1, a2⟩ := most1_get m k w j h1 h2
    show ((m.most1 k w).mosts (k + 1) r).most.getD j 0 = _ ∧ ((m.most1 k w).mosts (k + 1) r).mostAt.getD j 0 = _
    rw [ih.1, ih.2, a1, a2, g3]
    rcases Nat.lt_trichotomy j k with c | c | c
    · rw [if_neg (by omega), if_neg (by omega), if_neg (by omega), if_neg (by omega), if_neg (by omega), if_neg (by omega)]
      exact ⟨rfl, rfl⟩
    · subst c
      rw [Nat.sub_self]
      have n1 : ¬ (j + 1 ≤ j) := by omega
      have e0 : (w :: r).getD 0 0 = w := rfl
      rw [e0]
      simp [n1]
    · have e : (w :: r).getD (j - k) 0 = r.getD (j - (k + 1)) 0 := by
        rw [show j - k = (j - (k + 1)) + 1 by omega]
        rfl
      rw [e]
      have n : ¬ (j = k) := by omega
      have n1 : k + 1 ≤ j := c
      have n2 : k ≤ j := by omega
      simp [n, n1, n2]
theorem getD_get {l : List Nat} {j : Nat} (h : j < l.length) : l.getD j 0 = l[j] := by
  rw [List.getD_eq_getElem?_getD, List.getElem?_eq_getElem h]
  rfl
theorem R.noted {m : M} {s : Sy49.St} (h : R m s) : R m.keepMost (Sy49.noted s) := by
  have hb := borne_get m m.cross
  obtain ⟨l1, l2, a, b, hab⟩ := mosts_keeps m.borne m 0
  have hk : m.keepMost = { m with most := (m.mosts 0 m.borne).most, mostAt := (m.mosts 0 m.borne).mostAt } := by
    show m.mosts 0 m.borne = _
    rw [hab]
  have ok2 := h.ok.keepMost
  rw [hk] at ok2 ⊢
  refine ⟨ok2, h.turn, h.tpos, h.spans, h.waits, h.wq, h.onIt, h.cside, h.side, h.gone, h.shut, h.time, h.came, h.pa, h.pb, ?_, h.light⟩
  show s.most.zipIdx.map (fun (x : (Nat × Nat) × Nat) => if x.1.1 < Sy49.bears s s.onIt x.2 then (Sy49.bears s s.onIt x.2, s.time) else x.1) = (m.mosts 0 m.borne).most.zip (m.mosts 0 m.borne).mostAt
  have hm := h.ok.mo
  have ha := h.ok.ma
  rw [h.most]
  apply List.ext_getElem
  · rw [List.length_map, List.length_zipIdx, List.length_zip, List.length_zip, l1, l2]
  · intro j h1 h2
    rw [List.length_map, List.length_zipIdx, List.length_zip] at h1
    have hj1 : j < m.most.length := by omega
    have hj2 : j < m.mostAt.length := by omega
    have hjc : j < m.cells.length := by omega
    rw [List.getElem_map, List.getElem_zipIdx, List.getElem_zip, List.getElem_zip]
    have eb : Sy49.bears s s.onIt (0 + j) = m.borneBy j m.cross := by
      rw [h.onIt, Nat.zero_add]
      exact h.sp.bears m.cross j fun i hi => (h.ok.cr i hi).2.2
    show (if m.most[j] < Sy49.bears s s.onIt (0 + j) then (Sy49.bears s s.onIt (0 + j), s.time) else (m.most[j], m.mostAt[j])) = _
    rw [eb, h.time]
    have e1 : m.borne.getD j 0 = m.borneBy j m.cross := hb.2 j hjc
    obtain ⟨g1, g2⟩ := mosts_get m.borne m 0 j hj1 hj2
    rw [Nat.sub_zero, e1] at g1 g2
    rw [getD_get (by rw [l1]; exact hj1), getD_get hj1] at g1
    rw [getD_get (by rw [l2]; exact hj2), getD_get hj1, getD_get hj2] at g2
    rw [g1, g2]
    by_cases c : m.most[j] < m.borneBy j m.cross
    · rw [if_pos c, if_pos ⟨Nat.zero_le _, c⟩, if_pos ⟨Nat.zero_le _, c⟩]
    · rw [if_neg c, if_neg fun z => c z.2, if_neg fun z => c z.2]
/-! ### a tick -/
theorem R.tick {m : M} {s : Sy49.St} (h : R m s) : R m.tick (Sy49.tick s) := (h.move.1.turned.entered).noted
theorem noted_past (s : Sy49.St) : (Sy49.noted s).past = s.past := rfl
theorem entered_past (s : Sy49.St) : (Sy49.entered s).past = s.past := by
  unfold Sy49.entered
  split
  · rfl
  · split <;> rfl
theorem turned_past (s : Sy49.St) : (Sy49.turned s).past = s.past := by
  unfold Sy49.turned
  split <;> rfl
theorem R.tick_past {m : M} {s : Sy49.St} (h : R m s) : (Sy49.tick s).past = s.past ++ m.left.map fun i => ⟨i, 0, s.time + 1⟩ := by
  unfold Sy49.tick
  simp only
  rw [noted_past, entered_past, turned_past]
  show s.past ++ _ = _
  congr 1
  rw [← h.move.2, List.map_map]
  rfl
theorem R.ticks : ∀ {n : Nat} {m : M} {s : Sy49.St}, R m s → R (m.ticks n) (Sy49.ticks n s)
  | 0, _, _, h => h
  | n + 1, _, _, h => R.ticks (n := n) h.tick
theorem R.ticks_past : ∀ {n : Nat} {m : M} {s : Sy49.St}, R m s → ∃ l : List Sy49.Past, (Sy49.ticks n s).past = s.past ++ l ∧ l.map (fun (p : Sy49.Past) => p.id) = m.lefts n
  | 0, m, s, _ => ⟨[], by show s.past = _; simp, rfl⟩
  | n + 1, m, s, h => by
    obtain ⟨l, h1, h2⟩ := R.ticks_past (n := n) h.tick
    refine ⟨(m.left.map fun i => (⟨i, 0, s.time + 1⟩ : Sy49.Past)) ++ l, ?_, ?_⟩
    · show (Sy49.ticks n (Sy49.tick s)).past = _
      rw [h1, h.tick_past, List.append_assoc]
    · rw [List.map_append, h2, List.map_map]
      show m.left.map id ++ _ = m.left ++ _
      rw [List.map_id]
end OL


namespace OL
open M
/-! ## the calls, by both -/
theorem out_ok (v : Int) : Sy49Neutral.out (Sy49.ok v) = [v] := rfl
theorem out_one (v : Int) (l : List Int) : Sy49Neutral.out ⟨v, [l]⟩ = v :: (l.length : Int) :: l := by
  unfold Sy49Neutral.out
  simp
theorem ints_len (l : List Nat) : (Sy49.ints l).length = l.length := List.length_map ..
theorem ints_eq (l : List Nat) : Sy49.ints l = M.ofN l := rfl
theorem out_row (v : Nat) (l : List Nat) : Sy49Neutral.out ⟨(v : Int), [Sy49.ints l]⟩ = M.row v l := by
  rw [out_one, ints_len]
  rfl
/-! ### comes -/
theorem add_car {m : M} {d w j : Nat} (h : j < m.cars.length) : (m.add d w).car j = m.car j := by
  unfold M.car
  show (m.cars ++ [_]).getD j noVeh = _
  rw [List.getD_eq_getElem?_getD, List.getElem?_append_left h, List.getD_eq_getElem?_getD]
theorem add_car_new {m : M} {d w : Nat} : (m.add d w).car m.cars.length = ⟨d, w, 0, 0, 0⟩ := by
  unfold M.car
  show (m.cars ++ [_]).getD _ noVeh = _
  rw [List.getD_eq_getElem?_getD, List.getElem?_append_right (Nat.le_refl _), Nat.sub_self]
  rfl
theorem add_num {m : M} {d w : Nat} : (m.add d w).cars.length = m.cars.length + 1 := by
  show (m.cars ++ [_]).length = _
  rw [List.length_append]
  rfl
theorem add_wait {m : M} {d w e : Nat} (hd : d ≤ 1) (he : e ≤ 1) : (m.add d w).wait e = if e = d then m.wait e ++ [m.cars.length] else m.wait e := by
  show (m.setWait d (m.wait d ++ [m.cars.length])).wait e = _
  rw [setWait_wait hd e he]
  by_cases g : e = d
  · rw [if_pos g, if_pos g, g]
  · rw [if_neg g, if_neg g]
theorem add_other {m : M} {d w : Nat} : (m.add d w).turn = m.turn ∧ (m.add d w).cells = m.cells ∧ (m.add d w).limits = m.limits ∧ (m.add d w).cross = m.cross ∧ (m.add d w).side = m.side ∧ (m.add d w).gone = m.gone ∧
    (m.add d w).shut = m.shut ∧ (m.add d w).time = m.time ∧ (m.add d w).most = m.most ∧ (m.add d w).mostAt = m.mostAt := setWait_other
theorem OK.add {m : M} (ok : OK m) {d w : Nat} (hd : d ≤ 1) (hn : m.cars.length < 60) : OK (m.add d w) := by
  obtain ⟨t1, t2, t3, t4, t5, t6, t7, t8, t9, t10⟩ := add_other (m := m) (d := d) (w := w)
  have hN : (m.add d w).N = m.N := by unfold M.N M.spanOf; rw [t2]
  have lt : ∀ i, i < m.cars.length + 1 → i < m.cars.length ∨ i = m.cars.length := fun i h => by omega
  refine ⟨by rw [t3, t2]; exact ok.lim, by rw [t9, t2]; exact ok.mo, by rw [t10, t2]; exact ok.ma, by rw [t2]; exact ok.some_, by rw [t2]; exact ok.few, by rw [t2]; exact ok.pos, by rw [t5]; exact ok.sd, by rw [add_num]; omega,
    fun i hi => ?_, fun e he i hi => ?_, fun e he => ?_, fun i hi hp => ?_, fun i hi => ?_, by rw [t4]; exact ok.cnd, fun i hi hp => ?_, ?_⟩
  · rw [add_num] at hi
    rcases lt i hi with h | rfl
    · rw [add_car h]; exact ok.csd i h
    · rw [add_car_new]; exact hd
  · rw [add_wait hd he] at hi
    have hi' : i ∈ m.wait e ∨ (e = d ∧ i = m.cars.length) := by
      split at hi
      · rcases List.mem_append.mp hi with h | h
        · exact .inl h
        · exact .inr ⟨by assumption, by simpa using h⟩
      · exact .inl hi
    rw [add_num]
    rcases hi' with h | ⟨rfl, rfl⟩
    · obtain ⟨a, b, c⟩ := ok.wt e he i h
      rw [add_car a]
      exact ⟨by omega, b, c⟩
    · rw [add_car_new]
      exact ⟨by omega, rfl, rfl⟩
  · rw [add_wait hd he]
    split
    · rw [List.nodup_append]
      exact ⟨ok.wnd e he, by simp, fun a ha b hb => by
        simp at hb; subst hb
        have := (ok.wt e he a ha).1
        omega⟩
    · exact ok.wnd e he
  · rw [add_num] at hi
    rcases lt i hi with h | rfl
    · rw [add_car h] at hp ⊢
      have z := ok.win i h hp
      rw [add_wait hd (ok.csd i h)]
      split
      · exact List.mem_append_left _ z
      · exact z
    · rw [add_car_new]
      rw [add_wait hd hd, if_pos rfl]
      exact List.mem_append_right _ (by simp)
  · rw [t4] at hi
    obtain ⟨a, b, c⟩ := ok.cr i hi
    rw [add_car a, add_num, hN]
    exact ⟨by omega, b, c⟩
  · rw [add_num] at hi
    rw [t4]
    rcases lt i hi with h | rfl
    · rw [add_car h] at hp; exact ok.cin i h hp
    · rw [add_car_new] at hp; cases hp
  · rw [t4, add_num]
    have a0 : (m.add d w).w0 = (m.add d w).wait 0 := rfl
    have a1 : (m.add d w).w1 = (m.add d w).wait 1 := rfl
    have b0 : m.w0 = m.wait 0 := rfl
    have b1 : m.w1 = m.wait 1 := rfl
    have := ok.len
    rw [b0, b1] at this
    rw [a0, a1, add_wait hd (by omega), add_wait hd (by omega)]
    rcases (by omega : d = 0 ∨ d = 1) with rfl | rfl
    · rw [if_pos rfl, if_neg (by omega), List.length_append]
      show _ + 1 + _ + _ ≤ _
      omega
    · rw [if_neg (by omega), if_pos rfl, List.length_append]
      show _ + (_ + 1) + _ ≤ _
      omega
theorem R.add {m : M} {s : Sy49.St} (h : R m s) {d w : Nat} (hd : d ≤ 1) (hn : m.cars.length < 60) (hw : w ≤ m.least) (hle : ∀ l ∈ m.limits, m.least ≤ l) :
    R (m.add d w) { s with waits := s.waits ++ [⟨s.came, d, w⟩], came := s.came + 1 } := by
  obtain ⟨t1, t2, t3, t4, t5, t6, t7, t8, t9, t10⟩ := add_other (m := m) (d := d) (w := w)
  have hN : (m.add d w).N = m.N := by unfold M.N M.spanOf; rw [t2]
  have wids : waitIds (m.add d w) = waitIds m ++ [m.cars.length] := by
    unfold waitIds
    rw [add_num, List.range_succ, List.filter_append]
    congr 1
    · apply List.filter_congr
      intro i hi
      rw [add_car (List.mem_range.mp hi)]
    · rw [List.filter_cons, add_car_new]
      rfl
  have lt : ∀ i, i < m.cars.length + 1 → i < m.cars.length ∨ i = m.cars.length := fun i h => by omega
  have carL : ∀ i, i < m.cars.length → carOf (m.add d w) i = carOf m i := fun i hi => by unfold carOf; rw [add_car hi]
  have wlt : ∀ i ∈ waitIds m, i < m.cars.length := fun i hi => List.mem_range.mp (List.mem_filter.mp hi).1
  refine ⟨h.ok.add hd hn, by rw [t1]; exact h.turn, by rw [t1]; exact h.tpos, by rw [t2, t3]; exact h.spans, ?_, fun e he => ?_, ?_, fun i hi => ?_, by rw [t5]; exact h.side, by rw [t6]; exact h.gone, by rw [t7]; exact h.shut, by rw [t8]; exact h.time, ?_, fun p hp => ?_, fun i hi h2 => ?_, by rw [t9, t10]; exact h.most, fun i hi h1 l hl => ?_⟩
  · show s.waits ++ [_] = _
    rw [wids, List.map_append, h.waits, List.map_congr_left fun i hi => carL i (wlt i hi)]
    congr 1
    show [_] = [carOf (m.add d w) m.cars.length]
    unfold carOf
    rw [add_car_new, h.came]
  · rw [add_wait hd he, wids, List.filter_append, h.wq e he]
    have e1 : (waitIds m).filter (fun i => decide (((m.add d w).car i).side = e)) = (waitIds m).filter fun i => decide ((m.car i).side = e) := List.filter_congr fun i hi => by rw [add_car (wlt i hi)]
    rw [e1]
    by_cases g : e = d
    · rw [if_pos g, List.filter_cons, add_car_new, if_pos (by simp [g])]
      rfl
    · have ne : ¬ d = e := fun q => g q.symm
      rw [if_neg g, List.filter_cons, add_car_new, if_neg (by simp [ne])]
      simp
  · rw [t4]
    show s.onIt = _
    rw [h.onIt, enc_same (m' := m.add d w) hN fun i hi => add_car (h.ok.cr i hi).1]
  · rw [t4] at hi
    rw [add_car (h.ok.cr i hi).1, t5]
    exact h.cside i hi
  · show s.came + 1 = _
    rw [add_num, h.came]
  · obtain ⟨a, b, c⟩ := h.pa p hp
    rw [add_num, add_car a]
    exact ⟨by omega, b, c⟩
  · rw [add_num] at hi
    rcases lt i hi with g | rfl
    · rw [add_car g] at h2; exact h.pb i g h2
    · rw [add_car_new] at h2
      have : 2 ≤ 0 := h2
      omega
  · rw [add_num] at hi
    rw [t3] at hl
    rcases lt i hi with g | rfl
    · rw [add_car g] at h1 ⊢; exact h.light i g h1 l hl
    · rw [add_car_new]
      exact Nat.le_trans hw (hle l hl)
/-! ### one that waits goes -/
theorem carOf_inj {m : M} {i j : Nat} (e : carOf m i = carOf m j) : i = j := congrArg (fun c : Sy49.Car => c.id) e
theorem R.goes {m : M} {s : Sy49.St} (h : R m s) {i how : Nat} (hi : i < m.cars.length) (h0 : (m.car i).place = 0) : R (m.take i (how + 2)) (Sy49.away s how [carOf m i]) := by
  have f := fix_take (m := m) (i := i) (p := how + 2)
  obtain ⟨t1, t2, t3, t4, t5, t6, t7, t8, t9, t10⟩ := setWait_other (m := m) (d := (m.car i).side) (l := (m.wait (m.car i).side).erase i)
  have hd := h.ok.csd i hi
  have ecar : (m.take i (how + 2)).car i = { m.car i with place := how + 2, went := m.time } := take_car hi
  have wids : waitIds (m.take i (how + 2)) = (waitIds m).filter fun j => decide (j ≠ i) := by
    unfold waitIds
    rw [f.num, List.filter_filter]
    apply List.filter_congr
    intro j hj
    by_cases z : i = j
    · subst z
      rw [ecar]
      simp
    · rw [take_car_ne z]
      have ne : j ≠ i := fun q => z q.symm
      simp [ne]
  have hni : i ∉ m.cross := fun z => by have := (h.ok.cr i z).2.1; omega
  have ecross : (m.take i (how + 2)).cross = m.cross := t4
  refine ⟨h.ok.away hi h0 (by omega), ?_, ?_, ?_, ?_, fun d hd' => ?_, ?_, fun j hj => ?_, ?_, ?_, ?_, ?_, ?_, fun p hp => ?_, fun j hj h2 => ?_, ?_, fun j hj h1 l hl => ?_⟩
  · rw [f.turn]; exact h.turn
  · rw [f.turn]; exact h.tpos
  · rw [f.cells, f.limits]; exact h.spans
  · show s.waits.filter (fun (c : Sy49.Car) => ![carOf m i].contains c) = _
    rw [h.waits, wids, List.filter_map]
    rw [List.map_congr_left fun j _ => carOf_fix f j]
    congr 1
    apply List.filter_congr
    intro j _
    show (![carOf m i].contains (carOf m j)) = _
    by_cases z : j = i
    · subst z; simp
    · have : carOf m j ≠ carOf m i := fun q => z (carOf_inj q)
      simp [z, this]
  · rw [take_wait hd hd', wids, List.filter_filter]
    by_cases g : d = (m.car i).side
    · have nd : ((waitIds m).filter fun i => decide ((m.car i).side = d)).Nodup := List.Sublist.nodup List.filter_sublist (waitIds_nd m)
      rw [if_pos g, h.wq d hd', List.Nodup.erase_eq_filter nd i, List.filter_filter]
      apply List.filter_congr
      intro j _
      rw [f.sd]
      rw [bne, Bool.beq_eq_decide_eq, decide_not, Bool.and_comm]
    · rw [if_neg g, h.wq d hd']
      apply List.filter_congr
      intro j _
      rw [f.sd]
      by_cases z : j = i
      · subst z
        rw [decide_eq_false fun q => g q.symm]
        rfl
      · simp [z]
  · rw [ecross]
    show s.onIt = _
    rw [h.onIt, enc_same (m := m) (m' := m.take i (how + 2)) f.N fun j hj => take_car_ne fun q => hni (by rw [q]; exact hj)]
  · rw [ecross] at hj
    rw [f.sd]
    have e1 : (m.take i (how + 2)).side = m.side := t5
    rw [e1]
    exact h.cside j hj
  · exact h.side.trans t5.symm
  · exact h.gone.trans t6.symm
  · exact h.shut.trans t7.symm
  · exact h.time.trans t8.symm
  · rw [f.num]; exact h.came
  · rw [f.num]
    rcases List.mem_append.mp (show p ∈ s.past ++ [⟨i, how, s.time⟩] from hp) with hp | hp
    · obtain ⟨a, b, c⟩ := h.pa p hp
      have z : i ≠ p.id := fun z => by rw [← z] at b; omega
      rw [take_car_ne z]
      exact ⟨a, b, c⟩
    · simp at hp
      subst hp
      show i < _ ∧ ((m.take i (how + 2)).car i).place = how + 2 ∧ ((m.take i (how + 2)).car i).went = s.time
      rw [ecar, h.time]
      exact ⟨hi, rfl, rfl⟩
  · rw [f.num] at hj
    by_cases z : i = j
    · subst z
      exact ⟨⟨i, how, s.time⟩, List.mem_append_right _ (by show _ ∈ [_]; simp [carOf]), rfl⟩
    · rw [take_car_ne z] at h2
      obtain ⟨p, hp, e⟩ := h.pb j hj h2
      exact ⟨p, List.mem_append_left _ hp, e⟩
  · show s.most = (m.setWait _ _).most.zip (m.setWait _ _).mostAt
    rw [t9, t10]; exact h.most
  · rw [f.num] at hj
    rw [f.limits] at hl
    rw [f.wt]
    refine h.light j hj ?_ l hl
    by_cases z : i = j
    · subst z; omega
    · rw [take_car_ne z] at h1; exact h1
theorem away_snoc (s : Sy49.St) (how : Nat) (l : List Sy49.Car) (c : Sy49.Car) : Sy49.away s how (l ++ [c]) = Sy49.away (Sy49.away s how l) how [c] := by
  unfold Sy49.away
  simp only [List.map_append, List.append_assoc, List.filter_filter]
  congr 1
  apply List.filter_congr
  intro x _
  rw [List.contains_append]
  cases l.contains x <;> cases [c].contains x <;> rfl
theorem R.sends {m : M} {s : Sy49.St} (h : R m s) : ∀ l : List Nat, l.Nodup → (∀ i ∈ l, i < m.cars.length ∧ (m.car i).place = 0) → R (m.send l) (Sy49.away s 2 (l.map (carOf m))) ∧ Sends m l (m.send l) := by
  intro l
  induction l using snoc_ind with
  | h0 =>
    intro _ _
    refine ⟨?_, Sends.nil m⟩
    have e : Sy49.away s 2 [] = s := by
      have ew : s.waits.filter (fun (c : Sy49.Car) => !([] : List Sy49.Car).contains c) = s.waits := List.filter_eq_self.mpr fun c _ => rfl
      unfold Sy49.away
      rw [ew]
      simp
    show R m (Sy49.away s 2 [])
    rw [e]
    exact h
  | h1 l i ih =>
    intro nd hl
    obtain ⟨n1, n2, n3⟩ := List.nodup_append.mp nd
    obtain ⟨r, sd⟩ := ih n1 fun j hj => hl j (by simp [hj])
    have ni : i ∉ l := fun z => n3 i z i (by simp) rfl
    obtain ⟨hi, h0⟩ := hl i (by simp)
    have ec := sd.out i ni
    have g := r.goes (i := i) (how := 2) (by rw [sd.fix.num]; exact hi) (by rw [ec]; exact h0)
    rw [send_snoc, List.map_append]
    show R _ (Sy49.away s 2 (l.map (carOf m) ++ [carOf m i])) ∧ _
    rw [away_snoc]
    have e : carOf (m.send l) i = carOf m i := by unfold carOf; rw [ec]
    rw [e] at g
    exact ⟨g, sd.step ni hi (h.ok.csd i hi)⟩
end OL


namespace OL
open M
/-- both do the same, and answer the same -/
def Same2 (x : M × List Int) (y : Sy49.St × Sy49.Ans) : Prop := R x.1 y.1 ∧ Sy49Neutral.out y.2 = x.2
theorem same_no {m : M} {s : Sy49.St} (h : R m s) (z : Int) : Same2 (m, [z]) (s, Sy49.ok z) := ⟨h, rfl⟩
theorem least_mem2 : ∀ (l : List Nat) (a : Nat), (l.foldl min a = a ∨ l.foldl min a ∈ l) ∧ l.foldl min a ≤ a ∧ ∀ y ∈ l, l.foldl min a ≤ y
  | [], a => ⟨.inl rfl, Nat.le_refl a, fun y h => by cases h⟩
  | x :: r, a => by
    obtain ⟨h1, h2, h3⟩ := least_mem2 r (min a x)
    show (r.foldl min (min a x) = a ∨ r.foldl min (min a x) ∈ x :: r) ∧ _
    refine ⟨?_, Nat.le_trans h2 (Nat.min_le_left a x), fun y hy => ?_⟩
    · rcases h1 with h1 | h1
      · rw [h1]
        by_cases c : a ≤ x
        · exact .inl (Nat.min_eq_left c)
        · exact .inr (by rw [Nat.min_eq_right (by omega)]; exact List.mem_cons_self ..)
      · exact .inr (List.mem_cons_of_mem _ h1)
    · rcases List.mem_cons.mp hy with rfl | hy
      · exact Nat.le_trans h2 (Nat.min_le_right a y)
      · exact h3 y hy
theorem least_is2 {m : M} (ok : OK m) : m.least ∈ m.limits ∧ ∀ y ∈ m.limits, m.least ≤ y := by
  have hl := ok.lim
  have hp := ok.some_
  obtain ⟨h1, h2, h3⟩ := least_mem2 m.limits (m.limits.getD 0 0)
  refine ⟨?_, h3⟩
  rcases h1 with h1 | h1
  · show m.limits.foldl min (m.limits.getD 0 0) ∈ m.limits
    rw [h1, List.getD_eq_getElem?_getD, List.getElem?_eq_getElem (by omega)]
    exact List.getElem_mem _
  · exact h1
theorem so_comes {m : M} {s : Sy49.St} (h : R m s) (a : List Nat) : Same2 (M.comesM m a) (Sy49.step s (.comes (a.getD 0 0) (a.getD 1 0))) := by
  unfold M.comesM
  generalize a.getD 0 0 = d
  generalize a.getD 1 0 = w
  show Same2 _ (if 1 < d ∨ w < 1 ∨ 1000 < w then (s, Sy49.ok (-1)) else if 60 ≤ s.came then (s, Sy49.ok (-5)) else if Sy49.least s < w then (s, Sy49.ok (-6)) else ({ s with waits := s.waits ++ [⟨s.came, d, w⟩], came := s.came + 1 }, Sy49.ok (s.came : Nat)))
  rw [h.came, h.sp.least]
  by_cases c1 : d ≤ 1
  · rw [if_pos (decide_eq_true c1)]
    by_cases c2 : 1 ≤ w ∧ w ≤ 1000
    · rw [if_pos (decide_eq_true c2), if_neg (show ¬ (1 < d ∨ w < 1 ∨ 1000 < w) by omega)]
      by_cases c3 : 60 ≤ m.cars.length
      · rw [if_pos c3, if_pos c3]; exact same_no h _
      · rw [if_neg c3, if_neg c3]
        by_cases c4 : m.least < w
        · rw [if_pos c4, if_pos c4]; exact same_no h _
        · rw [if_neg c4, if_neg c4]
          have r := h.add (d := d) (w := w) c1 (by omega) (by omega) (least_is2 h.ok).2
          rw [h.came] at r
          exact ⟨r, rfl⟩
    · rw [if_neg (by simp [c2]), if_pos (show 1 < d ∨ w < 1 ∨ 1000 < w by omega)]; exact same_no h _
  · rw [if_neg (by simp [c1]), if_pos (show 1 < d ∨ w < 1 ∨ 1000 < w by omega)]; exact same_no h _
theorem filter_none {l : List Nat} {i : Nat} (h : i ∉ l) : l.filter (fun x => x == i) = [] := by
  rw [List.filter_eq_nil_iff]
  intro x hx z
  exact h (by rw [← eq_of_beq z]; exact hx)
theorem filter_one : ∀ {l : List Nat} {i : Nat}, l.Nodup → i ∈ l → l.filter (fun x => x == i) = [i]
  | [], _, _, h => by cases h
  | a :: r, i, nd, h => by
    obtain ⟨n1, n2⟩ := List.nodup_cons.mp nd
    rw [List.filter_cons]
    by_cases e : a = i
    · subst e
      rw [if_pos (beq_self_eq_true a), filter_none n1]
    · rw [if_neg (by simp [e])]
      refine filter_one n2 ?_
      rcases List.mem_cons.mp h with z | z
      · exact absurd z.symm e
      · exact z
theorem wait_find {m : M} {s : Sy49.St} (h : R m s) (i : Nat) : s.waits.find? (fun (c : Sy49.Car) => c.id == i) = if i < m.cars.length ∧ (m.car i).place = 0 then some (carOf m i) else none := by
  rw [h.waits, find_map]
  have key : (waitIds m).filter (fun x => (carOf m x).id == i) = if i < m.cars.length ∧ (m.car i).place = 0 then [i] else [] := by
    have e : (waitIds m).filter (fun x => (carOf m x).id == i) = (waitIds m).filter (fun x => x == i) := rfl
    rw [e]
    by_cases c : i < m.cars.length ∧ (m.car i).place = 0
    · rw [if_pos c]
      have mem : i ∈ waitIds m := List.mem_filter.mpr ⟨List.mem_range.mpr c.1, decide_eq_true c.2⟩
      exact filter_one (waitIds_nd m) mem
    · rw [if_neg c]
      have nmem : i ∉ waitIds m := fun z => c ⟨List.mem_range.mp (List.mem_filter.mp z).1, of_decide_eq_true (List.mem_filter.mp z).2⟩
      exact filter_none nmem
  rw [key]
  split <;> rfl
theorem wait_count {m : M} {s : Sy49.St} (h : R m s) : s.waits.length = m.w0.length + m.w1.length := by
  have e0 : m.w0 = m.wait 0 := rfl
  have e1 : m.w1 = m.wait 1 := rfl
  rw [h.waits, List.length_map, e0, e1, h.wq 0 (by omega), h.wq 1 (by omega)]
  have lt : ∀ i ∈ waitIds m, (m.car i).side ≤ 1 := fun i hi => h.ok.csd i (List.mem_range.mp (List.mem_filter.mp hi).1)
  generalize waitIds m = l at lt
  induction l with
  | nil => rfl
  | cons a r ih =>
    have ih := ih fun i hi => lt i (List.mem_cons_of_mem _ hi)
    have la := lt a (List.mem_cons_self ..)
    rw [List.filter_cons, List.filter_cons]
    rcases (by omega : (m.car a).side = 0 ∨ (m.car a).side = 1) with g | g
    · rw [if_pos (by simp [g]), if_neg (by simp [g]), List.length_cons, List.length_cons, ih]; omega
    · rw [if_neg (by simp [g]), if_pos (by simp [g]), List.length_cons, List.length_cons, ih]; omega
theorem so_gives {m : M} {s : Sy49.St} (h : R m s) (a : List Nat) : Same2 (M.givesM m a) (Sy49.step s (.gives (a.getD 0 0))) := by
  unfold M.givesM
  generalize a.getD 0 0 = i
  show Same2 _ (if s.came ≤ i then (s, Sy49.ok (-2)) else (match s.waits.find? (fun (c : Sy49.Car) => c.id == i) with
      | none => (s, Sy49.ok (-4))
      | some c => (Sy49.away s 1 [c], Sy49.ok ((s.waits.length - 1 : Nat) : Int))))
  rw [h.came, wait_find h]
  by_cases c1 : m.cars.length ≤ i
  · rw [if_pos c1, if_pos c1]; exact same_no h _
  · rw [if_neg c1, if_neg c1]
    by_cases c2 : (m.car i).place = 0
    · rw [if_pos c2, if_pos ⟨by omega, c2⟩]
      have r := h.goes (i := i) (how := 1) (by omega) c2
      refine ⟨r, ?_⟩
      have l := take_len (m := m) (i := i) (p := 3) (h.ok.csd i (by omega)) (h.ok.win i (by omega) c2)
      show [((s.waits.length - 1 : Nat) : Int)] = [(((m.take i 3).w0.length + (m.take i 3).w1.length : Nat) : Int)]
      rw [wait_count h, show m.w0.length + m.w1.length - 1 = (m.take i 3).w0.length + (m.take i 3).w1.length by omega]
    · rw [if_neg c2, if_neg fun z => c2 z.2]; exact same_no h _
theorem so_ticks {m : M} {s : Sy49.St} (h : R m s) (a : List Nat) : Same2 (M.ticksM m a) (Sy49.step s (.ticks (a.getD 0 0))) := by
  unfold M.ticksM
  generalize a.getD 0 0 = n
  show Same2 _ (if n < 1 ∨ 1000 < n then (s, Sy49.ok (-1)) else (Sy49.ticks n s, ⟨((Sy49.ticks n s).time : Nat), [Sy49.ints (((Sy49.ticks n s).past.drop s.past.length).map fun (p : Sy49.Past) => p.id)]⟩))
  by_cases c : 1 ≤ n ∧ n ≤ 1000
  · rw [if_pos (decide_eq_true c), if_neg (by omega)]
    have r := h.ticks (n := n)
    obtain ⟨l, h1, h2⟩ := h.ticks_past (n := n)
    refine ⟨r, ?_⟩
    show Sy49Neutral.out _ = _
    rw [out_row, h1, List.drop_left, h2, r.time]
  · rw [if_neg (by simp [c]), if_pos (by omega)]; exact same_no h _
theorem take_setLimit {m : M} {i p k w : Nat} : (m.setLimit k w).take i p = (m.take i p).setLimit k w := by
  unfold M.take M.put M.setCar M.setWait M.setLimit M.wait M.car
  simp only
  by_cases g : ((m.cars.getD i noVeh).side) = 0
  · simp only [g, if_true]
  · simp only [g, if_false]
theorem send_setLimit {k w : Nat} : ∀ (l : List Nat) (m : M), (m.setLimit k w).send l = (m.send l).setLimit k w
  | [], _ => rfl
  | i :: r, m => by
    show ((m.setLimit k w).take i 4).send r = ((m.take i 4).send r).setLimit k w
    rw [take_setLimit, send_setLimit r]
theorem set_zip : ∀ (cs ls : List Nat) (k w : Nat), ls.length = cs.length → (cs.zip ls).set k (((cs.zip ls).getD k (0, 0)).1, w) = cs.zip (ls.set k w)
  | [], [], _, _, _ => rfl
  | c :: r, l :: t, 0, w, _ => rfl
  | c :: r, l :: t, k + 1, w, h => by
    have ih := set_zip r t k w (Nat.succ.inj h)
    show (c, l) :: (r.zip t).set k (((r.zip t).getD k (0, 0)).1, w) = (c, l) :: r.zip (t.set k w)
    rw [ih]
  | _ :: _, [], _, _, h => by simp at h
  | [], _ :: _, _, _, h => by simp at h
theorem OK.setLim2 {m : M} (ok : OK m) (i n : Nat) : OK (m.setLimit i n) :=
  ⟨by show (m.limits.set i n).length = _; rw [List.length_set]; exact ok.lim, ok.mo, ok.ma, ok.some_, ok.few, ok.pos, ok.sd, ok.num, ok.csd, ok.wt, ok.wnd, ok.win, ok.cr, ok.cnd, ok.cin, ok.len⟩
theorem so_limit {m : M} {s : Sy49.St} (h : R m s) (a : List Nat) : Same2 (M.limitM m a) (Sy49.step s (.limit (a.getD 0 0) (a.getD 1 0))) := by
  unfold M.limitM
  generalize a.getD 0 0 = k
  generalize a.getD 1 0 = w
  show Same2 _ (if w < 1 ∨ 1000 < w then (s, Sy49.ok (-1)) else if s.spans.length ≤ k then (s, Sy49.ok (-2)) else if s.onIt.isEmpty = false then (s, Sy49.ok (-4)) else
      (Sy49.away { s with spans := s.spans.set k ((s.spans.getD k (0, 0)).1, w) } 2 (s.waits.filter fun (c : Sy49.Car) => decide (Sy49.least { s with spans := s.spans.set k ((s.spans.getD k (0, 0)).1, w) } < c.weight)),
        ⟨((s.waits.filter fun (c : Sy49.Car) => decide (Sy49.least { s with spans := s.spans.set k ((s.spans.getD k (0, 0)).1, w) } < c.weight)).length : Nat),
          [Sy49.ints ((s.waits.filter fun (c : Sy49.Car) => decide (Sy49.least { s with spans := s.spans.set k ((s.spans.getD k (0, 0)).1, w) } < c.weight)).map fun (c : Sy49.Car) => c.id)]⟩))
  have hsl : s.spans.length = m.limits.length := by
    rw [h.spans, List.length_zip, h.ok.lim]
    omega
  rw [hsl]
  by_cases c1 : 1 ≤ w ∧ w ≤ 1000
  · rw [if_pos (decide_eq_true c1), if_neg (show ¬ (w < 1 ∨ 1000 < w) by omega)]
    by_cases c2 : m.limits.length ≤ k
    · rw [if_pos c2, if_pos c2]; exact same_no h _
    · rw [if_neg c2, if_neg c2]
      by_cases c3 : m.cross.isEmpty = true
      · have e0 : m.cross = [] := List.isEmpty_iff.mp c3
        have e1 : s.onIt = [] := by rw [h.onIt, e0]; rfl
        rw [if_pos c3, if_neg (by rw [e1]; simp)]
        have ok1 := h.ok.setLim2 k w
        have es : s.spans.set k ((s.spans.getD k (0, 0)).1, w) = m.cells.zip (m.limits.set k w) := by rw [h.spans, set_zip _ _ _ _ h.ok.lim]
        rw [es]
        have sp1 : SpanEq (m.setLimit k w) { s with spans := m.cells.zip (m.limits.set k w) } := ⟨rfl, ok1.lim⟩
        rw [sp1.least]
        have el : s.waits.filter (fun (c : Sy49.Car) => decide ((m.setLimit k w).least < c.weight)) = (m.setLimit k w).heavy.map (carOf m) := by
          rw [h.waits, List.filter_map]
          congr 1
          unfold waitIds M.heavy
          rw [List.filter_filter]
          apply List.filter_congr
          intro i _
          show (decide ((m.setLimit k w).least < (m.car i).weight) && decide ((m.car i).place = 0)) = (decide ((m.car i).place = 0) && decide ((m.setLimit k w).least < (m.car i).weight))
          rw [Bool.and_comm]
        rw [el]
        have hv : ∀ i ∈ (m.setLimit k w).heavy, i < m.cars.length ∧ (m.car i).place = 0 := fun i hi => by
          obtain ⟨x, y, _⟩ := heavy_mem.mp hi
          exact ⟨x, y⟩
        obtain ⟨r, sd⟩ := h.sends (m.setLimit k w).heavy (heavy_nd _) hv
        refine ⟨?_, ?_⟩
        · show R ((m.setLimit k w).send (m.setLimit k w).heavy) (Sy49.away { s with spans := m.cells.zip (m.limits.set k w) } 2 ((m.setLimit k w).heavy.map (carOf m)))
          rw [send_setLimit]
          have f := sd.fix
          have ec : (m.send (m.setLimit k w).heavy).cross = [] := by
            have : ∀ (l : List Nat) (x : M), (x.send l).cross = x.cross := by
              intro l
              induction l with
              | nil => intro x; rfl
              | cons i r ih =>
                intro x
                show ((x.take i 4).send r).cross = _
                rw [ih]
                exact (setWait_other (m := x)).2.2.2.1
            rw [this, e0]
          refine ⟨r.ok.setLim2 k w, r.turn, r.tpos, ?_, r.waits, r.wq, ?_, r.cside, r.side, r.gone, r.shut, r.time, r.came, r.pa, r.pb, r.most, fun i hi h1 l hl => ?_⟩
          · show m.cells.zip (m.limits.set k w) = (m.send _).cells.zip ((m.send _).limits.set k w)
            rw [f.cells, f.limits]
          · show s.onIt = enc _ (m.send _).cross
            rw [e1, ec]
            rfl
          · have hi' : i < m.cars.length := by rw [← f.num]; exact hi
            have hl' : l ∈ (m.setLimit k w).limits := by
              have : ((m.send (m.setLimit k w).heavy).setLimit k w).limits = m.limits.set k w := by
                show (m.send _).limits.set k w = _
                rw [f.limits]
              rw [this] at hl
              exact hl
            have hle := (least_is2 ok1).2 l hl'
            have h1' : ((m.send (m.setLimit k w).heavy).car i).place ≤ 1 := h1
            show ((m.send (m.setLimit k w).heavy).car i).weight ≤ l
            rw [f.wt]
            have h2 : ((m.send (m.setLimit k w).heavy).car i).place = 0 := by
              rcases (by omega : ((m.send (m.setLimit k w).heavy).car i).place = 0 ∨ ((m.send (m.setLimit k w).heavy).car i).place = 1) with q | q
              · exact q
              · have := r.ok.cin i (by rw [f.num]; exact hi') q
                rw [ec] at this
                cases this
            have hni : i ∉ (m.setLimit k w).heavy := fun z => by
              rw [sd.gone i z hi'] at h2
              have : (4 : Nat) = 0 := h2
              omega
            have h3 : (m.car i).place = 0 := by rw [← sd.out i hni]; exact h2
            have : ¬ (m.setLimit k w).least < (m.car i).weight := fun z => hni (heavy_mem.mpr ⟨hi', h3, z⟩)
            omega
        · show Sy49Neutral.out _ = _
          rw [out_row, List.length_map, List.map_map]
          show M.row _ ((m.setLimit k w).heavy.map id) = _
          rw [List.map_id]
      · have ne : ¬ m.cross = [] := fun z => c3 (by rw [z]; rfl)
        have e1 : s.onIt.isEmpty = false := by
          rw [h.onIt]
          cases hc : m.cross with
          | nil => exact absurd hc ne
          | cons x r => rfl
        rw [if_neg c3, if_pos e1]; exact same_no h _
  · rw [if_neg (by simp [c1]), if_pos (show w < 1 ∨ 1000 < w by omega)]; exact same_no h _
theorem so_shut {m : M} {s : Sy49.St} (h : R m s) (a : List Nat) : Same2 (M.shutM m a) (Sy49.step s (.shut (a.getD 0 0))) := by
  unfold M.shutM
  generalize a.getD 0 0 = b
  show Same2 _ (if 1 < b then (s, Sy49.ok (-1)) else ({ s with shut := b == 1 }, Sy49.ok (s.onIt.length : Nat)))
  by_cases c : b ≤ 1
  · rw [if_pos (decide_eq_true c), if_neg (by omega)]
    refine ⟨⟨⟨h.ok.lim, h.ok.mo, h.ok.ma, h.ok.some_, h.ok.few, h.ok.pos, h.ok.sd, h.ok.num, h.ok.csd, h.ok.wt, h.ok.wnd, h.ok.win, h.ok.cr, h.ok.cnd, h.ok.cin, h.ok.len⟩, h.turn, h.tpos, h.spans, h.waits, h.wq, h.onIt, h.cside, h.side, h.gone, ?_, h.time, h.came, h.pa, h.pb, h.most, h.light⟩, ?_⟩
    · show (b == 1) = decide (b = 1)
      rw [Bool.beq_eq_decide_eq]
    · have e : s.onIt.length = m.cross.length := by rw [h.onIt]; unfold enc; rw [List.length_map]
      show [((s.onIt.length : Nat) : Int)] = [((m.cross.length : Nat) : Int)]
      rw [e]
  · rw [if_neg (by simp [c]), if_pos (by omega)]; exact same_no h _
theorem past_find {m : M} {s : Sy49.St} (h : R m s) {i : Nat} (hi : i < m.cars.length) :
    (2 ≤ (m.car i).place → ∃ p : Sy49.Past, s.past.find? (fun (p : Sy49.Past) => p.id == i) = some p ∧ p.how + 2 = (m.car i).place ∧ p.time = (m.car i).went) ∧ ((m.car i).place ≤ 1 → s.past.find? (fun (p : Sy49.Past) => p.id == i) = none) := by
  refine ⟨fun h2 => ?_, fun h1 => ?_⟩
  · obtain ⟨p, hp, e⟩ := h.pb i hi h2
    cases q : s.past.find? (fun (p : Sy49.Past) => p.id == i) with
    | none =>
      have := List.find?_eq_none.mp q p hp
      rw [e] at this
      simp at this
    | some p' =>
      have hm := List.mem_of_find?_eq_some q
      have he : p'.id = i := by simpa using List.find?_some q
      obtain ⟨_, b, c⟩ := h.pa p' hm
      rw [he] at b c
      exact ⟨p', rfl, b.symm, c.symm⟩
  · rw [List.find?_eq_none]
    intro p hp z
    have he : p.id = i := by simpa using z
    obtain ⟨_, b, _⟩ := h.pa p hp
    rw [he] at b
    omega
theorem cross_find {m : M} {s : Sy49.St} (h : R m s) (i : Nat) : s.onIt.find? (fun (x : Sy49.Car × Nat) => x.1.id == i) = if i ∈ m.cross then some (carOf m i, dist m i) else none := by
  rw [h.onIt]
  unfold enc
  rw [find_map]
  have e : m.cross.filter (fun x => ((carOf m x, dist m x) : Sy49.Car × Nat).1.id == i) = m.cross.filter (fun x => x == i) := rfl
  rw [e]
  by_cases c : i ∈ m.cross
  · rw [if_pos c, filter_one h.ok.cnd c]
    rfl
  · rw [if_neg c, filter_none c]
    rfl
theorem findIdx_map {m : M} (i : Nat) : ∀ l : List Nat, i ∈ l → ((l.map (carOf m)).findIdx? fun (c : Sy49.Car) => c.id == i) = some (l.idxOf i)
  | [], h => by cases h
  | a :: r, h => by
    rw [List.map_cons, List.findIdx?_cons, List.idxOf_cons]
    show (if (a == i) = true then _ else _) = some (bif a == i then 0 else r.idxOf i + 1)
    cases e : a == i with
    | true => rfl
    | false =>
      have hr : i ∈ r := by
        rcases List.mem_cons.mp h with z | z
        · rw [z] at e; simp at e
        · exact z
      rw [findIdx_map i r hr]
      rfl
theorem queue_eq {m : M} {s : Sy49.St} (h : R m s) {d : Nat} (hd : d ≤ 1) : Sy49.queueOf s d = (m.wait d).map (carOf m) := by
  unfold Sy49.queueOf
  rw [h.waits, List.filter_map, h.wq d hd]
  rfl
theorem so_where {m : M} {s : Sy49.St} (h : R m s) (a : List Nat) : Same2 (M.whereM m a) (Sy49.step s (.where_ (a.getD 0 0))) := by
  unfold M.whereM
  generalize a.getD 0 0 = i
  show Same2 _ (s, Sy49.whereIs s i)
  unfold Sy49.whereIs
  by_cases c1 : m.cars.length ≤ i
  · rw [if_pos c1]
    have e1 : s.past.find? (fun (p : Sy49.Past) => p.id == i) = none := by
      rw [List.find?_eq_none]
      intro p hp z
      have he : p.id = i := by simpa using z
      have := (h.pa p hp).1
      omega
    have e2 := cross_find h i
    rw [if_neg fun z => by have := (h.ok.cr i z).1; omega] at e2
    have e3 := wait_find h i
    rw [if_neg fun z => by omega] at e3
    rw [e1, e2, e3]
    exact same_no h _
  · rw [if_neg c1]
    obtain ⟨p1, p2⟩ := past_find h (i := i) (by omega)
    by_cases c2 : (m.car i).place = 0
    · rw [if_pos c2, p2 (by omega)]
      have e2 := cross_find h i
      rw [if_neg fun z => by have := (h.ok.cr i z).2.1; omega] at e2
      have e3 := wait_find h i
      rw [if_pos ⟨by omega, c2⟩] at e3
      rw [e2, e3]
      refine ⟨h, ?_⟩
      have hs := h.ok.csd i (by omega)
      show Sy49Neutral.out ⟨0, [[((Sy49.placeIn (Sy49.queueOf s (m.car i).side) i : Nat) : Int)]]⟩ = _
      rw [queue_eq h hs]
      unfold Sy49.placeIn
      rw [findIdx_map i _ (h.ok.win i (by omega) c2), out_one]
      rfl
    · rw [if_neg c2]
      by_cases c3 : (m.car i).place = 1
      · rw [if_pos c3, p2 (by omega)]
        have hc := h.ok.cin i (by omega) c3
        have e2 := cross_find h i
        rw [if_pos hc] at e2
        rw [e2]
        refine ⟨h, ?_⟩
        show Sy49Neutral.out ⟨1, [[((Sy49.cellOf s (m.car i).side (dist m i) : Nat) : Int)]]⟩ = _
        rw [h.sp.cellOf (h.ok.cr i hc).2.2, out_one]
        rfl
      · rw [if_neg c3]
        obtain ⟨p, e1, e2, e3⟩ := p1 (by omega)
        rw [e1]
        refine ⟨h, ?_⟩
        show Sy49Neutral.out ⟨(p.how : Int) + 2, [[(p.time : Int)]]⟩ = _
        rw [out_one, ← e2, ← e3]
        rfl
theorem so_loads {m : M} {s : Sy49.St} (h : R m s) (a : List Nat) : Same2 (M.loadsM m a) (Sy49.step s .loads) := by
  show Same2 _ (s, ⟨(s.onIt.length : Nat), [Sy49.ints ((List.range s.spans.length).map (Sy49.bears s s.onIt))]⟩)
  refine ⟨h, ?_⟩
  obtain ⟨l, g⟩ := borne_get m m.cross
  have hsl : s.spans.length = m.cells.length := by
    rw [h.spans, List.length_zip, h.ok.lim]
    omega
  have e : (List.range s.spans.length).map (Sy49.bears s s.onIt) = m.borne := by
    apply List.ext_getElem
    · rw [List.length_map, List.length_range, hsl]
      exact l.symm
    · intro j h1 h2
      rw [List.length_map, List.length_range, hsl] at h1
      rw [List.getElem_map, List.getElem_range]
      have := g j h1
      rw [getD_get (by rw [l]; exact h1)] at this
      show _ = m.borne[j]
      rw [h.onIt, h.sp.bears m.cross j fun i hi => (h.ok.cr i hi).2.2]
      exact this.symm
  show Sy49Neutral.out ⟨(s.onIt.length : Nat), _⟩ = _
  rw [out_row, e]
  have : s.onIt.length = m.cross.length := by rw [h.onIt]; unfold enc; rw [List.length_map]
  rw [this]
  rfl
theorem so_queue {m : M} {s : Sy49.St} (h : R m s) (a : List Nat) : Same2 (M.queueM m a) (Sy49.step s (.queue (a.getD 0 0))) := by
  unfold M.queueM
  generalize a.getD 0 0 = d
  show Same2 _ (s, if 1 < d then Sy49.ok (-1) else ⟨((Sy49.queueOf s d).length : Nat), [Sy49.ints ((Sy49.queueOf s d).map fun (c : Sy49.Car) => c.id)]⟩)
  by_cases c : d ≤ 1
  · rw [if_pos (decide_eq_true c), if_neg (by omega)]
    refine ⟨h, ?_⟩
    show Sy49Neutral.out _ = _
    rw [out_row, queue_eq h c, List.length_map, List.map_map]
    show M.row _ ((m.wait d).map id) = _
    rw [List.map_id]
  · rw [if_neg (by simp [c]), if_pos (by omega)]; exact same_no h _
theorem so_most {m : M} {s : Sy49.St} (h : R m s) (a : List Nat) : Same2 (M.mostM m a) (Sy49.step s .most) := by
  show Same2 _ (s, ⟨0, [Sy49.ints (s.most.flatMap fun (x : Nat × Nat) => [x.1, x.2])]⟩)
  refine ⟨h, ?_⟩
  show Sy49Neutral.out ⟨((0 : Nat) : Int), _⟩ = _
  rw [out_row, h.most]
  rfl
theorem flat_zip {m : M} {s : Sy49.St} (h : R m s) : (s.onIt.flatMap fun (x : Sy49.Car × Nat) => [x.1.id, Sy49.cellOf s x.1.side x.2]) = M.twos m.cross (m.cross.map fun i => (m.car i).cell) := by
  rw [h.onIt]
  have hc : ∀ i ∈ m.cross, (m.car i).cell < m.N := fun i hi => (h.ok.cr i hi).2.2
  have sp := h.sp
  generalize m.cross = l at hc
  unfold M.twos enc
  induction l with
  | nil => rfl
  | cons i r ih =>
    have ih := ih fun j hj => hc j (List.mem_cons_of_mem _ hj)
    rw [List.map_cons, List.flatMap_cons, ih, List.map_cons, List.zip_cons_cons, List.flatMap_cons]
    congr 1
    show [i, Sy49.cellOf s (m.car i).side (dist m i)] = [i, (m.car i).cell]
    rw [sp.cellOf (hc i (List.mem_cons_self ..))]
theorem so_state {m : M} {s : Sy49.St} (h : R m s) (a : List Nat) : Same2 (M.stateM m a) (Sy49.step s .state) := by
  show Same2 _ (s, ⟨(s.time : Nat), [Sy49.ints [s.turn, s.side, s.gone, if s.shut = true then 1 else 0, s.came], Sy49.ints (s.spans.flatMap fun (x : Nat × Nat) => [x.1, x.2]), Sy49.ints (s.onIt.flatMap fun (x : Sy49.Car × Nat) => [x.1.id, Sy49.cellOf s x.1.side x.2])]⟩)
  refine ⟨h, ?_⟩
  rw [flat_zip h, h.turn, h.side, h.gone, h.shut, h.came, h.time, h.spans]
  unfold M.stateM Sy49Neutral.out
  show (m.time : Int) :: _ = M.ofN _
  rw [List.flatMap_cons, List.flatMap_cons, List.flatMap_cons, List.flatMap_nil, List.append_nil, ints_len, ints_len, ints_len]
  unfold M.ofN Sy49.ints
  rw [List.map_append, List.map_append, List.map_append]
  rfl
end OL


namespace OL
open M
/-! ## everybody gets over -/
def potOf (m : M) (i : Nat) : Nat := if (m.car i).place = 0 then m.N + 1 else if (m.car i).place = 1 then m.N - dist m i else 0
def pot (m : M) : Nat := ((List.range m.cars.length).map (potOf m)).sum
theorem sum_le {f g : Nat → Nat} : ∀ l : List Nat, (∀ x ∈ l, f x ≤ g x) → (l.map f).sum ≤ (l.map g).sum
  | [], _ => Nat.le_refl _
  | a :: r, h => by
    have ih := sum_le r fun x hx => h x (List.mem_cons_of_mem _ hx)
    have ha := h a (List.mem_cons_self ..)
    rw [List.map_cons, List.map_cons, List.sum_cons, List.sum_cons]
    omega
theorem sum_lt {f g : Nat → Nat} : ∀ l : List Nat, (∀ x ∈ l, f x ≤ g x) → (∃ x ∈ l, f x < g x) → (l.map f).sum < (l.map g).sum
  | [], _, h => by obtain ⟨x, hx, _⟩ := h; cases hx
  | a :: r, h, ⟨x, hx, hl⟩ => by
    have ha := h a (List.mem_cons_self ..)
    have h' := fun x hx => h x (List.mem_cons_of_mem a hx)
    rw [List.map_cons, List.map_cons, List.sum_cons, List.sum_cons]
    rcases List.mem_cons.mp hx with e | hx
    · subst e
      have := sum_le r h'
      omega
    · have := sum_lt r h' ⟨x, hx, hl⟩
      omega
theorem sum_top {f : Nat → Nat} {c : Nat} : ∀ l : List Nat, (∀ x ∈ l, f x ≤ c) → (l.map f).sum ≤ l.length * c
  | [], _ => by simp
  | a :: r, h => by
    have ih := sum_top r fun x hx => h x (List.mem_cons_of_mem _ hx)
    have ha := h a (List.mem_cons_self ..)
    rw [List.map_cons, List.sum_cons, List.length_cons, Nat.succ_mul]
    omega
/-! ### a move -/
theorem move1_other (S : M × List Nat × List Nat) {i j : Nat} (h : i ≠ j) : (M.move1 S i).1.car j = S.1.car j := by
  unfold M.move1
  split
  · exact car_set_ne h
  · show (if _ then _ else _ : M).car j = _
    split
    · exact car_set_ne h
    · rfl
theorem moves_other {j : Nat} : ∀ (r : List Nat) (S : M × List Nat × List Nat), j ∉ r → (r.foldl M.move1 S).1.car j = S.1.car j
  | [], _, _ => rfl
  | i :: r, S, h => by
    show (r.foldl M.move1 (M.move1 S i)).1.car j = _
    rw [moves_other r _ fun z => h (List.mem_cons_of_mem _ z), move1_other S fun e => h (by rw [e]; exact List.mem_cons_self ..)]
theorem dist_lt {m : M} {i : Nat} (hc : (m.car i).cell < m.N) : dist m i < m.N := by
  unfold dist
  split <;> omega
/-- how one moves on: it leaves, moves on by one, or stays; the first one doesn't stay -/
theorem moved_one {m : M} (ok : OK m) (light : ∀ i ∈ m.cross, ∀ l ∈ m.limits, (m.car i).weight ≤ l) {i : Nat} {l r : List Nat} (e : m.cross = l ++ i :: r) :
    (m.moveAll.car i).place = 2 ∨ ((m.moveAll.car i).place = 1 ∧ dist m.moveAll i = dist m i + 1 ∧ dist m i + 1 < m.N) ∨ ((m.moveAll.car i).place = 1 ∧ dist m.moveAll i = dist m i ∧ l ≠ []) := by
  have hi : i ∈ m.cross := by rw [e]; simp
  obtain ⟨c1, c2, c3⟩ := ok.cr i hi
  have hs := ok.csd i c1
  have nd := ok.cnd
  rw [e] at nd
  obtain ⟨_, nd2, nd3⟩ := List.nodup_append.mp nd
  have hni : i ∉ l := fun z => nd3 i z i (List.mem_cons_self ..) rfl
  have hnr : i ∉ r := (List.nodup_cons.mp nd2).1
  have M1 := moved_all ok (l := l) (r := i :: r) e.symm
  have f := (moved_cross ok).fix
  have hN2 : m.moveAll.N = m.N := by
    unfold M.N M.spanOf
    have : m.moveAll.cells = m.cells := f.cells
    rw [this]
  have ecar : m.moveAll.car i = (M.move1 (m.moves l) i).1.car i := by
    show (m.moves m.cross).1.car i = _
    have e2 : m.moves m.cross = r.foldl M.move1 (M.move1 (m.moves l) i) := by
      unfold M.moves
      rw [e, List.foldl_append]
      rfl
    rw [e2, moves_other r _ hnr]
  have hsub := M1.sub
  have hfix := M1.fix
  have ei := M1.out i hni
  rw [show dist m.moveAll i = (if ((M.move1 (m.moves l) i).1.car i).side = 0 then ((M.move1 (m.moves l) i).1.car i).cell else m.N - 1 - ((M.move1 (m.moves l) i).1.car i).cell) by unfold dist; rw [ecar, hN2], ecar]
  clear ecar
  generalize m.moves l = S at hsub hfix ei ⊢
  obtain ⟨mi, gi, ai⟩ := S
  have hN : mi.N = m.N := hfix.N
  have hn : i < mi.cars.length := by rw [hfix.num]; exact c1
  unfold M.move1
  by_cases c : (mi.car i).cell = mi.last (mi.car i).side
  · rw [if_pos c]
    left
    show ((mi.put i 2).car i).place = 2
    unfold M.put
    rw [car_set hn]
  · rw [if_neg c]
    have hc' : (mi.car i).cell < mi.N := by rw [ei, hN]; exact c3
    have hs' : (mi.car i).side ≤ 1 := by rw [ei]; exact hs
    have nd' := next_dist hs' hc' c
    have nl := next_lt hc' hs' c
    have ed : dist mi i = dist m i := by unfold dist; rw [ei, hN]
    by_cases g : mi.canMove i (mi.next i) ai = true
    · right; left
      rw [if_pos g]
      have e1 : (mi.setCell i (mi.next i)).car i = { mi.car i with cell := mi.next i } := car_set hn
      show ((mi.setCell i (mi.next i)).car i).place = 1 ∧ (if ((mi.setCell i (mi.next i)).car i).side = 0 then ((mi.setCell i (mi.next i)).car i).cell else m.N - 1 - ((mi.setCell i (mi.next i)).car i).cell) = _ ∧ _
      rw [e1]
      refine ⟨by show (mi.car i).place = 1; rw [ei]; exact c2, ?_, ?_⟩
      · show (if (mi.car i).side = 0 then mi.next i else m.N - 1 - mi.next i) = _
        rw [← ed, nd', hN]
      · rw [← ed, nd', ← hN]
        split <;> omega
    · right; right
      rw [if_neg g]
      refine ⟨by show (mi.car i).place = 1; rw [ei]; exact c2, ?_, fun z => ?_⟩
      · show (if (mi.car i).side = 0 then (mi.car i).cell else m.N - 1 - (mi.car i).cell) = _
        rw [ei]
        rfl
      · subst z
        have : ai = [] := List.eq_nil_of_sublist_nil hsub
        subst this
        apply g
        have hl : (mi.car i).weight ≤ mi.limit (mi.span (mi.next i)) := by
          have hk : mi.span (mi.next i) < mi.limits.length := by
            rw [hfix.limits, ok.lim, hfix.span]
            have q : m.span (mi.next i) ∈ m.spanOf := by
              unfold M.span
              rw [List.getD_eq_getElem?_getD, List.getElem?_eq_getElem (by rw [hN] at nl; exact nl)]
              exact List.getElem_mem _
            have lt : ∀ (cs : List Nat) (k x : Nat), x ∈ spansFrom k cs → x < k + cs.length := by
              intro cs
              induction cs with
              | nil => intro k x h; cases h
              | cons a t ih =>
                intro k x h
                rcases List.mem_append.mp h with h | h
                · have := List.eq_of_mem_replicate h
                  rw [List.length_cons]; omega
                · have := ih (k + 1) x h
                  rw [List.length_cons]; omega
            have := lt m.cells 0 _ q
            omega
          rw [hfix.wt]
          refine light i hi _ ?_
          unfold M.limit
          rw [hfix.limits]
          rw [hfix.limits] at hk
          rw [List.getD_eq_getElem?_getD, List.getElem?_eq_getElem hk]
          exact List.getElem_mem _
        have h0 : mi.borneBy (mi.span (mi.next i)) [] = 0 := rfl
        have b1 : mi.bearsIt (mi.span (mi.next i)) (mi.car i).weight [] = true := by
          unfold M.bearsIt
          rw [h0]
          exact decide_eq_true (by omega)
        unfold M.canMove
        rw [b1]
        show (true && (_ || true)) = true
        simp
theorem pot_move {m : M} (ok : OK m) (light : ∀ i ∈ m.cross, ∀ l ∈ m.limits, (m.car i).weight ≤ l) : pot m.moveAll ≤ pot m ∧ (m.cross ≠ [] → pot m.moveAll < pot m) := by
  have mc := moved_cross ok
  have f := mc.fix
  have hN : m.moveAll.N = m.N := f.N
  have hnum : m.moveAll.cars.length = m.cars.length := f.num
  have one : ∀ i, i < m.cars.length → potOf m.moveAll i ≤ potOf m i ∧ (∀ r, m.cross = i :: r → potOf m.moveAll i < potOf m i) := fun i hi => by
    by_cases z : i ∈ m.cross
    · obtain ⟨c1, c2, c3⟩ := ok.cr i z
      have dl := dist_lt c3
      have e0 : potOf m i = m.N - dist m i := by unfold potOf; rw [if_neg (by omega), if_pos c2]
      obtain ⟨l, r, e⟩ := List.append_of_mem z
      have key := moved_one ok light e
      have strict : ∀ (q : (m.moveAll.car i).place = 2 ∨ ((m.moveAll.car i).place = 1 ∧ dist m.moveAll i = dist m i + 1 ∧ dist m i + 1 < m.N)), potOf m.moveAll i < potOf m i := fun q => by
        rw [e0]
        unfold potOf
        rcases q with q | ⟨q1, q2, q3⟩
        · rw [if_neg (by omega), if_neg (by omega)]; omega
        · rw [if_neg (by omega), if_pos q1, q2, hN]; omega
      refine ⟨?_, fun r' e' => ?_⟩
      · rcases key with q | q | ⟨q1, q2, _⟩
        · exact Nat.le_of_lt (strict (.inl q))
        · exact Nat.le_of_lt (strict (.inr q))
        · rw [e0]
          unfold potOf
          rw [if_neg (by omega), if_pos q1, q2, hN]
          exact Nat.le_refl _
      · have key' := moved_one ok light (l := []) e'
        rcases key' with q | q | ⟨_, _, q3⟩
        · exact strict (.inl q)
        · exact strict (.inr q)
        · exact absurd rfl q3
    · have ec : m.moveAll.car i = m.car i := mc.out i z
      refine ⟨?_, fun r e => absurd (by rw [e]; exact List.mem_cons_self ..) z⟩
      unfold potOf dist
      rw [ec, hN]
      exact Nat.le_refl _
  unfold pot
  rw [hnum]
  refine ⟨sum_le _ fun i hi => (one i (List.mem_range.mp hi)).1, fun hne => sum_lt _ (fun i hi => (one i (List.mem_range.mp hi)).1) ?_⟩
  cases e : m.cross with
  | nil => exact absurd e hne
  | cons i r =>
    have hi : i < m.cars.length := (ok.cr i (by rw [e]; exact List.mem_cons_self ..)).1
    exact ⟨i, List.mem_range.mpr hi, (one i hi).2 r e⟩
/-! ### one enters -/
theorem pot_enter {m : M} (ok : OK m) {i : Nat} (hi : i < m.cars.length) (h0 : (m.car i).place = 0) (hs : (m.car i).side = m.side) : pot (m.enters i) < pot m := by
  have f := fix_enters (m := m) (i := i)
  have hN : (m.enters i).N = m.N := f.N
  have other : ∀ j, i ≠ j → potOf (m.enters i) j = potOf m j := fun j hj => by
    unfold potOf dist
    rw [enters_car_ne hj, hN]
  have here : potOf (m.enters i) i < potOf m i := by
    unfold potOf
    rw [enters_car hi, hN, if_pos h0]
    show (if (1 : Nat) = 0 then _ else if (1 : Nat) = 1 then m.N - dist (m.enters i) i else 0) < _
    rw [if_neg (by omega), if_pos rfl]
    omega
  unfold pot
  rw [f.num]
  refine sum_lt _ (fun j _ => ?_) ⟨i, List.mem_range.mpr hi, here⟩
  by_cases e : i = j
  · subst e; exact Nat.le_of_lt here
  · rw [other j e]; exact Nat.le_refl _
theorem pot_entered {m : M} (ok : OK m) : pot m.entered ≤ pot m := by
  unfold M.entered
  split
  · unfold M.letEnter
    split
    · exact Nat.le_refl _
    · rename_i i r e
      split
      · obtain ⟨a, b, c⟩ := head_waits ok e
        exact Nat.le_of_lt (pot_enter ok a c b)
      · exact Nat.le_refl _
  · exact Nat.le_refl _
theorem pot_turned (m : M) : pot m.turned = pot m := by
  unfold M.turned
  split <;> rfl
theorem pot_keep (m : M) : pot m.keepMost = pot m := by
  obtain ⟨_, _, a, b, e⟩ := mosts_keeps m.borne m 0
  show pot (m.mosts 0 m.borne) = _
  rw [e]
  rfl
theorem light_in {m : M} {s : Sy49.St} (h : R m s) {i c : Nat} (hi : i < m.cars.length) (hp : (m.car i).place ≤ 1) (hc : c < m.N) : (m.car i).weight ≤ m.limit (m.span c) := by
  have sp := h.sp
  have hk : m.span c < m.limits.length := by
    rw [h.ok.lim, ← sp.span hc, h.spans]
    have lt : ∀ (l : List (Nat × Nat)) (x : Nat), x < (l.map (fun y => y.1)).sum → Sy49.spanOf l x < l.length := by
      intro l
      induction l with
      | nil => intro x hx; simp at hx
      | cons a t ih =>
        intro x hx
        rw [List.map_cons, List.sum_cons] at hx
        show (if x < a.1 then 0 else Sy49.spanOf t (x - a.1) + 1) < t.length + 1
        split
        · omega
        · have := ih (x - a.1) (by omega)
          omega
    have hlen : (m.cells.zip m.limits).length = m.cells.length := by rw [List.length_zip, h.ok.lim]; omega
    rw [← hlen]
    refine lt _ c ?_
    rw [zip_fst _ _ h.ok.lim]
    have := sp.cells
    unfold Sy49.cells at this
    rw [h.spans, zip_fst _ _ h.ok.lim] at this
    rw [this]; exact hc
  refine h.light i hi hp _ ?_
  unfold M.limit
  rw [List.getD_eq_getElem?_getD, List.getElem?_eq_getElem hk]
  exact List.getElem_mem _
/-- nobody is on the bridge, somebody waits, it isn't shut: one enters -/
theorem pot_first {m : M} {s : Sy49.St} (h : R m s) (he : m.cross = []) (hsh : m.shut = false) {i : Nat} (hi : i < m.cars.length) (h0 : (m.car i).place = 0) : pot m.turned.entered < pot m := by
  have r := h.turned
  have hw := h.ok.win i hi h0
  have hs := h.ok.csd i hi
  have hsd := h.ok.sd
  have et : m.turned.cars = m.cars ∧ m.turned.cross = [] ∧ m.turned.shut = false := by
    unfold M.turned
    split
    · exact ⟨rfl, he, hsh⟩
    · exact ⟨rfl, he, hsh⟩
  have nov : m.turned.over = false ∧ m.turned.wait m.turned.side ≠ [] := by
    cases c : m.over with
    | true =>
      have e : m.turned = m.change := if_pos (by rw [he, c]; rfl)
      rw [e]
      have c' := c
      unfold M.over at c'
      rw [Bool.and_eq_true] at c'
      have n1 : m.wait (1 - m.side) ≠ [] := fun z => by rw [z] at c'; cases c'.1
      refine ⟨?_, n1⟩
      unfold M.over
      show (!(m.wait (1 - (1 - m.side))).isEmpty && ((m.wait (1 - m.side)).isEmpty || decide (m.turn ≤ 0))) = false
      have e1 : (m.wait (1 - m.side)).isEmpty = false := by
        cases q : m.wait (1 - m.side) with
        | nil => exact absurd q n1
        | cons _ _ => rfl
      have e2 : decide (m.turn ≤ 0) = false := decide_eq_false (by have := h.tpos; omega)
      rw [e1, e2]
      simp
    | false =>
      have e : m.turned = m := if_neg (by rw [c]; simp)
      rw [e]
      refine ⟨c, fun z => ?_⟩
      unfold M.over at c
      rw [z] at c
      have hd : (m.car i).side = 1 - m.side := by
        rcases (by omega : (m.car i).side = m.side ∨ (m.car i).side = 1 - m.side) with q | q
        · rw [q, z] at hw; cases hw
        · exact q
      rw [hd] at hw
      have e1 : (m.wait (1 - m.side)).isEmpty = false := by
        cases q : m.wait (1 - m.side) with
        | nil => rw [q] at hw; cases hw
        | cons _ _ => rfl
      rw [e1] at c
      cases c
  rw [← pot_turned m]
  generalize m.turned = m1 at r et nov ⊢
  obtain ⟨_, ec, esh⟩ := et
  obtain ⟨n1, n2⟩ := nov
  have ee : m1.entered = m1.letEnter := if_pos (by rw [esh, n1]; rfl)
  rw [ee]
  cases e : m1.wait m1.side with
  | nil => exact absurd e n2
  | cons j t =>
    obtain ⟨a, b, c⟩ := head_waits r.ok e
    have el : m1.letEnter = m1.enters j := by
      unfold M.letEnter
      rw [e]
      have hl := light_in r a (by omega) (first_lt r.ok m1.side)
      have b1 : m1.bearsIt (m1.span (m1.first m1.side)) (m1.car j).weight m1.cross = true := by
        unfold M.bearsIt
        rw [ec]
        exact decide_eq_true (by show 0 + _ ≤ _; omega)
      have b2 : m1.free (m1.first m1.side) m1.cross = true := by rw [ec]; rfl
      show (if _ then _ else _) = _
      rw [b1, b2]
      rfl
    rw [el]
    exact pot_enter r.ok a c b
theorem moveAll_shut {m : M} (ok : OK m) : m.moveAll.shut = m.shut := by rw [moveAll_eq ok]
theorem pot_tick {m : M} {s : Sy49.St} (h : R m s) (ha : m.cross ≠ [] ∨ (m.shut = false ∧ ∃ i, i < m.cars.length ∧ (m.car i).place = 0)) : pot m.tick < pot m := by
  have ok := h.ok.up
  have light : ∀ i ∈ m.up.cross, ∀ l ∈ m.up.limits, (m.up.car i).weight ≤ l := fun i hi l hl => h.light i (h.ok.cr i hi).1 (by have := (h.ok.cr i hi).2.1; omega) l hl
  obtain ⟨p1, p2⟩ := pot_move ok light
  have r1 := h.move.1
  have p3 := pot_entered (m := m.up.moveAll.turned) r1.turned.ok
  have pk : pot m.tick = pot m.up.moveAll.turned.entered := pot_keep _
  have pt := pot_turned m.up.moveAll
  have pu : pot m.up = pot m := rfl
  rw [pk]
  by_cases hc : m.cross = []
  · rcases ha with q | ⟨hsh, i, hi, h0⟩
    · exact absurd hc q
    · have e1 : m.up.moveAll = m.up := by
        unfold M.moveAll M.moves
        have : m.up.cross = [] := hc
        rw [this]
        show ({ m.up with cross := [] } : M) = m.up
        have : ({ m.up with cross := m.up.cross } : M) = m.up := rfl
        rw [show m.up.cross = [] from hc] at this
        exact this
      have := pot_first r1 (by rw [e1]; exact hc) (by rw [e1]; exact hsh) (i := i) (by rw [e1]; exact hi) (by rw [e1]; exact h0)
      rw [e1] at this ⊢
      omega
  · have := p2 hc
    omega
/-! ### what becomes of one at a tick -/
theorem tick_place {m : M} {s : Sy49.St} (h : R m s) {i : Nat} (hi : i < m.cars.length) :
    ((m.car i).place = 0 → (m.tick.car i).place ≤ 1) ∧ ((m.car i).place = 1 → (m.tick.car i).place = 1 ∨ (m.tick.car i).place = 2) ∧ m.tick.shut = m.shut ∧ i < m.tick.cars.length := by
  have ok := h.ok.up
  have mc := moved_cross ok
  have r1 := h.move.1
  have f := fix_moveAll ok
  have e1 : ∀ j, m.up.moveAll.turned.car j = m.up.moveAll.car j := fun j => by unfold M.turned; split <;> rfl
  have n1 : m.up.moveAll.turned.cars.length = m.cars.length := by
    have : m.up.moveAll.turned.cars = m.up.moveAll.cars := by unfold M.turned; split <;> rfl
    rw [this]
    exact f.num
  have s1 : m.up.moveAll.turned.shut = m.shut := by
    have : m.up.moveAll.turned.shut = m.up.moveAll.shut := by unfold M.turned; split <;> rfl
    rw [this, moveAll_shut ok]
    rfl
  have ok2 := r1.turned.ok
  have ent : ∀ (x : M), OK x → ∀ j, j < x.cars.length → (x.entered.car j = x.car j ∨ ((x.car j).place = 0 ∧ (x.entered.car j).place = 1)) ∧ x.entered.shut = x.shut ∧ x.entered.cars.length = x.cars.length := fun x okx j hj => by
    unfold M.entered
    split
    · unfold M.letEnter
      split
      · exact ⟨.inl rfl, rfl, rfl⟩
      · rename_i k t e
        obtain ⟨a, b, c⟩ := head_waits okx e
        split
        · refine ⟨?_, (setWait_other (m := x)).2.2.2.2.2.2.1, fix_enters.num⟩
          by_cases q : k = j
          · subst q
            exact .inr ⟨c, by rw [enters_car a]⟩
          · exact .inl (enters_car_ne q)
        · exact ⟨.inl rfl, rfl, rfl⟩
    · exact ⟨.inl rfl, rfl, rfl⟩
  have kp : ∀ x : M, (∀ j, x.keepMost.car j = x.car j) ∧ x.keepMost.shut = x.shut ∧ x.keepMost.cars.length = x.cars.length := fun x => by
    obtain ⟨_, _, a, b, e⟩ := mosts_keeps x.borne x 0
    have e' : x.keepMost = { x with most := a, mostAt := b } := e
    rw [e']
    exact ⟨fun _ => rfl, rfl, rfl⟩
  obtain ⟨g1, g2, g3⟩ := ent _ ok2 i (by rw [n1]; exact hi)
  obtain ⟨k1, k2, k3⟩ := kp m.up.moveAll.turned.entered
  have et : m.tick = m.up.moveAll.turned.entered.keepMost := rfl
  rw [et, k1, k2, k3, g2, g3, s1, n1]
  refine ⟨fun h0 => ?_, fun h1 => ?_, rfl, hi⟩
  · have z : i ∉ m.cross := fun z => by have := (h.ok.cr i z).2.1; omega
    have ec : (m.up.moveAll.turned.car i).place = 0 := by rw [e1, show m.up.moveAll.car i = m.car i from mc.out i z]; exact h0
    rcases g1 with q | ⟨_, q⟩
    · rw [q, ec]; omega
    · omega
  · have z := h.ok.cin i hi h1
    have ec : (m.up.moveAll.turned.car i).place = 1 ∨ (m.up.moveAll.turned.car i).place = 2 := by
      rw [e1]
      rcases mc.st i z with ⟨_, _, q, _⟩ | ⟨_, _, q, _⟩
      · exact .inl q
      · exact .inr q
    rcases g1 with q | ⟨q0, _⟩
    · rw [q]; exact ec
    · rcases ec with q | q <;> omega
theorem gets_over {i : Nat} : ∀ (p : Nat) {m : M} {s : Sy49.St}, R m s → pot m ≤ p → i < m.cars.length → m.willLeave i = true → ∃ k, k ≤ p ∧ ((m.ticks k).car i).place = 2 := by
  intro p
  induction p with
  | zero =>
    intro m s h hp hi hw
    exfalso
    have act : m.cross ≠ [] ∨ (m.shut = false ∧ ∃ i, i < m.cars.length ∧ (m.car i).place = 0) := by
      unfold M.willLeave at hw
      rw [Bool.or_eq_true, Bool.and_eq_true, decide_eq_true_eq, decide_eq_true_eq, Bool.not_eq_true'] at hw
      rcases hw with q | ⟨q1, q2⟩
      · exact .inl fun z => by have := h.ok.cin i hi q; rw [z] at this; cases this
      · exact .inr ⟨q2, i, hi, q1⟩
    have := pot_tick h act
    omega
  | succ p ih =>
    intro m s h hp hi hw
    have act : m.cross ≠ [] ∨ (m.shut = false ∧ ∃ i, i < m.cars.length ∧ (m.car i).place = 0) := by
      unfold M.willLeave at hw
      rw [Bool.or_eq_true, Bool.and_eq_true, decide_eq_true_eq, decide_eq_true_eq, Bool.not_eq_true'] at hw
      rcases hw with q | ⟨q1, q2⟩
      · exact .inl fun z => by have := h.ok.cin i hi q; rw [z] at this; cases this
      · exact .inr ⟨q2, i, hi, q1⟩
    have lt := pot_tick h act
    obtain ⟨t0, t1, t2, t3⟩ := tick_place h hi
    by_cases c : (m.tick.car i).place = 2
    · exact ⟨1, by omega, c⟩
    · have hw' : m.tick.willLeave i = true := by
        unfold M.willLeave at hw ⊢
        rw [Bool.or_eq_true, Bool.and_eq_true, decide_eq_true_eq, decide_eq_true_eq, Bool.not_eq_true'] at hw ⊢
        rw [t2]
        rcases hw with q | ⟨q1, q2⟩
        · rcases t1 q with z | z
          · exact .inl z
          · exact absurd z c
        · have := t0 q1
          rcases (by omega : (m.tick.car i).place = 1 ∨ (m.tick.car i).place = 0) with z | z
          · exact .inl z
          · exact .inr ⟨z, q2⟩
      obtain ⟨k, hk, hk2⟩ := ih h.tick (by omega) t3 hw'
      exact ⟨k + 1, by omega, hk2⟩
theorem N_le {m : M} (ok : OK m) : m.N ≤ 60 := by
  have hb : ∀ (cs : List Nat) (k : Nat), (∀ c ∈ cs, c ≤ 5) → (spansFrom k cs).length ≤ 5 * cs.length := by
    intro cs
    induction cs with
    | nil => intro k _; exact Nat.le_refl _
    | cons a r ih =>
      intro k h
      show (List.replicate a k ++ spansFrom (k + 1) r).length ≤ 5 * (r.length + 1)
      rw [List.length_append, List.length_replicate]
      have := h a (List.mem_cons_self ..)
      have := ih (k + 1) fun c hc => h c (List.mem_cons_of_mem _ hc)
      omega
  have := hb m.cells 0 fun c hc => (ok.pos c hc).2
  have := ok.few
  unfold M.N M.spanOf
  omega
theorem pot_le {m : M} (ok : OK m) : pot m ≤ 3660 := by
  have hN := N_le ok
  have h := sum_top (f := potOf m) (c := m.N + 1) (List.range m.cars.length) fun i _ => by
    unfold potOf
    split
    · exact Nat.le_refl _
    · split <;> omega
  rw [List.length_range] at h
  have hn := ok.num
  have : m.cars.length * (m.N + 1) ≤ 60 * 61 := Nat.mul_le_mul hn (by omega)
  unfold pot
  omega
/-! ### when -/
theorem goneIn_is {i : Nat} : ∀ (f : Nat) (m : M), (∃ k, k < f ∧ ((m.ticks k).car i).place = 2) → ((m.ticks (M.goneIn f m i)).car i).place = 2 ∧ (∀ j, j < M.goneIn f m i → ((m.ticks j).car i).place ≠ 2)
  | 0, m, ⟨k, hk, _⟩ => by omega
  | f + 1, m, ⟨k, hk, hp⟩ => by
    unfold M.goneIn
    by_cases c : (m.car i).place = 2
    · rw [if_pos c]
      exact ⟨c, fun j hj => by omega⟩
    · rw [if_neg c]
      cases k with
      | zero => exact absurd hp c
      | succ k =>
        obtain ⟨h1, h2⟩ := goneIn_is f m.tick ⟨k, by omega, hp⟩
        refine ⟨h1, fun j hj => ?_⟩
        cases j with
        | zero => exact c
        | succ j => exact h2 j (by omega)
theorem left_iff {m : M} {s : Sy49.St} (h : R m s) {i : Nat} (hi : i < m.cars.length) : Sy49.left s i = true ↔ (m.car i).place = 2 := by
  unfold Sy49.left
  rw [List.any_eq_true]
  constructor
  · rintro ⟨p, hp, e⟩
    rw [Bool.and_eq_true, beq_iff_eq, beq_iff_eq] at e
    obtain ⟨_, b, _⟩ := h.pa p hp
    rw [e.1, e.2] at b
    exact b
  · intro e
    obtain ⟨p, hp, e2⟩ := h.pb i hi (by omega)
    obtain ⟨_, b, _⟩ := h.pa p hp
    rw [e2, e] at b
    exact ⟨p, hp, by rw [Bool.and_eq_true, beq_iff_eq, beq_iff_eq]; exact ⟨e2, by omega⟩⟩
theorem after_is {i : Nat} : ∀ (f n : Nat) {m : M} {s : Sy49.St}, R m s → i < m.cars.length → (∃ k, k < f ∧ ((m.ticks k).car i).place = 2) → Sy49.after f n i s = some (n + M.goneIn f m i)
  | 0, _, _, _, _, _, ⟨k, hk, _⟩ => by omega
  | f + 1, n, m, s, h, hi, ⟨k, hk, hp⟩ => by
    unfold Sy49.after M.goneIn
    by_cases c : (m.car i).place = 2
    · rw [if_pos ((left_iff h hi).mpr c), if_pos c, Nat.add_zero]
    · rw [if_neg fun z => c ((left_iff h hi).mp z), if_neg c]
      cases k with
      | zero => exact absurd hp c
      | succ k =>
        rw [after_is f (n + 1) h.tick (tick_place h hi).2.2.2 ⟨k, by omega, hp⟩]
        congr 1
        omega
theorem so_when {m : M} {s : Sy49.St} (h : R m s) (a : List Nat) : Same2 (M.whenM m a) (Sy49.step s (.when_ (a.getD 0 0))) ∧ (a.length = 1 → when_ m a) := by
  have over : ∀ i, i < m.cars.length → m.willLeave i = true → ∃ k, k < 6000 ∧ ((m.ticks k).car i).place = 2 := fun i hi hw => by
    obtain ⟨k, hk, hp⟩ := gets_over (pot m) h (Nat.le_refl _) hi hw
    have := pot_le h.ok
    exact ⟨k, by omega, hp⟩
  refine ⟨?_, fun hl => ⟨hl, fun hi hw => goneIn_is 6000 m (over _ hi hw)⟩⟩
  unfold M.whenM
  generalize a.getD 0 0 = i
  show Same2 _ (s, if s.came ≤ i then Sy49.ok (-2) else match Sy49.whenLeft s i with
      | none => Sy49.ok (-6)
      | some n => Sy49.ok (n : Nat))
  rw [h.came]
  by_cases c1 : m.cars.length ≤ i
  · rw [if_pos c1, if_pos c1]; exact same_no h _
  · rw [if_neg c1, if_neg c1]
    have hi : i < m.cars.length := by omega
    have anyP : s.past.any (fun (p : Sy49.Past) => p.id == i) = decide (2 ≤ (m.car i).place) := by
      obtain ⟨p1, p2⟩ := past_find h hi
      by_cases c : 2 ≤ (m.car i).place
      · rw [decide_eq_true c]
        obtain ⟨p, e, _⟩ := p1 c
        rw [List.any_eq_true]
        exact ⟨p, List.mem_of_find?_eq_some e, by simpa using List.find?_some e⟩
      · rw [decide_eq_false c]
        have e := p2 (by omega)
        rw [List.any_eq_false]
        exact fun p hp => by simpa using List.find?_eq_none.mp e p hp
    have anyW : s.waits.any (fun (c : Sy49.Car) => c.id == i) = decide ((m.car i).place = 0) := by
      have e := wait_find h i
      by_cases c : (m.car i).place = 0
      · rw [if_pos ⟨hi, c⟩] at e
        rw [decide_eq_true c, List.any_eq_true]
        exact ⟨_, List.mem_of_find?_eq_some e, by simpa using List.find?_some e⟩
      · rw [if_neg fun z => c z.2] at e
        rw [decide_eq_false c, List.any_eq_false]
        exact fun x hx => by simpa using List.find?_eq_none.mp e x hx
    unfold Sy49.whenLeft
    rw [anyP, anyW, h.shut]
    by_cases c2 : m.willLeave i = true
    · rw [if_pos c2]
      have c2' := c2
      unfold M.willLeave at c2'
      rw [Bool.or_eq_true, Bool.and_eq_true, decide_eq_true_eq, decide_eq_true_eq, Bool.not_eq_true'] at c2'
      have n1 : ¬ (decide (2 ≤ (m.car i).place) = true) := by
        rw [decide_eq_true_eq]
        rcases c2' with q | ⟨q, _⟩ <;> omega
      have n2 : ¬ (m.shut = true ∧ decide ((m.car i).place = 0) = true) := by
        rintro ⟨q1, q2⟩
        rw [decide_eq_true_eq] at q2
        rcases c2' with q | ⟨_, q⟩
        · omega
        · rw [q1] at q; cases q
      rw [if_neg n1, if_neg n2]
      have ea := after_is Sy49.FUEL 0 h hi (over i hi c2)
      rw [ea, Nat.zero_add]
      exact ⟨h, rfl⟩
    · rw [if_neg c2]
      by_cases c3 : 2 ≤ (m.car i).place
      · rw [if_pos (decide_eq_true c3)]
        exact same_no h _
      · rw [if_neg (by simp [c3])]
        unfold M.willLeave at c2
        rw [Bool.or_eq_true, Bool.and_eq_true, decide_eq_true_eq, decide_eq_true_eq, Bool.not_eq_true'] at c2
        have q0 : (m.car i).place = 0 := by
          rcases (by omega : (m.car i).place = 0 ∨ (m.car i).place = 1) with q | q
          · exact q
          · exact absurd (.inl q) c2
        have q1 : m.shut = true := by
          cases e : m.shut with
          | true => rfl
          | false => exact absurd (.inr ⟨q0, e⟩) c2
        rw [if_pos ⟨q1, decide_eq_true q0⟩]
        exact same_no h _
end OL


/-! ## begins, and the start -/
namespace OL
open M
theorem every_cons (b : Nat) (r : List Nat) : every (b :: r) = b :: every (r.drop 1) := by
  cases r <;> rfl
theorem pairs_is : ∀ l : List Nat, Sy49.pairs l = (every l).zip (every (l.drop 1))
  | [] => rfl
  | [a] => rfl
  | a :: b :: r => by
    show (a, b) :: Sy49.pairs r = (a :: every r).zip (every (b :: r))
    rw [every_cons, List.zip_cons_cons, pairs_is r]
theorem ev_len : ∀ l : List Nat, (every l).length = (l.length + 1) / 2
  | [] => by decide
  | [a] => by show 1 = (0 + 1 + 1) / 2; decide
  | a :: b :: r => by
    show (every r).length + 1 = (r.length + 1 + 1 + 1) / 2
    rw [ev_len r]
    omega
theorem bad_is : ∀ l : List Nat, l.length % 2 = 0 → (Sy49.pairs l).any (fun (x : Nat × Nat) => decide (x.1 < 1) || (decide (5 < x.1) || (decide (x.2 < 1) || decide (1000 < x.2)))) = !(((every l).all fun n => decide (1 ≤ n ∧ n ≤ 5)) && ((every (l.drop 1)).all fun n => decide (1 ≤ n ∧ n ≤ 1000)))
  | [], _ => rfl
  | [a], h => by simp at h
  | a :: b :: r, h => by
    have ih := bad_is r (by simp only [List.length_cons] at h; omega)
    show ((decide (a < 1) || (decide (5 < a) || (decide (b < 1) || decide (1000 < b)))) || (Sy49.pairs r).any _) = !(((a :: every r).all fun n => decide (1 ≤ n ∧ n ≤ 5)) && ((every (b :: r)).all fun n => decide (1 ≤ n ∧ n ≤ 1000)))
    rw [ih, every_cons, List.all_cons, List.all_cons]
    rw [Bool.eq_iff_iff]
    cases e1 : (every r).all fun n => decide (1 ≤ n ∧ n ≤ 5) <;> cases e2 : (every (r.drop 1)).all fun n => decide (1 ≤ n ∧ n ≤ 1000) <;> simp <;> omega
theorem zip_zero : ∀ n : Nat, (List.replicate n 0).zip (List.replicate n 0) = List.replicate n ((0 : Nat), (0 : Nat))
  | 0 => rfl
  | n + 1 => by
    rw [List.replicate_succ, List.replicate_succ, List.zip_cons_cons, zip_zero n]
theorem fresh_R {t : Nat} {c l : List Nat} (h1 : 1 ≤ t) (hl : l.length = c.length) (h0 : 0 < c.length) (h12 : c.length ≤ 12) (hp : ∀ x ∈ c, 1 ≤ x ∧ x ≤ 5) :
    R (M.fresh t c l) ⟨t, c.zip l, [], [], 0, 0, false, 0, 0, [], List.replicate c.length (0, 0)⟩ where
  ok := {
    lim := hl
    mo := List.length_replicate ..
    ma := List.length_replicate ..
    some_ := h0
    few := h12
    pos := hp
    sd := Nat.zero_le _
    num := Nat.zero_le _
    csd := fun i hi => absurd hi (Nat.not_lt_zero _)
    wt := fun d hd i hi => by
      have : (M.fresh t c l).wait d = [] := by unfold M.wait; split <;> rfl
      rw [this] at hi; cases hi
    wnd := fun d hd => by
      have : (M.fresh t c l).wait d = [] := by unfold M.wait; split <;> rfl
      rw [this]; exact List.nodup_nil
    win := fun i hi => absurd hi (Nat.not_lt_zero _)
    cr := fun i hi => by cases hi
    cnd := List.nodup_nil
    cin := fun i hi => absurd hi (Nat.not_lt_zero _)
    len := Nat.le_refl _ }
  turn := rfl
  tpos := h1
  spans := rfl
  waits := rfl
  wq := fun d hd => by
    have : (M.fresh t c l).wait d = [] := by unfold M.wait; split <;> rfl
    rw [this]; rfl
  onIt := rfl
  cside := fun i hi => by cases hi
  side := rfl
  gone := rfl
  shut := rfl
  time := rfl
  came := rfl
  pa := fun p hp => by cases hp
  pb := fun i hi => absurd hi (Nat.not_lt_zero _)
  most := (zip_zero _).symm
  light := fun i hi => absurd hi (Nat.not_lt_zero _)
theorem start_R : R (M.fresh 1 [1] [1]) Sy49.init :=
  fresh_R (t := 1) (c := [1]) (l := [1]) (Nat.le_refl _) rfl (by decide) (by decide) (by decide)
theorem map_const {α β : Type} (b : β) : ∀ l : List α, l.map (fun _ => b) = List.replicate l.length b
  | [] => rfl
  | a :: r => by
    rw [List.map_cons, map_const b r]; rfl
theorem so_begins {m : M} {s : Sy49.St} (h : R m s) (a : List Nat) : Same2 (M.beginsM m a) (Sy49.step s (.begins (a.getD 0 0) (a.drop 2))) := by
  unfold M.beginsM
  generalize a.getD 0 0 = t
  generalize a.drop 2 = l
  show Same2 _ (if t < 1 ∨ 20 < t ∨ l.length % 2 ≠ 0 ∨ l.length < 2 ∨ 24 < l.length ∨ (Sy49.pairs l).any (fun (x : Nat × Nat) => decide (x.1 < 1) || (decide (5 < x.1) || (decide (x.2 < 1) || decide (1000 < x.2)))) = true then (s, Sy49.ok (-1)) else
      (⟨t, Sy49.pairs l, [], [], 0, 0, false, 0, 0, [], (Sy49.pairs l).map fun (_ : Nat × Nat) => (0, 0)⟩, Sy49.ok (((Sy49.pairs l).map fun (x : Nat × Nat) => x.1).sum : Nat)))
  by_cases c1 : 1 ≤ t ∧ t ≤ 20
  · rw [if_pos (decide_eq_true c1)]
    by_cases ev : l.length % 2 = 0
    · by_cases c2 : areSpans l = true
      · rw [if_pos c2]
        unfold areSpans at c2
        rw [Bool.and_eq_true, Bool.and_eq_true, Bool.and_eq_true, decide_eq_true_eq, decide_eq_true_eq] at c2
        obtain ⟨⟨⟨d1, d2⟩, d3⟩, d4⟩ := c2
        have bad := bad_is l ev
        rw [List.drop_zero] at d3
        rw [d3, d4] at bad
        have bad' : (Sy49.pairs l).any (fun (x : Nat × Nat) => decide (x.1 < 1) || (decide (5 < x.1) || (decide (x.2 < 1) || decide (1000 < x.2)))) = false := bad
        rw [if_neg (by rw [bad']; simp; omega)]
        have le1 : (every l).length = l.length / 2 := by rw [ev_len]; omega
        have le2 : (every (l.drop 1)).length = l.length / 2 := by rw [ev_len, List.length_drop]; omega
        have r := fresh_R (t := t) (c := every l) (l := every (l.drop 1)) c1.1 (by rw [le1, le2]) (by omega) (by omega) (fun x hx => by
          have := List.all_eq_true.mp d3 x hx
          simpa using this)
        rw [map_const, pairs_is, List.drop_zero]
        have lz : ((every l).zip (every (l.drop 1))).length = (every l).length := by
          rw [List.length_zip, le1, le2, Nat.min_self]
        rw [lz]
        refine ⟨r, ?_⟩
        show [_] = ofN [_]
        rw [zip_fst _ _ (by rw [le1, le2])]
        show [_] = [_]
        rw [show (M.fresh t (every l) (every (l.drop 1))).N = (spansFrom 0 (every l)).length from rfl, spans_sum]
        rfl
      · rw [if_neg c2]
        rw [if_pos ?_]
        · exact same_no h _
        · apply Classical.byContradiction
          intro k
          apply c2
          rw [not_or, not_or, not_or, not_or, not_or] at k
          obtain ⟨k1, k2, k3, k4, k5, k6⟩ := k
          rw [bad_is l ev, Bool.not_eq_true', Bool.not_eq_false, Bool.and_eq_true] at k6
          unfold areSpans
          rw [Bool.and_eq_true, Bool.and_eq_true, Bool.and_eq_true, decide_eq_true_eq, decide_eq_true_eq, List.drop_zero]
          exact ⟨⟨⟨ev, by omega⟩, k6.1⟩, k6.2⟩
    · have c2 : ¬ areSpans l = true := by
        unfold areSpans
        rw [decide_eq_false ev]
        simp
      rw [if_neg c2, if_pos (.inr (.inr (.inl ev)))]
      exact same_no h _
  · rw [if_neg (by simpa using c1), if_pos (by omega)]
    exact same_no h _
end OL


/-! ## the list of calls, by both -/
namespace OL
open M
/-- a call of the document, by its place and what is told with it -/
def docCall : Nat → List Nat → Sy49.Call
  | 0, a => .begins (a.getD 0 0) (a.drop 2)
  | 1, a => .comes (a.getD 0 0) (a.getD 1 0)
  | 2, a => .gives (a.getD 0 0)
  | 3, a => .ticks (a.getD 0 0)
  | 4, a => .limit (a.getD 0 0) (a.getD 1 0)
  | 5, a => .shut (a.getD 0 0)
  | 6, a => .where_ (a.getD 0 0)
  | 7, a => .when_ (a.getD 0 0)
  | 8, _ => .loads
  | 9, a => .queue (a.getD 0 0)
  | 10, _ => .most
  | _, _ => .state
theorem one_step {m : M} {s : Sy49.St} (h : R m s) {c : Nat} (hc : c < 12) {a : List Nat} (h0 : c = 0 → 2 ≤ a.length ∧ a.length ≤ 62) (h1 : c ≠ 0 → a.length = plains.getD c 0) :
    Same2 (M.callM c m a) (Sy49.step s (docCall c a)) ∧ preM c m a := by
  rcases c with _ | _ | _ | _ | _ | _ | _ | _ | _ | _ | _ | _ | c
  · exact ⟨so_begins h a, h0 rfl⟩
  · exact ⟨so_comes h a, h1 (by decide)⟩
  · exact ⟨so_gives h a, h1 (by decide)⟩
  · exact ⟨so_ticks h a, h1 (by decide)⟩
  · exact ⟨so_limit h a, h1 (by decide)⟩
  · exact ⟨so_shut h a, h1 (by decide)⟩
  · exact ⟨so_where h a, h1 (by decide)⟩
  · exact ⟨(so_when h a).1, (so_when h a).2 (h1 (by decide))⟩
  · exact ⟨so_loads h a, trivial⟩
  · exact ⟨so_queue h a, h1 (by decide)⟩
  · exact ⟨so_most h a, trivial⟩
  · exact ⟨so_state h a, trivial⟩
  · omega
/-! ### reading -/
theorem natIn_cons (n : Int) (l : List Int) : Sy49Neutral.natIn (n :: l) = if 0 ≤ n ∧ n < 2 ^ 32 then some (n.toNat, l) else none := rfl
theorem co0 (l : List Int) : Sy49Neutral.callOf (0 :: l) = (Sy49Neutral.some_ 1 l).bind fun (x : List Nat × List Int) => (Sy49Neutral.all_ (Sy49Neutral.rowIn x.2)).map fun (y : List Nat) => .begins (Sy49Neutral.g x.1 0) y := rfl
theorem co1 (l : List Int) : Sy49Neutral.callOf (1 :: l) = (Sy49Neutral.all_ (Sy49Neutral.some_ 2 l)).map fun (x : List Nat) => .comes (Sy49Neutral.g x 0) (Sy49Neutral.g x 1) := rfl
theorem co2 (l : List Int) : Sy49Neutral.callOf (2 :: l) = (Sy49Neutral.all_ (Sy49Neutral.some_ 1 l)).map fun (x : List Nat) => .gives (Sy49Neutral.g x 0) := rfl
theorem co3 (l : List Int) : Sy49Neutral.callOf (3 :: l) = (Sy49Neutral.all_ (Sy49Neutral.some_ 1 l)).map fun (x : List Nat) => .ticks (Sy49Neutral.g x 0) := rfl
theorem co4 (l : List Int) : Sy49Neutral.callOf (4 :: l) = (Sy49Neutral.all_ (Sy49Neutral.some_ 2 l)).map fun (x : List Nat) => .limit (Sy49Neutral.g x 0) (Sy49Neutral.g x 1) := rfl
theorem co5 (l : List Int) : Sy49Neutral.callOf (5 :: l) = (Sy49Neutral.all_ (Sy49Neutral.some_ 1 l)).map fun (x : List Nat) => .shut (Sy49Neutral.g x 0) := rfl
theorem co6 (l : List Int) : Sy49Neutral.callOf (6 :: l) = (Sy49Neutral.all_ (Sy49Neutral.some_ 1 l)).map fun (x : List Nat) => .where_ (Sy49Neutral.g x 0) := rfl
theorem co7 (l : List Int) : Sy49Neutral.callOf (7 :: l) = (Sy49Neutral.all_ (Sy49Neutral.some_ 1 l)).map fun (x : List Nat) => .when_ (Sy49Neutral.g x 0) := rfl
theorem co9 (l : List Int) : Sy49Neutral.callOf (9 :: l) = (Sy49Neutral.all_ (Sy49Neutral.some_ 1 l)).map fun (x : List Nat) => .queue (Sy49Neutral.g x 0) := rfl
theorem nat_in {x : Nat} (hx : x ≤ 4294967295) (l : List Int) : Sy49Neutral.natIn ((x : Int) :: l) = some (x, l) := by
  rw [natIn_cons, if_pos (by constructor <;> omega), Int.toNat_natCast]
theorem many_in : ∀ (a : List Nat) (l : List Int), (∀ x ∈ a, x ≤ 4294967295) → Sy49Neutral.many_ Sy49Neutral.natIn a.length (ofN a ++ l) = some (a, l)
  | [], l, _ => rfl
  | x :: a, l, h => by
    show (Sy49Neutral.natIn ((x : Int) :: (ofN a ++ l))).bind _ = _
    rw [nat_in (h x (List.mem_cons_self ..))]
    show (Sy49Neutral.many_ Sy49Neutral.natIn a.length (ofN a ++ l)).map _ = _
    rw [many_in a l fun y hy => h y (List.mem_cons_of_mem _ hy)]
    rfl
theorem many_all (a : List Nat) (h : ∀ x ∈ a, x ≤ 4294967295) : Sy49Neutral.many_ Sy49Neutral.natIn a.length (ofN a) = some (a, []) := by
  have := many_in a [] h
  rwa [List.append_nil] at this
theorem ofN_take (r : List Nat) (n : Nat) : (ofN r).take n = ofN (r.take n) := List.map_take.symm
theorem ofN_drop (r : List Nat) (n : Nat) : (ofN r).drop n = ofN (r.drop n) := List.map_drop.symm
theorem ofN_len (r : List Nat) : (ofN r).length = r.length := List.length_map ..
/-- a call without rows -/
theorem flat_plain {p : Int} {n : Nat} {r : List Nat} {k : List (List Int)} {t : List Int} (hs : PySy49.shape p = some (n, 0)) (hk : PyFlat.call PySy49.shape (p :: ofN r) = some (k, t)) :
    n ≤ r.length ∧ k = [p :: ofN (r.take n)] ∧ t = ofN (r.drop n) := by
  change (match PySy49.shape p with
    | none => none
    | some (n, k) => if (ofN r).length < n then none else match PyFlat.rows k ((ofN r).drop n) with
      | none => none
      | some (xs, t) => some ((p :: (ofN r).take n) :: xs, t)) = some (k, t) at hk
  rw [hs] at hk
  change (if (ofN r).length < n then none else some ([p :: (ofN r).take n], (ofN r).drop n)) = some (k, t) at hk
  rw [ofN_len] at hk
  by_cases c : r.length < n
  · rw [if_pos c] at hk; cases hk
  · rw [if_neg c] at hk
    injection hk with hk
    injection hk with e1 e2
    exact ⟨by omega, by rw [← e1, ofN_take], by rw [← e2, ofN_drop]⟩
/-- a call with a row -/
theorem flat_row {r : List Nat} {k : List (List Int)} {t : List Int} (hk : PyFlat.call PySy49.shape ((0 : Int) :: ofN r) = some (k, t)) :
    ∃ x n q, r = x :: n :: q ∧ n ≤ q.length ∧ k = [[0, (x : Int)], ofN (q.take n)] ∧ t = ofN (q.drop n) := by
  unfold PyFlat.call at hk
  change (if (ofN r).length < 1 then none else match PyFlat.rows 1 ((ofN r).drop 1) with
      | none => none
      | some (xs, t) => some (((0 : Int) :: (ofN r).take 1) :: xs, t)) = some (k, t) at hk
  rcases r with _ | ⟨x, r⟩
  · rw [if_pos (by decide)] at hk; cases hk
  · rw [if_neg (by rw [ofN_len]; simp)] at hk
    rcases r with _ | ⟨n, q⟩
    · cases hk
    · change (match (match (if 0 ≤ (n : Int) ∧ (n : Int).toNat ≤ (ofN q).length then some ((ofN q).take (n : Int).toNat, (ofN q).drop (n : Int).toNat) else none) with
        | none => none
        | some (x, s) => match PyFlat.rows 0 s with
          | none => none
          | some (xs, t) => some (x :: xs, t)) with
        | none => none
        | some (xs, t) => some (((0 : Int) :: [(x : Int)]) :: xs, t)) = some (k, t) at hk
      rw [ofN_len, Int.toNat_natCast] at hk
      by_cases c : n ≤ q.length
      · rw [if_pos ⟨Int.natCast_nonneg n, c⟩] at hk
        change some (((0 : Int) :: [(x : Int)]) :: [(ofN q).take n], (ofN q).drop n) = some (k, t) at hk
        injection hk with hk
        injection hk with e1 e2
        exact ⟨x, n, q, rfl, c, by rw [← e1, ofN_take], by rw [← e2, ofN_drop]⟩
      · rw [if_neg fun z => c z.2] at hk
        cases hk
theorem two_take {r : List Nat} (h : 2 ≤ r.length) : ∃ x y, r.take 2 = [x, y] := by
  rcases r with _ | ⟨x, _ | ⟨y, q⟩⟩
  · simp at h
  · simp at h
  · exact ⟨x, y, rfl⟩
theorem one_take {r : List Nat} (h : 1 ≤ r.length) : ∃ x, r.take 1 = [x] := by
  rcases r with _ | ⟨x, q⟩
  · simp at h
  · exact ⟨x, rfl⟩
theorem one_read {x : Nat} (hx : x ≤ 4294967295) : Sy49Neutral.all_ (Sy49Neutral.some_ 1 [(x : Int)]) = some [x] := by
  show Sy49Neutral.all_ (Sy49Neutral.many_ Sy49Neutral.natIn [x].length (ofN [x])) = _
  rw [many_all [x] (by simpa using hx)]
  rfl
theorem two_read {x y : Nat} (hx : x ≤ 4294967295) (hy : y ≤ 4294967295) : Sy49Neutral.all_ (Sy49Neutral.some_ 2 [(x : Int), (y : Int)]) = some [x, y] := by
  show Sy49Neutral.all_ (Sy49Neutral.many_ Sy49Neutral.natIn [x, y].length (ofN [x, y])) = _
  rw [many_all [x, y] (by simpa using ⟨hx, hy⟩)]
  rfl
/-- one call, as both read it -/
theorem one_call {c : Nat} {r : List Nat} {k : List (List Int)} {t : List Int} (hr : ∀ x ∈ r, x ≤ 4294967295) (hk : PyFlat.call PySy49.shape ((c : Int) :: ofN r) = some (k, t)) (ha : (Sy49Neutral.callOf ((PySy49.whole k).headD [])).isSome = true) :
    c < 12 ∧ (c = 0 → 2 ≤ r.length) ∧ argLen c r ≤ r.length ∧ t = ofN (r.drop (argLen c r)) ∧ Sy49Neutral.callOf ((PySy49.whole k).headD []) = some (docCall c (r.take (argLen c r))) ∧
    (c = 0 → 2 ≤ (r.take (argLen c r)).length ∧ (r.take (argLen c r)).length ≤ 62) ∧ (c ≠ 0 → (r.take (argLen c r)).length = plains.getD c 0) := by
  have rt : ∀ n, ∀ x ∈ r.take n, x ≤ 4294967295 := fun n x hx => hr x (List.mem_of_mem_take hx)
  rcases c with _ | _ | _ | _ | _ | _ | _ | _ | _ | _ | _ | _ | c
  · obtain ⟨x, n, q, e, hn, ek, et⟩ := flat_row hk
    subst e
    subst ek
    subst et
    have q0 : PySy49.whole [[0, (x : Int)], ofN (q.take n)] = [[0] ++ [(x : Int)] ++ [((ofN (q.take n)).length : Int)] ++ ofN (q.take n)] := rfl
    have ql : (q.take n).length = n := by rw [List.length_take]; omega
    rw [q0, ofN_len, ql] at ha ⊢
    have hx : x ≤ 4294967295 := hr x (List.mem_cons_self ..)
    have q1 : Sy49Neutral.callOf (([[0] ++ [(x : Int)] ++ [(n : Int)] ++ ofN (q.take n)] : List (List Int)).headD []) = (Sy49Neutral.all_ (Sy49Neutral.rowIn ((n : Int) :: ofN (q.take n)))).map fun (y : List Nat) => .begins x y := by
      show Sy49Neutral.callOf (0 :: (ofN [x] ++ ((n : Int) :: ofN (q.take n)))) = _
      have q9 : Sy49Neutral.some_ 1 (ofN [x] ++ ((n : Int) :: ofN (q.take n))) = some ([x], (n : Int) :: ofN (q.take n)) := many_in [x] _ (by simpa using hx)
      rw [co0, q9]
      rfl
    rw [q1] at ha ⊢
    have q2 : Sy49Neutral.rowIn ((n : Int) :: ofN (q.take n)) = if 0 ≤ (n : Int) ∧ (n : Int) ≤ 60 then Sy49Neutral.many_ Sy49Neutral.natIn (n : Int).toNat (ofN (q.take n)) else none := rfl
    rw [q2] at ha ⊢
    by_cases c60 : 0 ≤ (n : Int) ∧ (n : Int) ≤ 60
    · rw [if_pos c60] at ha ⊢
      have q3 : Sy49Neutral.many_ Sy49Neutral.natIn (n : Int).toNat (ofN (q.take n)) = some (q.take n, []) := by
        rw [Int.toNat_natCast]
        have := many_all (q.take n) fun y hy => hr y (List.mem_cons_of_mem _ (List.mem_cons_of_mem _ (List.mem_of_mem_take hy)))
        rwa [ql] at this
      have al : argLen 0 (x :: n :: q) = n + 2 := by show 2 + n = n + 2; omega
      rw [q3, al]
      have tk : (x :: n :: q).take (n + 2) = x :: n :: q.take n := rfl
      have dk : (x :: n :: q).drop (n + 2) = q.drop n := rfl
      rw [tk, dk]
      refine ⟨by decide, fun _ => by simp, by simp only [List.length_cons]; omega, rfl, rfl, fun _ => ?_, fun z => absurd rfl z⟩
      simp only [List.length_cons, ql]
      omega
    · rw [if_neg c60] at ha
      cases ha
  · obtain ⟨hn, ek, et⟩ := flat_plain (n := 2) rfl hk
    obtain ⟨x, y, e⟩ := two_take hn
    have b := rt 2
    rw [e] at b ek
    subst ek
    refine ⟨by decide, fun z => absurd z (by decide), hn, et, ?_, fun z => absurd z (by decide), fun _ => by show (r.take 2).length = 2; rw [e]; rfl⟩
    show Sy49Neutral.callOf (1 :: [(x : Int), (y : Int)]) = some (docCall 1 (r.take 2))
    rw [co1, two_read (b x (by simp)) (b y (by simp)), e]
    rfl
  · obtain ⟨hn, ek, et⟩ := flat_plain (n := 1) rfl hk
    obtain ⟨x, e⟩ := one_take hn
    have b := rt 1
    rw [e] at b ek
    subst ek
    refine ⟨by decide, fun z => absurd z (by decide), hn, et, ?_, fun z => absurd z (by decide), fun _ => by show (r.take 1).length = 1; rw [e]; rfl⟩
    show Sy49Neutral.callOf (2 :: [(x : Int)]) = some (docCall 2 (r.take 1))
    rw [co2, one_read (b x (by simp)), e]
    rfl
  · obtain ⟨hn, ek, et⟩ := flat_plain (n := 1) rfl hk
    obtain ⟨x, e⟩ := one_take hn
    have b := rt 1
    rw [e] at b ek
    subst ek
    refine ⟨by decide, fun z => absurd z (by decide), hn, et, ?_, fun z => absurd z (by decide), fun _ => by show (r.take 1).length = 1; rw [e]; rfl⟩
    show Sy49Neutral.callOf (3 :: [(x : Int)]) = some (docCall 3 (r.take 1))
    rw [co3, one_read (b x (by simp)), e]
    rfl
  · obtain ⟨hn, ek, et⟩ := flat_plain (n := 2) rfl hk
    obtain ⟨x, y, e⟩ := two_take hn
    have b := rt 2
    rw [e] at b ek
    subst ek
    refine ⟨by decide, fun z => absurd z (by decide), hn, et, ?_, fun z => absurd z (by decide), fun _ => by show (r.take 2).length = 2; rw [e]; rfl⟩
    show Sy49Neutral.callOf (4 :: [(x : Int), (y : Int)]) = some (docCall 4 (r.take 2))
    rw [co4, two_read (b x (by simp)) (b y (by simp)), e]
    rfl
  · obtain ⟨hn, ek, et⟩ := flat_plain (n := 1) rfl hk
    obtain ⟨x, e⟩ := one_take hn
    have b := rt 1
    rw [e] at b ek
    subst ek
    refine ⟨by decide, fun z => absurd z (by decide), hn, et, ?_, fun z => absurd z (by decide), fun _ => by show (r.take 1).length = 1; rw [e]; rfl⟩
    show Sy49Neutral.callOf (5 :: [(x : Int)]) = some (docCall 5 (r.take 1))
    rw [co5, one_read (b x (by simp)), e]
    rfl
  · obtain ⟨hn, ek, et⟩ := flat_plain (n := 1) rfl hk
    obtain ⟨x, e⟩ := one_take hn
    have b := rt 1
    rw [e] at b ek
    subst ek
    refine ⟨by decide, fun z => absurd z (by decide), hn, et, ?_, fun z => absurd z (by decide), fun _ => by show (r.take 1).length = 1; rw [e]; rfl⟩
    show Sy49Neutral.callOf (6 :: [(x : Int)]) = some (docCall 6 (r.take 1))
    rw [co6, one_read (b x (by simp)), e]
    rfl
  · obtain ⟨hn, ek, et⟩ := flat_plain (n := 1) rfl hk
    obtain ⟨x, e⟩ := one_take hn
    have b := rt 1
    rw [e] at b ek
    subst ek
    refine ⟨by decide, fun z => absurd z (by decide), hn, et, ?_, fun z => absurd z (by decide), fun _ => by show (r.take 1).length = 1; rw [e]; rfl⟩
    show Sy49Neutral.callOf (7 :: [(x : Int)]) = some (docCall 7 (r.take 1))
    rw [co7, one_read (b x (by simp)), e]
    rfl
  · obtain ⟨hn, ek, et⟩ := flat_plain (n := 0) rfl hk
    subst ek
    exact ⟨by decide, fun z => absurd z (by decide), hn, et, rfl, fun z => absurd z (by decide), fun _ => rfl⟩
  · obtain ⟨hn, ek, et⟩ := flat_plain (n := 1) rfl hk
    obtain ⟨x, e⟩ := one_take hn
    have b := rt 1
    rw [e] at b ek
    subst ek
    refine ⟨by decide, fun z => absurd z (by decide), hn, et, ?_, fun z => absurd z (by decide), fun _ => by show (r.take 1).length = 1; rw [e]; rfl⟩
    show Sy49Neutral.callOf (9 :: [(x : Int)]) = some (docCall 9 (r.take 1))
    rw [co9, one_read (b x (by simp)), e]
    rfl
  · obtain ⟨hn, ek, et⟩ := flat_plain (n := 0) rfl hk
    subst ek
    exact ⟨by decide, fun z => absurd z (by decide), hn, et, rfl, fun z => absurd z (by decide), fun _ => rfl⟩
  · obtain ⟨hn, ek, et⟩ := flat_plain (n := 0) rfl hk
    subst ek
    exact ⟨by decide, fun z => absurd z (by decide), hn, et, rfl, fun z => absurd z (by decide), fun _ => rfl⟩
  · have : PySy49.shape ((c + 12 : Nat) : Int) = none := by
      unfold PySy49.shape
      rw [if_neg (by omega), if_neg (by omega), if_neg (by omega), if_neg (by omega), if_neg (by omega), if_neg (by omega), if_neg (by omega), if_neg (by omega), if_neg (by omega), if_neg (by omega), if_neg (by omega), if_neg (by omega)]
    change (match PySy49.shape ((c + 12 : Nat) : Int) with
      | none => none
      | some (n, k) => if (ofN r).length < n then none else match PyFlat.rows k ((ofN r).drop n) with
        | none => none
        | some (xs, t) => some ((((c + 12 : Nat) : Int) :: (ofN r).take n) :: xs, t)) = some (k, t) at hk
    rw [this] at hk
    cases hk
def heads (raw : List (List (List Int))) : List (List Int) := (raw.map PySy49.whole).map fun c => c.headD []
theorem told_cons (a : List Int) (r : List (List Int)) : PyFlat.told (a :: r) = ((a.length : Nat) : Int) :: a ++ PyFlat.told r := rfl
/-- the calls, as both play them -/
theorem all_calls : ∀ (f : Nat) (xs : List Nat) (m : M) (s : Sy49.St) (raw : List (List (List Int))), R m s → (∀ x ∈ xs, x ≤ 4294967295) →
    PyFlat.calls PySy49.shape f (ofN xs) = some raw → (heads raw).all Sy49Neutral.asked1 = true →
    GoodRun f m xs ∧ runM f m xs = PyFlat.told (PyFlat.played (fun s c => Sy49Neutral.step s (c.headD [])) s (raw.map PySy49.whole)) ∧ (runM f m xs).length = Sy49Neutral.many s (heads raw) + raw.length
  | f, [], m, s, raw, h, hx, hr, ha => by
    have e : raw = [] := by
      cases f <;> (injection hr with hr; exact hr.symm)
    subst e
    refine ⟨?_, ?_, ?_⟩
    · unfold GoodRun; trivial
    · unfold runM; rfl
    · unfold runM; rfl
  | 0, c :: r, m, s, raw, h, hx, hr, ha => by cases hr
  | f + 1, c :: r, m, s, raw, h, hx, hr, ha => by
    change (match PyFlat.call PySy49.shape ((c : Int) :: ofN r) with
      | none => none
      | some (k, t) => match PyFlat.calls PySy49.shape f t with
        | none => none
        | some cs => some (k :: cs)) = some raw at hr
    cases e1 : PyFlat.call PySy49.shape ((c : Int) :: ofN r) with
    | none => rw [e1] at hr; cases hr
    | some kt =>
      obtain ⟨k, t⟩ := kt
      rw [e1] at hr
      cases e2 : PyFlat.calls PySy49.shape f t with
      | none =>
        change (match PyFlat.calls PySy49.shape f t with
          | none => none
          | some cs => some (k :: cs)) = some raw at hr
        rw [e2] at hr; cases hr
      | some cs =>
        change (match PyFlat.calls PySy49.shape f t with
          | none => none
          | some cs => some (k :: cs)) = some raw at hr
        rw [e2] at hr
        injection hr with hr
        subst hr
        have hh : heads (k :: cs) = (PySy49.whole k).headD [] :: heads cs := rfl
        rw [hh, List.all_cons, Bool.and_eq_true] at ha
        obtain ⟨a1, a2⟩ := ha
        obtain ⟨p1, p2, p3, p4, p5, p6, p7⟩ := one_call (fun x hx' => hx x (List.mem_cons_of_mem _ hx')) e1 a1
        subst p4
        obtain ⟨⟨s1, s2⟩, pre⟩ := one_step h p1 p6 p7
        have st : Sy49Neutral.step s ((PySy49.whole k).headD []) = ((Sy49.step s (docCall c (r.take (argLen c r)))).1, Sy49Neutral.out (Sy49.step s (docCall c (r.take (argLen c r)))).2) := by
          unfold Sy49Neutral.step
          rw [p5]
        obtain ⟨i1, i2, i3⟩ := all_calls f (r.drop (argLen c r)) _ _ cs s1 (fun x hx' => hx x (List.mem_cons_of_mem _ (List.mem_of_mem_drop hx'))) e2 a2
        refine ⟨⟨p1, p2, p3, pre, s1.ok, i1⟩, ?_, ?_⟩
        · show ((((M.callM c m (r.take (argLen c r))).2.length : Nat) : Int) :: (M.callM c m (r.take (argLen c r))).2) ++ runM f (M.callM c m (r.take (argLen c r))).1 (r.drop (argLen c r)) = PyFlat.told ((Sy49Neutral.step s ((PySy49.whole k).headD [])).2 :: PyFlat.played _ (Sy49Neutral.step s ((PySy49.whole k).headD [])).1 (cs.map PySy49.whole))
          rw [told_cons, st, i2, s2]
        · show (((((M.callM c m (r.take (argLen c r))).2.length : Nat) : Int) :: (M.callM c m (r.take (argLen c r))).2) ++ runM f (M.callM c m (r.take (argLen c r))).1 (r.drop (argLen c r))).length = ((Sy49Neutral.step s ((PySy49.whole k).headD [])).2.length + Sy49Neutral.many (Sy49Neutral.step s ((PySy49.whole k).headD [])).1 (heads cs)) + (cs.length + 1)
          rw [List.length_append, List.length_cons, i3, st, s2]
          dsimp only
          omega
theorem back_nat : ∀ l : List Int, (∀ x ∈ l, 0 ≤ x) → ofN (l.map Int.toNat) = l
  | [], _ => rfl
  | x :: r, h => by
    show ((x.toNat : Nat) : Int) :: ofN (r.map Int.toNat) = x :: r
    rw [back_nat r fun y hy => h y (List.mem_cons_of_mem _ hy), Int.toNat_of_nonneg (h x (List.mem_cons_self ..))]
/-- **what is asked, and what is due** -/
theorem all_due (l : List Int) (hl : ∀ x ∈ l, 0 ≤ x ∧ x ≤ 4294967295) (ha : PySy49.answers_asked l = true) :
    GoodRun (l.map Int.toNat).length (M.fresh 1 [1] [1]) (l.map Int.toNat) ∧ runM (l.map Int.toNat).length (M.fresh 1 [1] [1]) (l.map Int.toNat) = PySy49.answers l ∧ (runM (l.map Int.toNat).length (M.fresh 1 [1] [1]) (l.map Int.toNat)).length ≤ 2000000 := by
  have back := back_nat l fun x hx => (hl x hx).1
  have hx : ∀ x ∈ l.map Int.toNat, x ≤ 4294967295 := by
    intro x hx
    obtain ⟨y, hy, e⟩ := List.mem_map.mp hx
    have := hl y hy
    omega
  have hlen : (l.map Int.toNat).length = l.length := List.length_map ..
  cases e : PyFlat.calls PySy49.shape l.length l with
  | none =>
    unfold PySy49.answers_asked at ha
    rw [e] at ha
    cases ha
  | some raw =>
    unfold PySy49.answers_asked at ha
    rw [e] at ha
    change (!raw.isEmpty && PyFlat.atMost 80 raw && PyInside.calls PySy49.bound raw && Sy49Neutral.asked (heads raw) && PyFlat.short 10000000 (PySy49.answers l)) = true at ha
    rw [Bool.and_eq_true, Bool.and_eq_true, Bool.and_eq_true, Bool.and_eq_true] at ha
    obtain ⟨⟨⟨⟨_, a2⟩, _⟩, a4⟩, _⟩ := ha
    unfold Sy49Neutral.asked at a4
    rw [Bool.and_eq_true, Bool.and_eq_true, Bool.and_eq_true] at a4
    obtain ⟨b1, _, _, b4⟩ := a4
    have a2' : raw.length ≤ 80 := of_decide_eq_true a2
    have b4' : Sy49Neutral.many Sy49Neutral.start (heads raw) ≤ 1000000 := of_decide_eq_true b4
    have e' : PyFlat.calls PySy49.shape (l.map Int.toNat).length (ofN (l.map Int.toNat)) = some raw := by rw [back, hlen]; exact e
    obtain ⟨g1, g2, g3⟩ := all_calls _ _ _ _ _ start_R hx e' b1
    refine ⟨g1, ?_, ?_⟩
    · rw [g2]
      unfold PySy49.answers PySy49.calls
      rw [e]
      rfl
    · rw [g3]
      have : Sy49Neutral.many Sy49.init (heads raw) ≤ 1000000 := b4'
      omega
end OL


/-! ## the end: what the top has written, each def by its place -/
namespace OL
open PySem PySem.Spec PyProof.Rows L2
def FD (K : PySem.W.Frag) (x qual : Str) (st : Stmt) (f : Addr) : Prop := ∃ fd, L2.Fun K x qual st f fd
theorem fd_mk {K : PySem.W.Frag} {x qual : Str} {st : Stmt} {f : Addr} {oc : Value} {od an : Option Addr} {osl : Array (Option Value)} {kV doc pm cdv ct : Value} (l : K.lookup f = some ⟨oc, od, .func (PySem.W.fnOf x qual (defArgs st) (defBody st) (defScope st) .none kV doc pm an cdv ct), osl⟩)
    (c : PySem.W.codeIn K cdv qual = true) (k : PySem.W.keepIn K (.ref f) = true) : FD K x qual st f := ⟨_, fun_mk l c k⟩
theorem tup_mk {K : PySem.W.Frag} {C : Addr} {o : Option Addr} {its : Array Value} {n : Nat} {sl : Array (Option Value)} {xs : List V} (l : K.lookup C = some ⟨.type "tuple", o, .seq its n, sl⟩) (z : its.size ≤ sizeLine) (v : Vals xs its.toList) : ∀ H, SqT K H C xs := fun _ => .inr ⟨_, its, n, l, rfl, rfl, z, v⟩
theorem int_mk {K : PySem.W.Frag} {h : Heap} {mg : Str → Option Value} {x : Str} {i : Int} {t : Nat} (X : K.In h) (G : h.Ns mainGlobals mg) (e : PySem.W.nsIn K mainGlobals x = some (some (.int i t))) : ∃ u, mg x = some u ∧ RelV (.int i) u := ⟨_, PySem.W.mg_of X G e, ⟨t, rfl⟩⟩
theorem ref_mk {K : PySem.W.Frag} {h : Heap} {mg : Str → Option Value} {x : Str} {a : Addr} (X : K.In h) (G : h.Ns mainGlobals mg) (e : PySem.W.nsIn K mainGlobals x = some (some (.ref a))) : ∃ u, mg x = some u ∧ RelV (.ref a) u := ⟨_, PySem.W.mg_of X G e, rfl⟩
theorem bt_answers {K : PySem.W.Frag} {f : Addr} {fd : FuncData} (F : L2.Fun K "answers" "answers" s_answers f fd) : ∀ (s : Shared) (us : List Value), us.length = (["calls"] : List Str).length → BindsTo s fd ⟨us, []⟩ ((["calls"] : List Str).zip us) := by
  obtain ⟨oc, od, kV, doc, pm, an, cdv, ct, osl, rfl, lk, hcd⟩ := F.ex
  exact fun s us hu => match us, hu with | [_], _ => .of_eq rfl
theorem all_mk {P : Program} {w : World} {K : PySem.W.Frag} {h : Heap} {mg : Str → Option Value} {fa : Addr} (X : K.In h) (G : h.Ns mainGlobals mg) (hfa : mg "answers" = some (.ref fa)) {CV CB CT PN t_LEFT t_RIGHT t_MOST_TURN t_MOST_SPANS t_MOST_CELLS t_MOST_LIMIT t_MOST_WEIGHT t_MOST_TICKS t_MOST_VEHICLES t_WAITS t_CROSSES t_HAS_LEFT t_GAVE_UP t_SENT_AWAY t_BEGINS f_Vehicle_init f_Vehicle_twin f_Bridge_init f_Bridge_renew f_Bridge_copied f_Bridge_least_limit f_Bridge_how_many_wait f_Bridge_add_vehicle f_Bridge_put f_Bridge_take_from_waiting f_Bridge_send_heavy_away f_Bridge_first_cell f_Bridge_last_cell f_Bridge_next_cell f_Bridge_is_free f_Bridge_can_bear f_Bridge_can_move f_Bridge_move_all f_Bridge_turn_is_over f_Bridge_change_sides f_Bridge_let_enter f_Bridge_borne f_Bridge_keep_most f_Bridge_tick f_Bridge_will_leave f_Bridge_ticks_until_left f_is_within f_with_row f_by_twos f_numbers_of f_are_spans f_begins f_comes f_gives f_ticks f_limit f_shut f_where f_when f_loads f_queue f_most f_state f_end_of_call f_answers : Nat}
    (aV : PySem.W.nsIn K mainGlobals "Vehicle" = some (some (.ref CV)))
    (aB : PySem.W.nsIn K mainGlobals "Bridge" = some (some (.ref CB)))
    (pgV : PySem.W.plainGet K CV Str.empty = true)
    (hdV : PySem.W.hasDictIn K CV = true)
    (poV : PySem.W.plainOver K CV = true)
    (saV : PySem.W.findIn K (.ref CV) "__setattr__" = some (some (.builtin "object.__setattr__")))
    (mkV : PySem.W.makesIn K CV = true)
    (kcV : PySem.W.keepIn K (.ref CV) = true)
    (pgB : PySem.W.plainGet K CB Str.empty = true)
    (hdB : PySem.W.hasDictIn K CB = true)
    (poB : PySem.W.plainOver K CB = true)
    (saB : PySem.W.findIn K (.ref CB) "__setattr__" = some (some (.builtin "object.__setattr__")))
    (mkB : PySem.W.makesIn K CB = true)
    (kcB : PySem.W.keepIn K (.ref CB) = true)
    (eqm : PySem.W.mroIn K CV (.type "object") = some true)
    (eqe : PySem.W.findIn K (.ref CV) "__eq__" = some (some (.builtin "object.__eq__")))
    (v_number : PySem.W.findIn K (.ref CV) "number" = some none)
    (v_side : PySem.W.findIn K (.ref CV) "side" = some none)
    (v_weight : PySem.W.findIn K (.ref CV) "weight" = some none)
    (v_place : PySem.W.findIn K (.ref CV) "place" = some none)
    (v_cell : PySem.W.findIn K (.ref CV) "cell" = some none)
    (v_went_at : PySem.W.findIn K (.ref CV) "went_at" = some none)
    (a_turn : PySem.W.findIn K (.ref CB) "turn" = some none)
    (a_cells : PySem.W.findIn K (.ref CB) "cells" = some none)
    (a_limits : PySem.W.findIn K (.ref CB) "limits" = some none)
    (a_span_of : PySem.W.findIn K (.ref CB) "span_of" = some none)
    (a_came : PySem.W.findIn K (.ref CB) "came" = some none)
    (a_waiting : PySem.W.findIn K (.ref CB) "waiting" = some none)
    (a_crossing : PySem.W.findIn K (.ref CB) "crossing" = some none)
    (a_open_side : PySem.W.findIn K (.ref CB) "open_side" = some none)
    (a_entered : PySem.W.findIn K (.ref CB) "entered" = some none)
    (a_is_shut : PySem.W.findIn K (.ref CB) "is_shut" = some none)
    (a_time : PySem.W.findIn K (.ref CB) "time" = some none)
    (a_most_borne : PySem.W.findIn K (.ref CB) "most_borne" = some none)
    (a_most_borne_at : PySem.W.findIn K (.ref CB) "most_borne_at" = some none)
    (n_LEFT : PySem.W.nsIn K mainGlobals "LEFT" = some (some (.int 0 t_LEFT)))
    (n_RIGHT : PySem.W.nsIn K mainGlobals "RIGHT" = some (some (.int 1 t_RIGHT)))
    (n_MOST_TURN : PySem.W.nsIn K mainGlobals "MOST_TURN" = some (some (.int 20 t_MOST_TURN)))
    (n_MOST_SPANS : PySem.W.nsIn K mainGlobals "MOST_SPANS" = some (some (.int 12 t_MOST_SPANS)))
    (n_MOST_CELLS : PySem.W.nsIn K mainGlobals "MOST_CELLS" = some (some (.int 5 t_MOST_CELLS)))
    (n_MOST_LIMIT : PySem.W.nsIn K mainGlobals "MOST_LIMIT" = some (some (.int 1000 t_MOST_LIMIT)))
    (n_MOST_WEIGHT : PySem.W.nsIn K mainGlobals "MOST_WEIGHT" = some (some (.int 1000 t_MOST_WEIGHT)))
    (n_MOST_TICKS : PySem.W.nsIn K mainGlobals "MOST_TICKS" = some (some (.int 1000 t_MOST_TICKS)))
    (n_MOST_VEHICLES : PySem.W.nsIn K mainGlobals "MOST_VEHICLES" = some (some (.int 60 t_MOST_VEHICLES)))
    (n_WAITS : PySem.W.nsIn K mainGlobals "WAITS" = some (some (.int 0 t_WAITS)))
    (n_CROSSES : PySem.W.nsIn K mainGlobals "CROSSES" = some (some (.int 1 t_CROSSES)))
    (n_HAS_LEFT : PySem.W.nsIn K mainGlobals "HAS_LEFT" = some (some (.int 2 t_HAS_LEFT)))
    (n_GAVE_UP : PySem.W.nsIn K mainGlobals "GAVE_UP" = some (some (.int 3 t_GAVE_UP)))
    (n_SENT_AWAY : PySem.W.nsIn K mainGlobals "SENT_AWAY" = some (some (.int 4 t_SENT_AWAY)))
    (n_BEGINS : PySem.W.nsIn K mainGlobals "BEGINS" = some (some (.int 0 t_BEGINS)))
    (b_len : PySem.W.nsIn K mainGlobals "len" = some none)
    (b_list : PySem.W.nsIn K mainGlobals "list" = some none)
    (b_min : PySem.W.nsIn K mainGlobals "min" = some none)
    (b_sum : PySem.W.nsIn K mainGlobals "sum" = some none)
    (b_all : PySem.W.nsIn K mainGlobals "all" = some none)
    (b_range : PySem.W.nsIn K mainGlobals "range" = some none)
    (b_enumerate : PySem.W.nsIn K mainGlobals "enumerate" = some none)
    (b_zip : PySem.W.nsIn K mainGlobals "zip" = some none)
    (aC : PySem.W.nsIn K mainGlobals "CALLS" = some (some (.ref CT)))
    (aP : PySem.W.nsIn K mainGlobals "PLAIN_NUMBERS" = some (some (.ref PN)))
    (e_Vehicle_init : PySem.W.findIn K (.ref CV) "__init__" = some (some (.ref f_Vehicle_init)))
    (i_Vehicle_init : PySem.W.isFn K (.ref f_Vehicle_init) = true)
    (d_Vehicle_init : FD K "__init__" "Vehicle.__init__" s_Vehicle_init f_Vehicle_init)
    (e_Vehicle_twin : PySem.W.findIn K (.ref CV) "twin" = some (some (.ref f_Vehicle_twin)))
    (i_Vehicle_twin : PySem.W.isFn K (.ref f_Vehicle_twin) = true)
    (d_Vehicle_twin : FD K "twin" "Vehicle.twin" s_Vehicle_twin f_Vehicle_twin)
    (e_Bridge_init : PySem.W.findIn K (.ref CB) "__init__" = some (some (.ref f_Bridge_init)))
    (i_Bridge_init : PySem.W.isFn K (.ref f_Bridge_init) = true)
    (d_Bridge_init : FD K "__init__" "Bridge.__init__" s_Bridge_init f_Bridge_init)
    (e_Bridge_renew : PySem.W.findIn K (.ref CB) "renew" = some (some (.ref f_Bridge_renew)))
    (i_Bridge_renew : PySem.W.isFn K (.ref f_Bridge_renew) = true)
    (d_Bridge_renew : FD K "renew" "Bridge.renew" s_Bridge_renew f_Bridge_renew)
    (e_Bridge_copied : PySem.W.findIn K (.ref CB) "copied" = some (some (.ref f_Bridge_copied)))
    (i_Bridge_copied : PySem.W.isFn K (.ref f_Bridge_copied) = true)
    (d_Bridge_copied : FD K "copied" "Bridge.copied" s_Bridge_copied f_Bridge_copied)
    (e_Bridge_least_limit : PySem.W.findIn K (.ref CB) "least_limit" = some (some (.ref f_Bridge_least_limit)))
    (i_Bridge_least_limit : PySem.W.isFn K (.ref f_Bridge_least_limit) = true)
    (d_Bridge_least_limit : FD K "least_limit" "Bridge.least_limit" s_Bridge_least_limit f_Bridge_least_limit)
    (e_Bridge_how_many_wait : PySem.W.findIn K (.ref CB) "how_many_wait" = some (some (.ref f_Bridge_how_many_wait)))
    (i_Bridge_how_many_wait : PySem.W.isFn K (.ref f_Bridge_how_many_wait) = true)
    (d_Bridge_how_many_wait : FD K "how_many_wait" "Bridge.how_many_wait" s_Bridge_how_many_wait f_Bridge_how_many_wait)
    (e_Bridge_add_vehicle : PySem.W.findIn K (.ref CB) "add_vehicle" = some (some (.ref f_Bridge_add_vehicle)))
    (i_Bridge_add_vehicle : PySem.W.isFn K (.ref f_Bridge_add_vehicle) = true)
    (d_Bridge_add_vehicle : FD K "add_vehicle" "Bridge.add_vehicle" s_Bridge_add_vehicle f_Bridge_add_vehicle)
    (e_Bridge_put : PySem.W.findIn K (.ref CB) "put" = some (some (.ref f_Bridge_put)))
    (i_Bridge_put : PySem.W.isFn K (.ref f_Bridge_put) = true)
    (d_Bridge_put : FD K "put" "Bridge.put" s_Bridge_put f_Bridge_put)
    (e_Bridge_take_from_waiting : PySem.W.findIn K (.ref CB) "take_from_waiting" = some (some (.ref f_Bridge_take_from_waiting)))
    (i_Bridge_take_from_waiting : PySem.W.isFn K (.ref f_Bridge_take_from_waiting) = true)
    (d_Bridge_take_from_waiting : FD K "take_from_waiting" "Bridge.take_from_waiting" s_Bridge_take_from_waiting f_Bridge_take_from_waiting)
    (e_Bridge_send_heavy_away : PySem.W.findIn K (.ref CB) "send_heavy_away" = some (some (.ref f_Bridge_send_heavy_away)))
    (i_Bridge_send_heavy_away : PySem.W.isFn K (.ref f_Bridge_send_heavy_away) = true)
    (d_Bridge_send_heavy_away : FD K "send_heavy_away" "Bridge.send_heavy_away" s_Bridge_send_heavy_away f_Bridge_send_heavy_away)
    (e_Bridge_first_cell : PySem.W.findIn K (.ref CB) "first_cell" = some (some (.ref f_Bridge_first_cell)))
    (i_Bridge_first_cell : PySem.W.isFn K (.ref f_Bridge_first_cell) = true)
    (d_Bridge_first_cell : FD K "first_cell" "Bridge.first_cell" s_Bridge_first_cell f_Bridge_first_cell)
    (e_Bridge_last_cell : PySem.W.findIn K (.ref CB) "last_cell" = some (some (.ref f_Bridge_last_cell)))
    (i_Bridge_last_cell : PySem.W.isFn K (.ref f_Bridge_last_cell) = true)
    (d_Bridge_last_cell : FD K "last_cell" "Bridge.last_cell" s_Bridge_last_cell f_Bridge_last_cell)
    (e_Bridge_next_cell : PySem.W.findIn K (.ref CB) "next_cell" = some (some (.ref f_Bridge_next_cell)))
    (i_Bridge_next_cell : PySem.W.isFn K (.ref f_Bridge_next_cell) = true)
    (d_Bridge_next_cell : FD K "next_cell" "Bridge.next_cell" s_Bridge_next_cell f_Bridge_next_cell)
    (e_Bridge_is_free : PySem.W.findIn K (.ref CB) "is_free" = some (some (.ref f_Bridge_is_free)))
    (i_Bridge_is_free : PySem.W.isFn K (.ref f_Bridge_is_free) = true)
    (d_Bridge_is_free : FD K "is_free" "Bridge.is_free" s_Bridge_is_free f_Bridge_is_free)
    (e_Bridge_can_bear : PySem.W.findIn K (.ref CB) "can_bear" = some (some (.ref f_Bridge_can_bear)))
    (i_Bridge_can_bear : PySem.W.isFn K (.ref f_Bridge_can_bear) = true)
    (d_Bridge_can_bear : FD K "can_bear" "Bridge.can_bear" s_Bridge_can_bear f_Bridge_can_bear)
    (e_Bridge_can_move : PySem.W.findIn K (.ref CB) "can_move" = some (some (.ref f_Bridge_can_move)))
    (i_Bridge_can_move : PySem.W.isFn K (.ref f_Bridge_can_move) = true)
    (d_Bridge_can_move : FD K "can_move" "Bridge.can_move" s_Bridge_can_move f_Bridge_can_move)
    (e_Bridge_move_all : PySem.W.findIn K (.ref CB) "move_all" = some (some (.ref f_Bridge_move_all)))
    (i_Bridge_move_all : PySem.W.isFn K (.ref f_Bridge_move_all) = true)
    (d_Bridge_move_all : FD K "move_all" "Bridge.move_all" s_Bridge_move_all f_Bridge_move_all)
    (e_Bridge_turn_is_over : PySem.W.findIn K (.ref CB) "turn_is_over" = some (some (.ref f_Bridge_turn_is_over)))
    (i_Bridge_turn_is_over : PySem.W.isFn K (.ref f_Bridge_turn_is_over) = true)
    (d_Bridge_turn_is_over : FD K "turn_is_over" "Bridge.turn_is_over" s_Bridge_turn_is_over f_Bridge_turn_is_over)
    (e_Bridge_change_sides : PySem.W.findIn K (.ref CB) "change_sides" = some (some (.ref f_Bridge_change_sides)))
    (i_Bridge_change_sides : PySem.W.isFn K (.ref f_Bridge_change_sides) = true)
    (d_Bridge_change_sides : FD K "change_sides" "Bridge.change_sides" s_Bridge_change_sides f_Bridge_change_sides)
    (e_Bridge_let_enter : PySem.W.findIn K (.ref CB) "let_enter" = some (some (.ref f_Bridge_let_enter)))
    (i_Bridge_let_enter : PySem.W.isFn K (.ref f_Bridge_let_enter) = true)
    (d_Bridge_let_enter : FD K "let_enter" "Bridge.let_enter" s_Bridge_let_enter f_Bridge_let_enter)
    (e_Bridge_borne : PySem.W.findIn K (.ref CB) "borne" = some (some (.ref f_Bridge_borne)))
    (i_Bridge_borne : PySem.W.isFn K (.ref f_Bridge_borne) = true)
    (d_Bridge_borne : FD K "borne" "Bridge.borne" s_Bridge_borne f_Bridge_borne)
    (e_Bridge_keep_most : PySem.W.findIn K (.ref CB) "keep_most" = some (some (.ref f_Bridge_keep_most)))
    (i_Bridge_keep_most : PySem.W.isFn K (.ref f_Bridge_keep_most) = true)
    (d_Bridge_keep_most : FD K "keep_most" "Bridge.keep_most" s_Bridge_keep_most f_Bridge_keep_most)
    (e_Bridge_tick : PySem.W.findIn K (.ref CB) "tick" = some (some (.ref f_Bridge_tick)))
    (i_Bridge_tick : PySem.W.isFn K (.ref f_Bridge_tick) = true)
    (d_Bridge_tick : FD K "tick" "Bridge.tick" s_Bridge_tick f_Bridge_tick)
    (e_Bridge_will_leave : PySem.W.findIn K (.ref CB) "will_leave" = some (some (.ref f_Bridge_will_leave)))
    (i_Bridge_will_leave : PySem.W.isFn K (.ref f_Bridge_will_leave) = true)
    (d_Bridge_will_leave : FD K "will_leave" "Bridge.will_leave" s_Bridge_will_leave f_Bridge_will_leave)
    (e_Bridge_ticks_until_left : PySem.W.findIn K (.ref CB) "ticks_until_left" = some (some (.ref f_Bridge_ticks_until_left)))
    (i_Bridge_ticks_until_left : PySem.W.isFn K (.ref f_Bridge_ticks_until_left) = true)
    (d_Bridge_ticks_until_left : FD K "ticks_until_left" "Bridge.ticks_until_left" s_Bridge_ticks_until_left f_Bridge_ticks_until_left)
    (e_is_within : PySem.W.nsIn K mainGlobals "is_within" = some (some (.ref f_is_within)))
    (d_is_within : FD K "is_within" "is_within" s_is_within f_is_within)
    (e_with_row : PySem.W.nsIn K mainGlobals "with_row" = some (some (.ref f_with_row)))
    (d_with_row : FD K "with_row" "with_row" s_with_row f_with_row)
    (e_by_twos : PySem.W.nsIn K mainGlobals "by_twos" = some (some (.ref f_by_twos)))
    (d_by_twos : FD K "by_twos" "by_twos" s_by_twos f_by_twos)
    (e_numbers_of : PySem.W.nsIn K mainGlobals "numbers_of" = some (some (.ref f_numbers_of)))
    (d_numbers_of : FD K "numbers_of" "numbers_of" s_numbers_of f_numbers_of)
    (e_are_spans : PySem.W.nsIn K mainGlobals "are_spans" = some (some (.ref f_are_spans)))
    (d_are_spans : FD K "are_spans" "are_spans" s_are_spans f_are_spans)
    (e_begins : PySem.W.nsIn K mainGlobals "begins" = some (some (.ref f_begins)))
    (d_begins : FD K "begins" "begins" s_begins f_begins)
    (e_comes : PySem.W.nsIn K mainGlobals "comes" = some (some (.ref f_comes)))
    (d_comes : FD K "comes" "comes" s_comes f_comes)
    (e_gives : PySem.W.nsIn K mainGlobals "gives" = some (some (.ref f_gives)))
    (d_gives : FD K "gives" "gives" s_gives f_gives)
    (e_ticks : PySem.W.nsIn K mainGlobals "ticks" = some (some (.ref f_ticks)))
    (d_ticks : FD K "ticks" "ticks" s_ticks f_ticks)
    (e_limit : PySem.W.nsIn K mainGlobals "limit" = some (some (.ref f_limit)))
    (d_limit : FD K "limit" "limit" s_limit f_limit)
    (e_shut : PySem.W.nsIn K mainGlobals "shut" = some (some (.ref f_shut)))
    (d_shut : FD K "shut" "shut" s_shut f_shut)
    (e_where : PySem.W.nsIn K mainGlobals "where" = some (some (.ref f_where)))
    (d_where : FD K "where" "where" s_where f_where)
    (e_when : PySem.W.nsIn K mainGlobals "when" = some (some (.ref f_when)))
    (d_when : FD K "when" "when" s_when f_when)
    (e_loads : PySem.W.nsIn K mainGlobals "loads" = some (some (.ref f_loads)))
    (d_loads : FD K "loads" "loads" s_loads f_loads)
    (e_queue : PySem.W.nsIn K mainGlobals "queue" = some (some (.ref f_queue)))
    (d_queue : FD K "queue" "queue" s_queue f_queue)
    (e_most : PySem.W.nsIn K mainGlobals "most" = some (some (.ref f_most)))
    (d_most : FD K "most" "most" s_most f_most)
    (e_state : PySem.W.nsIn K mainGlobals "state" = some (some (.ref f_state)))
    (d_state : FD K "state" "state" s_state f_state)
    (e_end_of_call : PySem.W.nsIn K mainGlobals "end_of_call" = some (some (.ref f_end_of_call)))
    (d_end_of_call : FD K "end_of_call" "end_of_call" s_end_of_call f_end_of_call)
    (e_answers : PySem.W.nsIn K mainGlobals "answers" = some (some (.ref f_answers)))
    (d_answers : FD K "answers" "answers" s_answers f_answers)
    (tC : ∀ H, SqT K H CT (([f_begins, f_comes, f_gives, f_ticks, f_limit, f_shut, f_where, f_when, f_loads, f_queue, f_most, f_state] : List Addr).map V.ref))
    (tP : ∀ H, SqT K H PN [.int 1, .int 2, .int 1, .int 1, .int 2, .int 1, .int 1, .int 1, .int 0, .int 1, .int 0, .int 0])
    : ∃ fd : FuncData, (∀ (s : Shared) (us : List Value), us.length = (["calls"] : List Str).length → BindsTo s fd ⟨us, []⟩ ((["calls"] : List Str).zip us)) ∧
      ∀ base : Heap, K.In base → base.Ns mainGlobals mg → FnOk P w K mg base CX0 7 fa fd ["calls"] (sp_answers K 0 0) := by
  have e := hfa.symm.trans (PySem.W.mg_of X G e_answers)
  cases e
  have T : Txt K mg CV CB CT PN := {
    clV := ⟨pgV, hdV, poV, saV⟩
    clB := ⟨pgB, hdB, poB, saB⟩
    eqV := ⟨eqm, eqe⟩
    v_number := v_number
    v_side := v_side
    v_weight := v_weight
    v_place := v_place
    v_cell := v_cell
    v_went_at := v_went_at
    a_turn := a_turn
    a_cells := a_cells
    a_limits := a_limits
    a_span_of := a_span_of
    a_came := a_came
    a_waiting := a_waiting
    a_crossing := a_crossing
    a_open_side := a_open_side
    a_entered := a_entered
    a_is_shut := a_is_shut
    a_time := a_time
    a_most_borne := a_most_borne
    a_most_borne_at := a_most_borne_at
    g_LEFT := int_mk X G n_LEFT
    g_RIGHT := int_mk X G n_RIGHT
    g_MOST_TURN := int_mk X G n_MOST_TURN
    g_MOST_SPANS := int_mk X G n_MOST_SPANS
    g_MOST_CELLS := int_mk X G n_MOST_CELLS
    g_MOST_LIMIT := int_mk X G n_MOST_LIMIT
    g_MOST_WEIGHT := int_mk X G n_MOST_WEIGHT
    g_MOST_TICKS := int_mk X G n_MOST_TICKS
    g_MOST_VEHICLES := int_mk X G n_MOST_VEHICLES
    g_WAITS := int_mk X G n_WAITS
    g_CROSSES := int_mk X G n_CROSSES
    g_HAS_LEFT := int_mk X G n_HAS_LEFT
    g_GAVE_UP := int_mk X G n_GAVE_UP
    g_SENT_AWAY := int_mk X G n_SENT_AWAY
    g_BEGINS := int_mk X G n_BEGINS
    b_len := PySem.W.mg_none_of X G b_len
    b_list := PySem.W.mg_none_of X G b_list
    b_min := PySem.W.mg_none_of X G b_min
    b_sum := PySem.W.mg_none_of X G b_sum
    b_all := PySem.W.mg_none_of X G b_all
    b_range := PySem.W.mg_none_of X G b_range
    b_enumerate := PySem.W.mg_none_of X G b_enumerate
    b_zip := PySem.W.mg_none_of X G b_zip
    g_CALLS := ref_mk X G aC
    g_PLAIN_NUMBERS := ref_mk X G aP
    plain := tP }
  obtain ⟨fd_Vehicle_init, F_Vehicle_init⟩ := d_Vehicle_init
  have bi_Vehicle_init := F_Vehicle_init.binds (ps := ["self", "number", "side", "weight"]) fun _ _ _ _ _ _ us hl => match us, hl with | [_, _, _, _], _ => rfl
  obtain ⟨fd_Vehicle_twin, F_Vehicle_twin⟩ := d_Vehicle_twin
  have bi_Vehicle_twin := F_Vehicle_twin.binds (ps := ["self"]) fun _ _ _ _ _ _ us hl => match us, hl with | [_], _ => rfl
  obtain ⟨fd_Bridge_init, F_Bridge_init⟩ := d_Bridge_init
  have bi_Bridge_init := F_Bridge_init.binds (ps := ["self"]) fun _ _ _ _ _ _ us hl => match us, hl with | [_], _ => rfl
  obtain ⟨fd_Bridge_renew, F_Bridge_renew⟩ := d_Bridge_renew
  have bi_Bridge_renew := F_Bridge_renew.binds (ps := ["self", "turn", "cells", "limits"]) fun _ _ _ _ _ _ us hl => match us, hl with | [_, _, _, _], _ => rfl
  obtain ⟨fd_Bridge_copied, F_Bridge_copied⟩ := d_Bridge_copied
  have bi_Bridge_copied := F_Bridge_copied.binds (ps := ["self"]) fun _ _ _ _ _ _ us hl => match us, hl with | [_], _ => rfl
  obtain ⟨fd_Bridge_least_limit, F_Bridge_least_limit⟩ := d_Bridge_least_limit
  have bi_Bridge_least_limit := F_Bridge_least_limit.binds (ps := ["self"]) fun _ _ _ _ _ _ us hl => match us, hl with | [_], _ => rfl
  obtain ⟨fd_Bridge_how_many_wait, F_Bridge_how_many_wait⟩ := d_Bridge_how_many_wait
  have bi_Bridge_how_many_wait := F_Bridge_how_many_wait.binds (ps := ["self"]) fun _ _ _ _ _ _ us hl => match us, hl with | [_], _ => rfl
  obtain ⟨fd_Bridge_add_vehicle, F_Bridge_add_vehicle⟩ := d_Bridge_add_vehicle
  have bi_Bridge_add_vehicle := F_Bridge_add_vehicle.binds (ps := ["self", "side", "weight"]) fun _ _ _ _ _ _ us hl => match us, hl with | [_, _, _], _ => rfl
  obtain ⟨fd_Bridge_put, F_Bridge_put⟩ := d_Bridge_put
  have bi_Bridge_put := F_Bridge_put.binds (ps := ["self", "vehicle", "place"]) fun _ _ _ _ _ _ us hl => match us, hl with | [_, _, _], _ => rfl
  obtain ⟨fd_Bridge_take_from_waiting, F_Bridge_take_from_waiting⟩ := d_Bridge_take_from_waiting
  have bi_Bridge_take_from_waiting := F_Bridge_take_from_waiting.binds (ps := ["self", "vehicle", "place"]) fun _ _ _ _ _ _ us hl => match us, hl with | [_, _, _], _ => rfl
  obtain ⟨fd_Bridge_send_heavy_away, F_Bridge_send_heavy_away⟩ := d_Bridge_send_heavy_away
  have bi_Bridge_send_heavy_away := F_Bridge_send_heavy_away.binds (ps := ["self"]) fun _ _ _ _ _ _ us hl => match us, hl with | [_], _ => rfl
  obtain ⟨fd_Bridge_first_cell, F_Bridge_first_cell⟩ := d_Bridge_first_cell
  have bi_Bridge_first_cell := F_Bridge_first_cell.binds (ps := ["self", "side"]) fun _ _ _ _ _ _ us hl => match us, hl with | [_, _], _ => rfl
  obtain ⟨fd_Bridge_last_cell, F_Bridge_last_cell⟩ := d_Bridge_last_cell
  have bi_Bridge_last_cell := F_Bridge_last_cell.binds (ps := ["self", "side"]) fun _ _ _ _ _ _ us hl => match us, hl with | [_, _], _ => rfl
  obtain ⟨fd_Bridge_next_cell, F_Bridge_next_cell⟩ := d_Bridge_next_cell
  have bi_Bridge_next_cell := F_Bridge_next_cell.binds (ps := ["self", "vehicle"]) fun _ _ _ _ _ _ us hl => match us, hl with | [_, _], _ => rfl
  obtain ⟨fd_Bridge_is_free, F_Bridge_is_free⟩ := d_Bridge_is_free
  have bi_Bridge_is_free := F_Bridge_is_free.binds (ps := ["self", "cell", "ahead"]) fun _ _ _ _ _ _ us hl => match us, hl with | [_, _, _], _ => rfl
  obtain ⟨fd_Bridge_can_bear, F_Bridge_can_bear⟩ := d_Bridge_can_bear
  have bi_Bridge_can_bear := F_Bridge_can_bear.binds (ps := ["self", "span", "weight", "ahead"]) fun _ _ _ _ _ _ us hl => match us, hl with | [_, _, _, _], _ => rfl
  obtain ⟨fd_Bridge_can_move, F_Bridge_can_move⟩ := d_Bridge_can_move
  have bi_Bridge_can_move := F_Bridge_can_move.binds (ps := ["self", "vehicle", "cell", "ahead"]) fun _ _ _ _ _ _ us hl => match us, hl with | [_, _, _, _], _ => rfl
  obtain ⟨fd_Bridge_move_all, F_Bridge_move_all⟩ := d_Bridge_move_all
  have bi_Bridge_move_all := F_Bridge_move_all.binds (ps := ["self"]) fun _ _ _ _ _ _ us hl => match us, hl with | [_], _ => rfl
  obtain ⟨fd_Bridge_turn_is_over, F_Bridge_turn_is_over⟩ := d_Bridge_turn_is_over
  have bi_Bridge_turn_is_over := F_Bridge_turn_is_over.binds (ps := ["self"]) fun _ _ _ _ _ _ us hl => match us, hl with | [_], _ => rfl
  obtain ⟨fd_Bridge_change_sides, F_Bridge_change_sides⟩ := d_Bridge_change_sides
  have bi_Bridge_change_sides := F_Bridge_change_sides.binds (ps := ["self"]) fun _ _ _ _ _ _ us hl => match us, hl with | [_], _ => rfl
  obtain ⟨fd_Bridge_let_enter, F_Bridge_let_enter⟩ := d_Bridge_let_enter
  have bi_Bridge_let_enter := F_Bridge_let_enter.binds (ps := ["self"]) fun _ _ _ _ _ _ us hl => match us, hl with | [_], _ => rfl
  obtain ⟨fd_Bridge_borne, F_Bridge_borne⟩ := d_Bridge_borne
  have bi_Bridge_borne := F_Bridge_borne.binds (ps := ["self"]) fun _ _ _ _ _ _ us hl => match us, hl with | [_], _ => rfl
  obtain ⟨fd_Bridge_keep_most, F_Bridge_keep_most⟩ := d_Bridge_keep_most
  have bi_Bridge_keep_most := F_Bridge_keep_most.binds (ps := ["self"]) fun _ _ _ _ _ _ us hl => match us, hl with | [_], _ => rfl
  obtain ⟨fd_Bridge_tick, F_Bridge_tick⟩ := d_Bridge_tick
  have bi_Bridge_tick := F_Bridge_tick.binds (ps := ["self"]) fun _ _ _ _ _ _ us hl => match us, hl with | [_], _ => rfl
  obtain ⟨fd_Bridge_will_leave, F_Bridge_will_leave⟩ := d_Bridge_will_leave
  have bi_Bridge_will_leave := F_Bridge_will_leave.binds (ps := ["self", "vehicle"]) fun _ _ _ _ _ _ us hl => match us, hl with | [_, _], _ => rfl
  obtain ⟨fd_Bridge_ticks_until_left, F_Bridge_ticks_until_left⟩ := d_Bridge_ticks_until_left
  have bi_Bridge_ticks_until_left := F_Bridge_ticks_until_left.binds (ps := ["self", "number"]) fun _ _ _ _ _ _ us hl => match us, hl with | [_, _], _ => rfl
  obtain ⟨fd_is_within, F_is_within⟩ := d_is_within
  have bi_is_within := F_is_within.binds (ps := ["number", "highest"]) fun _ _ _ _ _ _ us hl => match us, hl with | [_, _], _ => rfl
  obtain ⟨fd_with_row, F_with_row⟩ := d_with_row
  have bi_with_row := F_with_row.binds (ps := ["first", "row"]) fun _ _ _ _ _ _ us hl => match us, hl with | [_, _], _ => rfl
  obtain ⟨fd_by_twos, F_by_twos⟩ := d_by_twos
  have bi_by_twos := F_by_twos.binds (ps := ["firsts", "seconds"]) fun _ _ _ _ _ _ us hl => match us, hl with | [_, _], _ => rfl
  obtain ⟨fd_numbers_of, F_numbers_of⟩ := d_numbers_of
  have bi_numbers_of := F_numbers_of.binds (ps := ["vehicles"]) fun _ _ _ _ _ _ us hl => match us, hl with | [_], _ => rfl
  obtain ⟨fd_are_spans, F_are_spans⟩ := d_are_spans
  have bi_are_spans := F_are_spans.binds (ps := ["spans"]) fun _ _ _ _ _ _ us hl => match us, hl with | [_], _ => rfl
  obtain ⟨fd_begins, F_begins⟩ := d_begins
  have bi_begins := F_begins.binds (ps := ["bridge", "numbers"]) fun _ _ _ _ _ _ us hl => match us, hl with | [_, _], _ => rfl
  obtain ⟨fd_comes, F_comes⟩ := d_comes
  have bi_comes := F_comes.binds (ps := ["bridge", "numbers"]) fun _ _ _ _ _ _ us hl => match us, hl with | [_, _], _ => rfl
  obtain ⟨fd_gives, F_gives⟩ := d_gives
  have bi_gives := F_gives.binds (ps := ["bridge", "numbers"]) fun _ _ _ _ _ _ us hl => match us, hl with | [_, _], _ => rfl
  obtain ⟨fd_ticks, F_ticks⟩ := d_ticks
  have bi_ticks := F_ticks.binds (ps := ["bridge", "numbers"]) fun _ _ _ _ _ _ us hl => match us, hl with | [_, _], _ => rfl
  obtain ⟨fd_limit, F_limit⟩ := d_limit
  have bi_limit := F_limit.binds (ps := ["bridge", "numbers"]) fun _ _ _ _ _ _ us hl => match us, hl with | [_, _], _ => rfl
  obtain ⟨fd_shut, F_shut⟩ := d_shut
  have bi_shut := F_shut.binds (ps := ["bridge", "numbers"]) fun _ _ _ _ _ _ us hl => match us, hl with | [_, _], _ => rfl
  obtain ⟨fd_where, F_where⟩ := d_where
  have bi_where := F_where.binds (ps := ["bridge", "numbers"]) fun _ _ _ _ _ _ us hl => match us, hl with | [_, _], _ => rfl
  obtain ⟨fd_when, F_when⟩ := d_when
  have bi_when := F_when.binds (ps := ["bridge", "numbers"]) fun _ _ _ _ _ _ us hl => match us, hl with | [_, _], _ => rfl
  obtain ⟨fd_loads, F_loads⟩ := d_loads
  have bi_loads := F_loads.binds (ps := ["bridge", "numbers"]) fun _ _ _ _ _ _ us hl => match us, hl with | [_, _], _ => rfl
  obtain ⟨fd_queue, F_queue⟩ := d_queue
  have bi_queue := F_queue.binds (ps := ["bridge", "numbers"]) fun _ _ _ _ _ _ us hl => match us, hl with | [_, _], _ => rfl
  obtain ⟨fd_most, F_most⟩ := d_most
  have bi_most := F_most.binds (ps := ["bridge", "numbers"]) fun _ _ _ _ _ _ us hl => match us, hl with | [_, _], _ => rfl
  obtain ⟨fd_state, F_state⟩ := d_state
  have bi_state := F_state.binds (ps := ["bridge", "numbers"]) fun _ _ _ _ _ _ us hl => match us, hl with | [_, _], _ => rfl
  obtain ⟨fd_end_of_call, F_end_of_call⟩ := d_end_of_call
  have bi_end_of_call := F_end_of_call.binds (ps := ["calls", "start"]) fun _ _ _ _ _ _ us hl => match us, hl with | [_, _], _ => rfl
  obtain ⟨fd_answers, F_answers⟩ := d_answers
  have bi_answers := F_answers.binds (ps := ["calls"]) fun _ _ _ _ _ _ us hl => match us, hl with | [_], _ => rfl
  refine ⟨fd_answers, bt_answers F_answers, fun base _ _ => ?_⟩
  have c_Vehicle : Mak P w K mg base 1 "Vehicle" CV (sp_Vehicle K CV CB) := ⟨_, _, _, ⟨mkV, e_Vehicle_init, i_Vehicle_init, kcV⟩, ok_Vehicle_init F_Vehicle_init T , PySem.W.mg_of X G aV, bi_Vehicle_init⟩
  have c_twin : Met P w K mg base 3 CV "twin" (sp_twin K CV CB) := ⟨_, _, _, T.clV, ⟨e_Vehicle_twin, i_Vehicle_twin, F_Vehicle_twin.kp⟩, ok_Vehicle_twin F_Vehicle_twin T c_Vehicle, bi_Vehicle_twin⟩
  have c_renew : Met P w K mg base 1 CB "renew" (sp_renew K CV CB) := ⟨_, _, _, T.clB, ⟨e_Bridge_renew, i_Bridge_renew, F_Bridge_renew.kp⟩, ok_Bridge_renew F_Bridge_renew T , bi_Bridge_renew⟩
  have c_Bridge : Mak P w K mg base 2 "Bridge" CB (sp_Bridge K CV CB) := ⟨_, _, _, ⟨mkB, e_Bridge_init, i_Bridge_init, kcB⟩, ok_Bridge_init F_Bridge_init T c_renew, PySem.W.mg_of X G aB, bi_Bridge_init⟩
  have c_copied : Met P w K mg base 4 CB "copied" (sp_copied K CV CB) := ⟨_, _, _, T.clB, ⟨e_Bridge_copied, i_Bridge_copied, F_Bridge_copied.kp⟩, ok_Bridge_copied F_Bridge_copied T c_Bridge c_renew c_twin, bi_Bridge_copied⟩
  have c_least_limit : Met P w K mg base 1 CB "least_limit" (sp_least_limit K CV CB) := ⟨_, _, _, T.clB, ⟨e_Bridge_least_limit, i_Bridge_least_limit, F_Bridge_least_limit.kp⟩, ok_Bridge_least_limit F_Bridge_least_limit T , bi_Bridge_least_limit⟩
  have c_how_many_wait : Met P w K mg base 1 CB "how_many_wait" (sp_how_many_wait K CV CB) := ⟨_, _, _, T.clB, ⟨e_Bridge_how_many_wait, i_Bridge_how_many_wait, F_Bridge_how_many_wait.kp⟩, ok_Bridge_how_many_wait F_Bridge_how_many_wait T , bi_Bridge_how_many_wait⟩
  have c_add_vehicle : Met P w K mg base 3 CB "add_vehicle" (sp_add_vehicle K CV CB) := ⟨_, _, _, T.clB, ⟨e_Bridge_add_vehicle, i_Bridge_add_vehicle, F_Bridge_add_vehicle.kp⟩, ok_Bridge_add_vehicle F_Bridge_add_vehicle T c_Vehicle, bi_Bridge_add_vehicle⟩
  have c_put : Met P w K mg base 1 CB "put" (sp_put K CV CB) := ⟨_, _, _, T.clB, ⟨e_Bridge_put, i_Bridge_put, F_Bridge_put.kp⟩, ok_Bridge_put F_Bridge_put T , bi_Bridge_put⟩
  have c_take_from_waiting : Met P w K mg base 2 CB "take_from_waiting" (sp_take_from_waiting K CV CB) := ⟨_, _, _, T.clB, ⟨e_Bridge_take_from_waiting, i_Bridge_take_from_waiting, F_Bridge_take_from_waiting.kp⟩, ok_Bridge_take_from_waiting F_Bridge_take_from_waiting T c_put, bi_Bridge_take_from_waiting⟩
  have c_send_heavy_away : Met P w K mg base 3 CB "send_heavy_away" (sp_send_heavy_away K CV CB) := ⟨_, _, _, T.clB, ⟨e_Bridge_send_heavy_away, i_Bridge_send_heavy_away, F_Bridge_send_heavy_away.kp⟩, ok_Bridge_send_heavy_away F_Bridge_send_heavy_away T c_take_from_waiting c_least_limit, bi_Bridge_send_heavy_away⟩
  have c_first_cell : Met P w K mg base 1 CB "first_cell" (sp_first_cell K CV CB) := ⟨_, _, _, T.clB, ⟨e_Bridge_first_cell, i_Bridge_first_cell, F_Bridge_first_cell.kp⟩, ok_Bridge_first_cell F_Bridge_first_cell T , bi_Bridge_first_cell⟩
  have c_last_cell : Met P w K mg base 2 CB "last_cell" (sp_last_cell K CV CB) := ⟨_, _, _, T.clB, ⟨e_Bridge_last_cell, i_Bridge_last_cell, F_Bridge_last_cell.kp⟩, ok_Bridge_last_cell F_Bridge_last_cell T c_first_cell, bi_Bridge_last_cell⟩
  have c_next_cell : Met P w K mg base 1 CB "next_cell" (sp_next_cell K CV CB) := ⟨_, _, _, T.clB, ⟨e_Bridge_next_cell, i_Bridge_next_cell, F_Bridge_next_cell.kp⟩, ok_Bridge_next_cell F_Bridge_next_cell T , bi_Bridge_next_cell⟩
  have c_is_free : Met P w K mg base 1 CB "is_free" (sp_is_free K CV CB) := ⟨_, _, _, T.clB, ⟨e_Bridge_is_free, i_Bridge_is_free, F_Bridge_is_free.kp⟩, ok_Bridge_is_free F_Bridge_is_free T , bi_Bridge_is_free⟩
  have c_can_bear : Met P w K mg base 1 CB "can_bear" (sp_can_bear K CV CB) := ⟨_, _, _, T.clB, ⟨e_Bridge_can_bear, i_Bridge_can_bear, F_Bridge_can_bear.kp⟩, ok_Bridge_can_bear F_Bridge_can_bear T , bi_Bridge_can_bear⟩
  have c_can_move : Met P w K mg base 2 CB "can_move" (sp_can_move K CV CB) := ⟨_, _, _, T.clB, ⟨e_Bridge_can_move, i_Bridge_can_move, F_Bridge_can_move.kp⟩, ok_Bridge_can_move F_Bridge_can_move T c_can_bear c_is_free, bi_Bridge_can_move⟩
  have c_move_all : Met P w K mg base 3 CB "move_all" (sp_move_all K CV CB) := ⟨_, _, _, T.clB, ⟨e_Bridge_move_all, i_Bridge_move_all, F_Bridge_move_all.kp⟩, ok_Bridge_move_all F_Bridge_move_all T c_can_move c_last_cell c_next_cell c_put, bi_Bridge_move_all⟩
  have c_turn_is_over : Met P w K mg base 1 CB "turn_is_over" (sp_turn_is_over K CV CB) := ⟨_, _, _, T.clB, ⟨e_Bridge_turn_is_over, i_Bridge_turn_is_over, F_Bridge_turn_is_over.kp⟩, ok_Bridge_turn_is_over F_Bridge_turn_is_over T , bi_Bridge_turn_is_over⟩
  have c_change_sides : Met P w K mg base 1 CB "change_sides" (sp_change_sides K CV CB) := ⟨_, _, _, T.clB, ⟨e_Bridge_change_sides, i_Bridge_change_sides, F_Bridge_change_sides.kp⟩, ok_Bridge_change_sides F_Bridge_change_sides T , bi_Bridge_change_sides⟩
  have c_let_enter : Met P w K mg base 3 CB "let_enter" (sp_let_enter K CV CB) := ⟨_, _, _, T.clB, ⟨e_Bridge_let_enter, i_Bridge_let_enter, F_Bridge_let_enter.kp⟩, ok_Bridge_let_enter F_Bridge_let_enter T c_can_bear c_first_cell c_is_free c_take_from_waiting, bi_Bridge_let_enter⟩
  have c_borne : Met P w K mg base 1 CB "borne" (sp_borne K CV CB) := ⟨_, _, _, T.clB, ⟨e_Bridge_borne, i_Bridge_borne, F_Bridge_borne.kp⟩, ok_Bridge_borne F_Bridge_borne T , bi_Bridge_borne⟩
  have c_keep_most : Met P w K mg base 2 CB "keep_most" (sp_keep_most K CV CB) := ⟨_, _, _, T.clB, ⟨e_Bridge_keep_most, i_Bridge_keep_most, F_Bridge_keep_most.kp⟩, ok_Bridge_keep_most F_Bridge_keep_most T c_borne, bi_Bridge_keep_most⟩
  have c_tick : Met P w K mg base 4 CB "tick" (sp_tick K CV CB) := ⟨_, _, _, T.clB, ⟨e_Bridge_tick, i_Bridge_tick, F_Bridge_tick.kp⟩, ok_Bridge_tick F_Bridge_tick T c_change_sides c_keep_most c_let_enter c_move_all c_turn_is_over, bi_Bridge_tick⟩
  have c_will_leave : Met P w K mg base 1 CB "will_leave" (sp_will_leave K CV CB) := ⟨_, _, _, T.clB, ⟨e_Bridge_will_leave, i_Bridge_will_leave, F_Bridge_will_leave.kp⟩, ok_Bridge_will_leave F_Bridge_will_leave T , bi_Bridge_will_leave⟩
  have c_ticks_until_left : Met P w K mg base 5 CB "ticks_until_left" (sp_ticks_until_left K CV CB) := ⟨_, _, _, T.clB, ⟨e_Bridge_ticks_until_left, i_Bridge_ticks_until_left, F_Bridge_ticks_until_left.kp⟩, ok_Bridge_ticks_until_left F_Bridge_ticks_until_left T c_copied c_tick, bi_Bridge_ticks_until_left⟩
  have c_is_within : Cal P w K mg base 1 "is_within" (sp_is_within K CV CB) := ⟨_, _, _, ok_is_within F_is_within T , PySem.W.mg_of X G e_is_within, F_is_within.kp, bi_is_within⟩
  have c_with_row : Cal P w K mg base 1 "with_row" (sp_with_row K CV CB) := ⟨_, _, _, ok_with_row F_with_row T , PySem.W.mg_of X G e_with_row, F_with_row.kp, bi_with_row⟩
  have c_by_twos : Cal P w K mg base 1 "by_twos" (sp_by_twos K CV CB) := ⟨_, _, _, ok_by_twos F_by_twos T , PySem.W.mg_of X G e_by_twos, F_by_twos.kp, bi_by_twos⟩
  have c_numbers_of : Cal P w K mg base 1 "numbers_of" (sp_numbers_of K CV CB) := ⟨_, _, _, ok_numbers_of F_numbers_of T , PySem.W.mg_of X G e_numbers_of, F_numbers_of.kp, bi_numbers_of⟩
  have c_are_spans : Cal P w K mg base 2 "are_spans" (sp_are_spans K CV CB) := ⟨_, _, _, ok_are_spans F_are_spans T c_is_within, PySem.W.mg_of X G e_are_spans, F_are_spans.kp, bi_are_spans⟩
  have h_begins : Held P w K mg base 6 f_begins (sp_begins K CV CB) := ⟨_, _, (ok_begins F_begins T c_are_spans c_is_within c_renew).mono (by decide), F_begins.kp, bi_begins⟩
  have h_comes : Held P w K mg base 6 f_comes (sp_comes K CV CB) := ⟨_, _, (ok_comes F_comes T c_is_within c_add_vehicle c_least_limit).mono (by decide), F_comes.kp, bi_comes⟩
  have h_gives : Held P w K mg base 6 f_gives (sp_gives K CV CB) := ⟨_, _, (ok_gives F_gives T c_take_from_waiting c_how_many_wait).mono (by decide), F_gives.kp, bi_gives⟩
  have h_ticks : Held P w K mg base 6 f_ticks (sp_ticks K CV CB) := ⟨_, _, (ok_ticks F_ticks T c_is_within c_with_row c_tick).mono (by decide), F_ticks.kp, bi_ticks⟩
  have h_limit : Held P w K mg base 6 f_limit (sp_limit K CV CB) := ⟨_, _, (ok_limit F_limit T c_is_within c_numbers_of c_with_row c_send_heavy_away).mono (by decide), F_limit.kp, bi_limit⟩
  have h_shut : Held P w K mg base 6 f_shut (sp_shut K CV CB) := ⟨_, _, (ok_shut F_shut T ).mono (by decide), F_shut.kp, bi_shut⟩
  have h_where : Held P w K mg base 6 f_where (sp_where K CV CB) := ⟨_, _, (ok_where F_where T c_with_row).mono (by decide), F_where.kp, bi_where⟩
  have h_when : Held P w K mg base 6 f_when (sp_when K CV CB) := ⟨_, _, (ok_when F_when T c_ticks_until_left c_will_leave).mono (by decide), F_when.kp, bi_when⟩
  have h_loads : Held P w K mg base 6 f_loads (sp_loads K CV CB) := ⟨_, _, (ok_loads F_loads T c_with_row c_borne).mono (by decide), F_loads.kp, bi_loads⟩
  have h_queue : Held P w K mg base 6 f_queue (sp_queue K CV CB) := ⟨_, _, (ok_queue F_queue T c_numbers_of c_with_row).mono (by decide), F_queue.kp, bi_queue⟩
  have h_most : Held P w K mg base 6 f_most (sp_most K CV CB) := ⟨_, _, (ok_most F_most T c_by_twos c_with_row).mono (by decide), F_most.kp, bi_most⟩
  have h_state : Held P w K mg base 6 f_state (sp_state K CV CB) := ⟨_, _, (ok_state F_state T c_by_twos c_numbers_of).mono (by decide), F_state.kp, bi_state⟩
  have c_end_of_call : Cal P w K mg base 1 "end_of_call" (sp_end_of_call K CV CB) := ⟨_, _, _, ok_end_of_call F_end_of_call T , PySem.W.mg_of X G e_end_of_call, F_end_of_call.kp, bi_end_of_call⟩
  have c_held : ∀ f sp, HS CV CB [f_begins, f_comes, f_gives, f_ticks, f_limit, f_shut, f_where, f_when, f_loads, f_queue, f_most, f_state] f sp → Held P w K mg base 6 f sp := by
    rintro f sp ⟨c, hc, hf, rfl⟩
    rcases c with _ | _ | _ | _ | _ | _ | _ | _ | _ | _ | _ | _ | c
    · cases hf; exact h_begins
    · cases hf; exact h_comes
    · cases hf; exact h_gives
    · cases hf; exact h_ticks
    · cases hf; exact h_limit
    · cases hf; exact h_shut
    · cases hf; exact h_where
    · cases hf; exact h_when
    · cases hf; exact h_loads
    · cases hf; exact h_queue
    · cases hf; exact h_most
    · cases hf; exact h_state
    · omega
  have r := ok_answers F_answers T tC rfl c_end_of_call c_Bridge c_held
  exact r
theorem nums_back : ∀ l : List Int, (∀ x ∈ l, 0 ≤ x) → nums (l.map Int.toNat) = l.map V.int
  | [], _ => rfl
  | x :: r, h => by
    show V.int ((x.toNat : Nat) : Int) :: nums (r.map Int.toNat) = V.int x :: r.map V.int
    rw [nums_back r fun y hy => h y (List.mem_cons_of_mem _ hy), Int.toNat_of_nonneg (h x (List.mem_cons_self ..))]
theorem asked_due {K : PySem.W.Frag} {H : Hp} {p : Addr} {Q : VK} {E : XK} (l : List Int) (q : ((PySem.W.Codec.inLen 0 5040 l && l.all (PySem.W.Codec.inInt 0 4294967295)) && true) = true) (k : PySy49.answers_asked l = true) (hs : SqL K H p (l.map V.int))
    (hQ : ∀ (H' : Hp) (o : Addr), H' o = some (.lst ((PySy49.answers l).map V.int)) → Q (.ref o) H') : sp_answers K 0 0 [.ref p] H Q E := by
  rw [Bool.and_eq_true, Bool.and_eq_true] at q
  obtain ⟨⟨q1, q2⟩, _⟩ := q
  have hl : ∀ x ∈ l, 0 ≤ x ∧ x ≤ 4294967295 := fun x hx => by
    have := List.all_eq_true.mp q2 x hx
    exact PySem.W.Codec.inInt_iff.mp this
  obtain ⟨g1, g2, g3⟩ := all_due l hl k
  have lm := (PySem.W.Codec.inNat_iff.mp q1).2
  refine ⟨p, l.map Int.toNat, rfl, ?_, ?_, g1, g3, fun H' o ho => hQ H' o ?_⟩
  · rw [nums_back l fun x hx => (hl x hx).1]
    exact hs
  · rw [List.length_map]
    exact lm
  · rw [g2] at ho
    exact ho
end OL

open PySem PySem.W PyProof.Rows
set_option maxRecDepth 100000 in
set_option maxHeartbeats 0 in
theorem PySem.Challenge.cw_onelanedesk_s01_answers_holds : PySem.Challenge.rw_onelanedesk_s01_answers.Holds := by
  w_on; k_headS; (case hw => exact ⟨[.list [.int 8]], by decide +kernel, by decide +kernel⟩)
  k_fillS
  refine L2.walk_specK (r := PySem.Challenge.rw_onelanedesk_s01_answers) (k := 7) (CX := L2.CX0) (ps := ["calls"]) (sp := fun K => OL.sp_answers K 0 0) (by decide +kernel) rfl rfl ⟨rfl, by decide, by decide⟩ (fun w h Y => PySem.W.kIn_of Y) ?F ?S (fun _ _ _ _ z => z)
  case F =>
    intro w mg fa h Y KX G hmg
    refine' OL.all_mk KX G hmg ?aV ?aB ?pgV ?hdV ?poV ?saV ?mkV ?kcV ?pgB ?hdB ?poB ?saB ?mkB ?kcB ?eqm ?eqe ?v_number ?v_side ?v_weight ?v_place ?v_cell ?v_went_at ?a_turn ?a_cells ?a_limits ?a_span_of ?a_came ?a_waiting ?a_crossing ?a_open_side ?a_entered ?a_is_shut ?a_time ?a_most_borne ?a_most_borne_at ?n_LEFT ?n_RIGHT ?n_MOST_TURN ?n_MOST_SPANS ?n_MOST_CELLS ?n_MOST_LIMIT ?n_MOST_WEIGHT ?n_MOST_TICKS ?n_MOST_VEHICLES ?n_WAITS ?n_CROSSES ?n_HAS_LEFT ?n_GAVE_UP ?n_SENT_AWAY ?n_BEGINS ?b_len ?b_list ?b_min ?b_sum ?b_all ?b_range ?b_enumerate ?b_zip ?aC ?aP ?e_Vehicle_init ?i_Vehicle_init ?d_Vehicle_init ?e_Vehicle_twin ?i_Vehicle_twin ?d_Vehicle_twin ?e_Bridge_init ?i_Bridge_init ?d_Bridge_init ?e_Bridge_renew ?i_Bridge_renew ?d_Bridge_renew ?e_Bridge_copied ?i_Bridge_copied ?d_Bridge_copied ?e_Bridge_least_limit ?i_Bridge_least_limit ?d_Bridge_least_limit ?e_Bridge_how_many_wait ?i_Bridge_how_many_wait ?d_Bridge_how_many_wait ?e_Bridge_add_vehicle ?i_Bridge_add_vehicle ?d_Bridge_add_vehicle ?e_Bridge_put ?i_Bridge_put ?d_Bridge_put ?e_Bridge_take_from_waiting ?i_Bridge_take_from_waiting ?d_Bridge_take_from_waiting ?e_Bridge_send_heavy_away ?i_Bridge_send_heavy_away ?d_Bridge_send_heavy_away ?e_Bridge_first_cell ?i_Bridge_first_cell ?d_Bridge_first_cell ?e_Bridge_last_cell ?i_Bridge_last_cell ?d_Bridge_last_cell ?e_Bridge_next_cell ?i_Bridge_next_cell ?d_Bridge_next_cell ?e_Bridge_is_free ?i_Bridge_is_free ?d_Bridge_is_free ?e_Bridge_can_bear ?i_Bridge_can_bear ?d_Bridge_can_bear ?e_Bridge_can_move ?i_Bridge_can_move ?d_Bridge_can_move ?e_Bridge_move_all ?i_Bridge_move_all ?d_Bridge_move_all ?e_Bridge_turn_is_over ?i_Bridge_turn_is_over ?d_Bridge_turn_is_over ?e_Bridge_change_sides ?i_Bridge_change_sides ?d_Bridge_change_sides ?e_Bridge_let_enter ?i_Bridge_let_enter ?d_Bridge_let_enter ?e_Bridge_borne ?i_Bridge_borne ?d_Bridge_borne ?e_Bridge_keep_most ?i_Bridge_keep_most ?d_Bridge_keep_most ?e_Bridge_tick ?i_Bridge_tick ?d_Bridge_tick ?e_Bridge_will_leave ?i_Bridge_will_leave ?d_Bridge_will_leave ?e_Bridge_ticks_until_left ?i_Bridge_ticks_until_left ?d_Bridge_ticks_until_left ?e_is_within ?d_is_within ?e_with_row ?d_with_row ?e_by_twos ?d_by_twos ?e_numbers_of ?d_numbers_of ?e_are_spans ?d_are_spans ?e_begins ?d_begins ?e_comes ?d_comes ?e_gives ?d_gives ?e_ticks ?d_ticks ?e_limit ?d_limit ?e_shut ?d_shut ?e_where ?d_where ?e_when ?d_when ?e_loads ?d_loads ?e_queue ?d_queue ?e_most ?d_most ?e_state ?d_state ?e_end_of_call ?d_end_of_call ?e_answers ?d_answers ?tC ?tP
    (case aV => k_is)
    (case aB => k_is)
    (case pgV => k_is)
    (case hdV => k_is)
    (case poV => k_is)
    (case saV => k_is)
    (case mkV => k_is)
    (case kcV => k_is)
    (case pgB => k_is)
    (case hdB => k_is)
    (case poB => k_is)
    (case saB => k_is)
    (case mkB => k_is)
    (case kcB => k_is)
    (case eqm => k_is)
    (case eqe => k_is)
    (case v_number => k_is)
    (case v_side => k_is)
    (case v_weight => k_is)
    (case v_place => k_is)
    (case v_cell => k_is)
    (case v_went_at => k_is)
    (case a_turn => k_is)
    (case a_cells => k_is)
    (case a_limits => k_is)
    (case a_span_of => k_is)
    (case a_came => k_is)
    (case a_waiting => k_is)
    (case a_crossing => k_is)
    (case a_open_side => k_is)
    (case a_entered => k_is)
    (case a_is_shut => k_is)
    (case a_time => k_is)
    (case a_most_borne => k_is)
    (case a_most_borne_at => k_is)
    (case n_LEFT => k_is)
    (case n_RIGHT => k_is)
    (case n_MOST_TURN => k_is)
    (case n_MOST_SPANS => k_is)
    (case n_MOST_CELLS => k_is)
    (case n_MOST_LIMIT => k_is)
    (case n_MOST_WEIGHT => k_is)
    (case n_MOST_TICKS => k_is)
    (case n_MOST_VEHICLES => k_is)
    (case n_WAITS => k_is)
    (case n_CROSSES => k_is)
    (case n_HAS_LEFT => k_is)
    (case n_GAVE_UP => k_is)
    (case n_SENT_AWAY => k_is)
    (case n_BEGINS => k_is)
    (case b_len => k_is)
    (case b_list => k_is)
    (case b_min => k_is)
    (case b_sum => k_is)
    (case b_all => k_is)
    (case b_range => k_is)
    (case b_enumerate => k_is)
    (case b_zip => k_is)
    (case aC => k_is)
    (case aP => k_is)
    (case e_Vehicle_init => k_is)
    (case i_Vehicle_init => k_is)
    (case d_Vehicle_init => (refine' OL.fd_mk ?l ?c ?k); (case l => k_is); (case c => k_is); (case k => k_is))
    (case e_Vehicle_twin => k_is)
    (case i_Vehicle_twin => k_is)
    (case d_Vehicle_twin => (refine' OL.fd_mk ?l ?c ?k); (case l => k_is); (case c => k_is); (case k => k_is))
    (case e_Bridge_init => k_is)
    (case i_Bridge_init => k_is)
    (case d_Bridge_init => (refine' OL.fd_mk ?l ?c ?k); (case l => k_is); (case c => k_is); (case k => k_is))
    (case e_Bridge_renew => k_is)
    (case i_Bridge_renew => k_is)
    (case d_Bridge_renew => (refine' OL.fd_mk ?l ?c ?k); (case l => k_is); (case c => k_is); (case k => k_is))
    (case e_Bridge_copied => k_is)
    (case i_Bridge_copied => k_is)
    (case d_Bridge_copied => (refine' OL.fd_mk ?l ?c ?k); (case l => k_is); (case c => k_is); (case k => k_is))
    (case e_Bridge_least_limit => k_is)
    (case i_Bridge_least_limit => k_is)
    (case d_Bridge_least_limit => (refine' OL.fd_mk ?l ?c ?k); (case l => k_is); (case c => k_is); (case k => k_is))
    (case e_Bridge_how_many_wait => k_is)
    (case i_Bridge_how_many_wait => k_is)
    (case d_Bridge_how_many_wait => (refine' OL.fd_mk ?l ?c ?k); (case l => k_is); (case c => k_is); (case k => k_is))
    (case e_Bridge_add_vehicle => k_is)
    (case i_Bridge_add_vehicle => k_is)
    (case d_Bridge_add_vehicle => (refine' OL.fd_mk ?l ?c ?k); (case l => k_is); (case c => k_is); (case k => k_is))
    (case e_Bridge_put => k_is)
    (case i_Bridge_put => k_is)
    (case d_Bridge_put => (refine' OL.fd_mk ?l ?c ?k); (case l => k_is); (case c => k_is); (case k => k_is))
    (case e_Bridge_take_from_waiting => k_is)
    (case i_Bridge_take_from_waiting => k_is)
    (case d_Bridge_take_from_waiting => (refine' OL.fd_mk ?l ?c ?k); (case l => k_is); (case c => k_is); (case k => k_is))
    (case e_Bridge_send_heavy_away => k_is)
    (case i_Bridge_send_heavy_away => k_is)
    (case d_Bridge_send_heavy_away => (refine' OL.fd_mk ?l ?c ?k); (case l => k_is); (case c => k_is); (case k => k_is))
    (case e_Bridge_first_cell => k_is)
    (case i_Bridge_first_cell => k_is)
    (case d_Bridge_first_cell => (refine' OL.fd_mk ?l ?c ?k); (case l => k_is); (case c => k_is); (case k => k_is))
    (case e_Bridge_last_cell => k_is)
    (case i_Bridge_last_cell => k_is)
    (case d_Bridge_last_cell => (refine' OL.fd_mk ?l ?c ?k); (case l => k_is); (case c => k_is); (case k => k_is))
    (case e_Bridge_next_cell => k_is)
    (case i_Bridge_next_cell => k_is)
    (case d_Bridge_next_cell => (refine' OL.fd_mk ?l ?c ?k); (case l => k_is); (case c => k_is); (case k => k_is))
    (case e_Bridge_is_free => k_is)
    (case i_Bridge_is_free => k_is)
    (case d_Bridge_is_free => (refine' OL.fd_mk ?l ?c ?k); (case l => k_is); (case c => k_is); (case k => k_is))
    (case e_Bridge_can_bear => k_is)
    (case i_Bridge_can_bear => k_is)
    (case d_Bridge_can_bear => (refine' OL.fd_mk ?l ?c ?k); (case l => k_is); (case c => k_is); (case k => k_is))
    (case e_Bridge_can_move => k_is)
    (case i_Bridge_can_move => k_is)
    (case d_Bridge_can_move => (refine' OL.fd_mk ?l ?c ?k); (case l => k_is); (case c => k_is); (case k => k_is))
    (case e_Bridge_move_all => k_is)
    (case i_Bridge_move_all => k_is)
    (case d_Bridge_move_all => (refine' OL.fd_mk ?l ?c ?k); (case l => k_is); (case c => k_is); (case k => k_is))
    (case e_Bridge_turn_is_over => k_is)
    (case i_Bridge_turn_is_over => k_is)
    (case d_Bridge_turn_is_over => (refine' OL.fd_mk ?l ?c ?k); (case l => k_is); (case c => k_is); (case k => k_is))
    (case e_Bridge_change_sides => k_is)
    (case i_Bridge_change_sides => k_is)
    (case d_Bridge_change_sides => (refine' OL.fd_mk ?l ?c ?k); (case l => k_is); (case c => k_is); (case k => k_is))
    (case e_Bridge_let_enter => k_is)
    (case i_Bridge_let_enter => k_is)
    (case d_Bridge_let_enter => (refine' OL.fd_mk ?l ?c ?k); (case l => k_is); (case c => k_is); (case k => k_is))
    (case e_Bridge_borne => k_is)
    (case i_Bridge_borne => k_is)
    (case d_Bridge_borne => (refine' OL.fd_mk ?l ?c ?k); (case l => k_is); (case c => k_is); (case k => k_is))
    (case e_Bridge_keep_most => k_is)
    (case i_Bridge_keep_most => k_is)
    (case d_Bridge_keep_most => (refine' OL.fd_mk ?l ?c ?k); (case l => k_is); (case c => k_is); (case k => k_is))
    (case e_Bridge_tick => k_is)
    (case i_Bridge_tick => k_is)
    (case d_Bridge_tick => (refine' OL.fd_mk ?l ?c ?k); (case l => k_is); (case c => k_is); (case k => k_is))
    (case e_Bridge_will_leave => k_is)
    (case i_Bridge_will_leave => k_is)
    (case d_Bridge_will_leave => (refine' OL.fd_mk ?l ?c ?k); (case l => k_is); (case c => k_is); (case k => k_is))
    (case e_Bridge_ticks_until_left => k_is)
    (case i_Bridge_ticks_until_left => k_is)
    (case d_Bridge_ticks_until_left => (refine' OL.fd_mk ?l ?c ?k); (case l => k_is); (case c => k_is); (case k => k_is))
    (case e_is_within => k_is)
    (case d_is_within => (refine' OL.fd_mk ?l ?c ?k); (case l => k_is); (case c => k_is); (case k => k_is))
    (case e_with_row => k_is)
    (case d_with_row => (refine' OL.fd_mk ?l ?c ?k); (case l => k_is); (case c => k_is); (case k => k_is))
    (case e_by_twos => k_is)
    (case d_by_twos => (refine' OL.fd_mk ?l ?c ?k); (case l => k_is); (case c => k_is); (case k => k_is))
    (case e_numbers_of => k_is)
    (case d_numbers_of => (refine' OL.fd_mk ?l ?c ?k); (case l => k_is); (case c => k_is); (case k => k_is))
    (case e_are_spans => k_is)
    (case d_are_spans => (refine' OL.fd_mk ?l ?c ?k); (case l => k_is); (case c => k_is); (case k => k_is))
    (case e_begins => k_is)
    (case d_begins => (refine' OL.fd_mk ?l ?c ?k); (case l => k_is); (case c => k_is); (case k => k_is))
    (case e_comes => k_is)
    (case d_comes => (refine' OL.fd_mk ?l ?c ?k); (case l => k_is); (case c => k_is); (case k => k_is))
    (case e_gives => k_is)
    (case d_gives => (refine' OL.fd_mk ?l ?c ?k); (case l => k_is); (case c => k_is); (case k => k_is))
    (case e_ticks => k_is)
    (case d_ticks => (refine' OL.fd_mk ?l ?c ?k); (case l => k_is); (case c => k_is); (case k => k_is))
    (case e_limit => k_is)
    (case d_limit => (refine' OL.fd_mk ?l ?c ?k); (case l => k_is); (case c => k_is); (case k => k_is))
    (case e_shut => k_is)
    (case d_shut => (refine' OL.fd_mk ?l ?c ?k); (case l => k_is); (case c => k_is); (case k => k_is))
    (case e_where => k_is)
    (case d_where => (refine' OL.fd_mk ?l ?c ?k); (case l => k_is); (case c => k_is); (case k => k_is))
    (case e_when => k_is)
    (case d_when => (refine' OL.fd_mk ?l ?c ?k); (case l => k_is); (case c => k_is); (case k => k_is))
    (case e_loads => k_is)
    (case d_loads => (refine' OL.fd_mk ?l ?c ?k); (case l => k_is); (case c => k_is); (case k => k_is))
    (case e_queue => k_is)
    (case d_queue => (refine' OL.fd_mk ?l ?c ?k); (case l => k_is); (case c => k_is); (case k => k_is))
    (case e_most => k_is)
    (case d_most => (refine' OL.fd_mk ?l ?c ?k); (case l => k_is); (case c => k_is); (case k => k_is))
    (case e_state => k_is)
    (case d_state => (refine' OL.fd_mk ?l ?c ?k); (case l => k_is); (case c => k_is); (case k => k_is))
    (case e_end_of_call => k_is)
    (case d_end_of_call => (refine' OL.fd_mk ?l ?c ?k); (case l => k_is); (case c => k_is); (case k => k_is))
    (case e_answers => k_is)
    (case d_answers => (refine' OL.fd_mk ?l ?c ?k); (case l => k_is); (case c => k_is); (case k => k_is))
    (case tC => (refine' OL.tup_mk ?l ?z ?v); (case l => k_is); (case z => decide); (case v => exact .cons rfl (.cons rfl (.cons rfl (.cons rfl (.cons rfl (.cons rfl (.cons rfl (.cons rfl (.cons rfl (.cons rfl (.cons rfl (.cons rfl (.nil))))))))))))))
    (case tP => (refine' OL.tup_mk ?l ?z ?v); (case l => k_is); (case z => decide); (case v => exact .cons ⟨_, rfl⟩ (.cons ⟨_, rfl⟩ (.cons ⟨_, rfl⟩ (.cons ⟨_, rfl⟩ (.cons ⟨_, rfl⟩ (.cons ⟨_, rfl⟩ (.cons ⟨_, rfl⟩ (.cons ⟨_, rfl⟩ (.cons ⟨_, rfl⟩ (.cons ⟨_, rfl⟩ (.cons ⟨_, rfl⟩ (.cons ⟨_, rfl⟩ (.nil))))))))))))))
  case S =>
    intro K H xs a hO hwi hask hx
    cases hx with
    | cons h1 h2 =>
      cases h2
      cases h1 with
      | lst hs ha =>
        have e := L2.ints_dw a.1 _ ha
        subst e
        have q : ((PySem.W.Codec.inLen 0 5040 a.1 && a.1.all (PySem.W.Codec.inInt 0 4294967295)) && true) = true := hwi
        exact OL.asked_due a.1 q hask hs fun H' o ho => .lst (L2.SqL.of ho) (L2.dw_ints _)
#print axioms PySem.Challenge.cw_onelanedesk_s01_answers_holds
