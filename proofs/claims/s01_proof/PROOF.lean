import PyProof.Rows.All
import Wide.All
import OpenK.AllK
import Wide.FinOn
import Open.SpecLaws
import KE.OsHead
import KE.OsGo
import HandS.ForSpec
import HandS.Comp
import HandS.Codes
import HandS.Dict
import HandS.Iter
import HandS.Walk
import HandS.SetFor
import PyFlatLaws
import PySem.Challenge.RW_talkrooms_s01_answers
set_option Elab.async false
set_option maxRecDepth 100000
set_option maxHeartbeats 4000000
set_option linter.all false
namespace TR
open Kcs8 (Room Member Message Abs)

/-! ### the state as sixteen rows of rooms -/
abbrev M := List (List Room)
def rmAt (m : M) (f k : Nat) : Option Room := (m[f]?).bind fun row => row[k]?
structure WfM (m : M) : Prop where
  len : m.length = 16
  key : ∀ f k r, rmAt m f k = some r → r.founder = f ∧ r.number = k
structure Rel (s : Abs) (m : M) : Prop where
  rooms : s.rooms.Perm m.flatten
  founded : s.founded = m.map List.length
theorem mem_flat {m : M} {r : Room} : r ∈ m.flatten ↔ ∃ f k, rmAt m f k = some r := by
  rw [List.mem_flatten]
  constructor
  · rintro ⟨row, hrow, hr⟩
    obtain ⟨f, hf⟩ := List.mem_iff_getElem?.mp hrow
    obtain ⟨k, hk⟩ := List.mem_iff_getElem?.mp hr
    exact ⟨f, k, by unfold rmAt; rw [hf]; exact hk⟩
  · rintro ⟨f, k, h⟩
    unfold rmAt at h
    obtain ⟨row, h1, h2⟩ := Option.bind_eq_some_iff.mp h
    exact ⟨row, List.mem_of_getElem? h1, List.mem_of_getElem? h2⟩
theorem isRoom_iff {f k : Nat} {r : Room} : Kcs8.isRoom f k r = true ↔ r.founder = f ∧ r.number = k := by
  unfold Kcs8.isRoom
  rw [Bool.and_eq_true, beq_iff_eq, beq_iff_eq]
theorem roomOf_eq {s : Abs} {m : M} (R : Rel s m) (W : WfM m) (f k : Nat) : Kcs8.roomOf s f k = rmAt m f k := by
  unfold Kcs8.roomOf
  have hmem : ∀ r, r ∈ s.rooms ↔ ∃ f k, rmAt m f k = some r := fun r => (R.rooms.mem_iff).trans mem_flat
  cases h : s.rooms.find? (Kcs8.isRoom f k) with
  | none =>
    cases h2 : rmAt m f k with
    | none => rfl
    | some r =>
      have := List.find?_eq_none.mp h r ((hmem r).mpr ⟨f, k, h2⟩)
      exact absurd (isRoom_iff.mpr (W.key f k r h2)) this
  | some r =>
    have h1 := isRoom_iff.mp (List.find?_some h)
    obtain ⟨f', k', h2⟩ := (hmem r).mp (List.mem_of_find?_eq_some h)
    have h3 := W.key f' k' r h2
    rw [← h1.1, ← h1.2, h3.1, h3.2, h2]
def setRm (m : M) (f k : Nat) (r : Room) : M := m.modify f fun row => row.set k r
theorem rmAt_set {m : M} {f k : Nat} {r r0 : Room} (h : rmAt m f k = some r0) (f' k' : Nat) : rmAt (setRm m f k r) f' k' = if f' = f ∧ k' = k then some r else rmAt m f' k' := by
  unfold rmAt setRm at *
  obtain ⟨row, h1, h2⟩ := Option.bind_eq_some_iff.mp h
  rw [List.getElem?_modify]
  by_cases hf : f' = f
  · subst hf
    rw [h1]
    by_cases hk : k' = k
    · subst hk
      obtain ⟨hlt, _⟩ := List.getElem?_eq_some_iff.mp h2
      simp [hlt]
    · have : ¬ k = k' := fun e => hk e.symm
      simp [hk, List.getElem?_set_ne this]
  · have : ¬ f = f' := fun e => hf e.symm
    simp [hf, this]
theorem WfM.set {m : M} (W : WfM m) {f k : Nat} {r r0 : Room} (h : rmAt m f k = some r0) (hf : r.founder = f) (hk : r.number = k) : WfM (setRm m f k r) := by
  refine ⟨by unfold setRm; rw [List.length_modify]; exact W.len, fun f' k' r' h' => ?_⟩
  rw [rmAt_set h] at h'
  by_cases c : f' = f ∧ k' = k
  · rw [if_pos c] at h'
    cases h'
    exact ⟨hf.trans c.1.symm, hk.trans c.2.symm⟩
  · rw [if_neg c] at h'
    exact W.key f' k' r' h'
theorem ext2 {a b : M} (hl : a.length = b.length) (h : ∀ (f : Nat) (ra rb : List Room), a[f]? = some ra → b[f]? = some rb → ∀ k : Nat, ra[k]? = rb[k]?) : a = b := by
  apply List.ext_getElem?
  intro f
  cases ha : a[f]? with
  | none =>
    have h1 := List.getElem?_eq_none_iff.mp ha
    exact (List.getElem?_eq_none_iff.mpr (by omega)).symm
  | some ra =>
    have h1 := (List.getElem?_eq_some_iff.mp ha).1
    have h2 : f < b.length := by omega
    have hb : b[f]? = some b[f] := List.getElem?_eq_getElem h2
    rw [hb]
    exact congrArg some (List.ext_getElem? (h f ra _ ha hb))
theorem Rel.with {s : Abs} {m : M} (R : Rel s m) (W : WfM m) {f k : Nat} {r r0 : Room} (h : rmAt m f k = some r0) (hf : r.founder = f) (hk : r.number = k) : Rel (Kcs8.withRoom s r) (setRm m f k r) := by
  refine ⟨?_, ?_⟩
  · unfold Kcs8.withRoom
    show (s.rooms.map fun x => if Kcs8.isRoom r.founder r.number x then r else x).Perm (setRm m f k r).flatten
    have e : setRm m f k r = m.map (List.map fun x => if Kcs8.isRoom r.founder r.number x then r else x) := by
      refine ext2 (by unfold setRm; rw [List.length_modify, List.length_map]) fun f' ra rb ha hb k' => ?_
      have h1 := rmAt_set (r := r) h f' k'
      have h2 : rmAt (setRm m f k r) f' k' = ra[k']? := by unfold rmAt; rw [ha]; rfl
      rw [List.getElem?_map] at hb
      obtain ⟨row, hr, rfl⟩ := Option.map_eq_some_iff.mp hb
      have h3 : rmAt m f' k' = row[k']? := by unfold rmAt; rw [hr]; rfl
      rw [h2, h3] at h1
      rw [h1, List.getElem?_map]
      cases h4 : row[k']? with
      | none =>
        by_cases c : f' = f ∧ k' = k
        · obtain ⟨rfl, rfl⟩ := c
          rw [h3, h4] at h
          cases h
        · rw [if_neg c]
          rfl
      | some x =>
        have hx := W.key f' k' x (h3.trans h4)
        show _ = some (if Kcs8.isRoom r.founder r.number x = true then r else x)
        by_cases c : f' = f ∧ k' = k
        · rw [if_pos c, if_pos (isRoom_iff.mpr ⟨by rw [hx.1, c.1, hf], by rw [hx.2, c.2, hk]⟩)]
        · rw [if_neg c, if_neg (fun z => c ?_)]
          have := isRoom_iff.mp z
          exact ⟨by rw [← hx.1, this.1, hf], by rw [← hx.2, this.2, hk]⟩
    rw [e, ← List.map_flatten]
    exact R.rooms.map _
  · show s.founded = _
    rw [R.founded]
    apply List.ext_getElem?
    intro i
    unfold setRm
    rw [List.getElem?_map, List.getElem?_map, List.getElem?_modify]
    cases m[i]? with
    | none => rfl
    | some row =>
      by_cases c : f = i
      · simp [c]
      · simp [c]
/-- one more room of p's -/
def addRm (m : M) (p : Nat) (r : Room) : M := m.modify p fun row => row ++ [r]
theorem flat_add : ∀ (m : M) (p : Nat) (r : Room), p < m.length → (m.flatten ++ [r]).Perm (addRm m p r).flatten
  | [], p, r, h => by simp at h
  | row :: m, 0, r, h => by
    show (row ++ m.flatten ++ [r]).Perm ((row ++ [r]) ++ m.flatten)
    rw [List.append_assoc, List.append_assoc]
    exact List.Perm.append_left row List.perm_append_comm
  | row :: m, p + 1, r, h => by
    show (row ++ m.flatten ++ [r]).Perm (row ++ (addRm m p r).flatten)
    rw [List.append_assoc]
    exact List.Perm.append_left row (flat_add m p r (by simpa using h))
theorem rmAt_add {m : M} {p : Nat} {r : Room} {row : List Room} (h : m[p]? = some row) (f k : Nat) : rmAt (addRm m p r) f k = if f = p ∧ k = row.length then some r else rmAt m f k := by
  unfold rmAt addRm
  rw [List.getElem?_modify]
  by_cases hf : f = p
  · subst hf
    rw [h]
    by_cases hk : k = row.length
    · subst hk
      simp
    · simp only [hk, and_false, if_false]
      show (row ++ [r])[k]? = row[k]?
      rw [List.getElem?_append]
      by_cases hlt : k < row.length
      · rw [if_pos hlt]
      · rw [if_neg hlt, List.getElem?_eq_none_iff.mpr (by simp; omega), List.getElem?_eq_none_iff.mpr (by omega)]
  · have : ¬ p = f := fun e => hf e.symm
    simp [hf, this]
theorem WfM.add {m : M} (W : WfM m) {p : Nat} {r : Room} {row : List Room} (h : m[p]? = some row) (hf : r.founder = p) (hk : r.number = row.length) : WfM (addRm m p r) := by
  refine ⟨by unfold addRm; rw [List.length_modify]; exact W.len, fun f' k' r' h' => ?_⟩
  rw [rmAt_add h] at h'
  by_cases c : f' = p ∧ k' = row.length
  · rw [if_pos c] at h'
    cases h'
    exact ⟨hf.trans c.1.symm, hk.trans c.2.symm⟩
  · rw [if_neg c] at h'
    exact W.key f' k' r' h'
theorem Rel.add {s : Abs} {m : M} (R : Rel s m) {p : Nat} {r : Room} {row : List Room} (h : m[p]? = some row) :
    Rel { rooms := s.rooms ++ [r], founded := s.founded.set p (row.length + 1) } (addRm m p r) := by
  have hp := (List.getElem?_eq_some_iff.mp h).1
  refine ⟨(R.rooms.append_right [r]).trans (flat_add m p r hp), ?_⟩
  show s.founded.set p (row.length + 1) = (addRm m p r).map List.length
  rw [R.founded]
  apply List.ext_getElem?
  intro i
  unfold addRm
  rw [List.getElem?_map, List.getElem?_modify, List.getElem?_set, List.getElem?_map, List.length_map]
  by_cases c : p = i
  · subst c
    rw [h]
    simp [hp]
  · simp [c]
    
theorem founded_at {s : Abs} {m : M} (R : Rel s m) {p : Nat} {row : List Room} (h : m[p]? = some row) : s.founded.getD p 0 = row.length := by
  rw [R.founded, List.getD_eq_getElem?_getD, List.getElem?_map, h]
  rfl
theorem rel_first : Rel Kcs8.first (List.replicate 16 []) := ⟨by decide, by decide⟩
theorem wf_first : WfM (List.replicate 16 []) := ⟨rfl, fun f k r h => by
  unfold rmAt at h
  obtain ⟨row, h1, h2⟩ := Option.bind_eq_some_iff.mp h
  have := List.eq_of_mem_replicate (List.mem_of_getElem? h1)
  subst this
  simp at h2⟩
/-! ### the rooms in order -/
def le (a b : Room) : Bool := decide (a.founder < b.founder) || (a.founder == b.founder && decide (a.number ≤ b.number))
theorem sorted_perm_eq {l l' : List Room} (hp : l.Perm l') (h : l.Pairwise fun a b => le a b = true) (h' : l'.Pairwise fun a b => le a b = true) (anti : ∀ a b, a ∈ l → b ∈ l → le a b = true → le b a = true → a = b) : l = l' :=
  hp.eq_of_pairwise (le := fun a b => le a b = true) (fun a b ha hb => anti a b ha (hp.mem_iff.mpr hb)) h h'
end TR
namespace TR
open Kcs8 (Room Member Message Abs Call Ans)
theorem le_trans {a b c : Room} (h : le a b = true) (h' : le b c = true) : le a c = true := by
  unfold le at *
  simp only [Bool.or_eq_true, Bool.and_eq_true, decide_eq_true_eq, beq_iff_eq] at *
  omega
theorem le_total (a b : Room) : (le a b || le b a) = true := by
  unfold le
  simp only [Bool.or_eq_true, Bool.and_eq_true, decide_eq_true_eq, beq_iff_eq]
  omega
theorem flat_sorted {m : M} (W : WfM m) : m.flatten.Pairwise fun a b => le a b = true := by
  rw [List.pairwise_flatten]
  have key : ∀ (f : Nat) (row : List Room), m[f]? = some row → ∀ (k : Nat) r, row[k]? = some r → r.founder = f ∧ r.number = k := fun f row hf k r hk => W.key f k r (by unfold rmAt; rw [hf]; exact hk)
  constructor
  · intro row hrow
    obtain ⟨f, hf⟩ := List.mem_iff_getElem?.mp hrow
    rw [List.pairwise_iff_getElem]
    intro i j hi hj hij
    have a := key f row hf i _ (List.getElem?_eq_getElem hi)
    have b := key f row hf j _ (List.getElem?_eq_getElem hj)
    have e1 : row[i].number ≤ row[j].number := by omega
    have e2 : row[i].founder = row[j].founder := by rw [a.1, b.1]
    unfold le
    rw [e2]
    simp [e1]
  · rw [List.pairwise_iff_getElem]
    intro i j hi hj hij x hx y hy
    obtain ⟨k, hk⟩ := List.mem_iff_getElem?.mp hx
    obtain ⟨l, hl⟩ := List.mem_iff_getElem?.mp hy
    have a := key i _ (List.getElem?_eq_getElem hi) k _ hk
    have b := key j _ (List.getElem?_eq_getElem hj) l _ hl
    unfold le
    rw [a.1, a.2, b.1, b.2]
    simp only [Bool.or_eq_true, Bool.and_eq_true, decide_eq_true_eq, beq_iff_eq]
    omega
theorem inOrder_eq {s : Abs} {m : M} (R : Rel s m) (W : WfM m) : Kcs8.inOrder s.rooms = m.flatten := by
  have e : Kcs8.inOrder s.rooms = s.rooms.mergeSort le := rfl
  rw [e]
  refine sorted_perm_eq ((List.mergeSort_perm _ _).trans R.rooms) ?_ (flat_sorted W) ?_
  · exact List.pairwise_mergeSort (le := le) (fun a b c h h' => le_trans h h') le_total s.rooms
  · intro a b ha hb h1 h2
    rw [(List.mergeSort_perm _ _).mem_iff, R.rooms.mem_iff, mem_flat] at ha hb
    obtain ⟨f, k, ha⟩ := ha
    obtain ⟨f', k', hb⟩ := hb
    have ea := W.key _ _ _ ha
    have eb := W.key _ _ _ hb
    unfold le at h1 h2
    simp only [Bool.or_eq_true, Bool.and_eq_true, decide_eq_true_eq, beq_iff_eq] at h1 h2
    have e1 : f = f' := by omega
    have e2 : k = k' := by omega
    subst e1 e2
    exact Option.some.inj (ha.symm.trans hb)
/-! ### a call in a room, as a function of the room -/
def inviteR (r : Room) (x : Member) (q : Nat) : Room × Int := if x.keeper = false then (r, -1) else if Kcs8.isIn r q = true ∨ r.invited.contains q = true then (r, -17) else if 12 ≤ r.members.length + r.invited.length then (r, -28) else
  ({ r with invited := r.invited ++ [q] }, 0)
def enterR (r : Room) (p : Nat) : Room := { r with invited := r.invited.filter (· != p), members := r.members ++ [⟨p, r.members.isEmpty, if r.past then 0 else r.messages.length, if r.past then 0 else r.messages.length⟩] }
def leaveR (r : Room) (p : Nat) : Room := { r with members := Kcs8.kept (Kcs8.without r.members p) }
def outR (r : Room) (x : Member) (p q : Nat) : Room × Int := if x.keeper = false then (r, -1) else if q = p ∨ (Kcs8.isIn r q = false ∧ r.invited.contains q = false) then (r, -61) else
  ({ r with members := Kcs8.without r.members q, invited := r.invited.filter (· != q) }, 0)
def liftR (r : Room) (x : Member) (q : Nat) : Room × Int := if x.keeper = false then (r, -1) else match Kcs8.memberOf r q with
  | none => (r, -61)
  | some y => if y.keeper then (r, -17) else ({ r with members := r.members.map fun z => if z.who = q then { z with keeper := true } else z }, 0)
def pastR (r : Room) (x : Member) (b : Nat) : Room × Int := if x.keeper = false then (r, -1) else ({ r with past := b == 1 }, 0)
def sayR (r : Room) (x : Member) (p n : Nat) (t : List Nat) : Room × Int := if Kcs8.mayAnswer r x n = false then (r, -61) else if 128 ≤ r.messages.length then (r, -28) else
  ({ r with messages := r.messages ++ [⟨p, t, if n = 0 then none else some (n - 1), 0, false, []⟩] }, r.messages.length)
def changeR (r : Room) (x : Member) (p n : Nat) (t : List Nat) : Room × Int := match Kcs8.sees r x n with
  | none => (r, -61)
  | some y => if y.gone then (r, -61) else if y.who ≠ p then (r, -1) else if 255 ≤ y.changes then (r, -28) else (Kcs8.withMessage r n { y with text := t, changes := y.changes + 1 }, 0)
def removeR (r : Room) (x : Member) (p n : Nat) : Room × Int := match Kcs8.sees r x n with
  | none => (r, -61)
  | some y => if y.gone then (r, -61) else if y.who ≠ p ∧ x.keeper = false then (r, -1) else (Kcs8.withMessage r n { y with text := [], gone := true, marks := [] }, 0)
def markR (r : Room) (x : Member) (p n j : Nat) : Room × Int := match Kcs8.sees r x n with
  | none => (r, -61)
  | some y => if y.gone then (r, -61) else if y.marks.contains (p, j) then (Kcs8.withMessage r n { y with marks := y.marks.filter (· != (p, j)) }, 0)
    else (Kcs8.withMessage r n { y with marks := y.marks ++ [(p, j)] }, 1)
def seenR (r : Room) (x : Member) (p n : Nat) : Room × Int := match Kcs8.sees r x n with
  | none => (r, -61)
  | some _ => ({ r with members := r.members.map fun z => if z.who = p then { z with read := n + 1 } else z }, 0)
def readR (r : Room) (x : Member) (n : Nat) : Ans := match Kcs8.sees r x n with
  | none => .num (-61)
  | some y => Kcs8.shown y
def peopleR (r : Room) (j : Nat) : Ans := Kcs8.told ((r.members[j]?).map fun m => [m.who, if m.keeper then 1 else 0])
def numR (z : Room × Int) : Room × Ans := (z.1, .num z.2)
def withinM (m : M) (f k p : Nat) (g : Room → Member → Room × Ans) : M × Ans := match rmAt m f k with
  | none => (m, .num (-2))
  | some r => match Kcs8.memberOf r p with
    | none => (m, .num (-2))
    | some x => (setRm m f k (g r x).1, (g r x).2)
def roomLine (p : Nat) (r : Room) : List Nat := [r.founder, r.number, if Kcs8.keeps r p then 2 else if Kcs8.isIn r p then 1 else 0, if Kcs8.isIn r p then r.messages.length else 0]
def mineM (m : M) (p : Nat) : List Room := m.flatten.filter fun r => Kcs8.isIn r p || r.invited.contains p
def hitsR (p : Nat) (w : List Nat) (r : Room) : List (List Nat) := match Kcs8.memberOf r p with
  | none => []
  | some m => (List.range r.messages.length).filterMap fun n => (Kcs8.sees r m n).bind fun x => if Kcs8.has w x then some [r.founder, r.number, n] else none
def doesM (m : M) (c : Call) : M × Ans := match c with
  | .begin_ => (List.replicate 16 [], .num 0)
  | .found p b => match m[p]? with
    | none => (m, .num 0)
    | some row => if 4 ≤ row.length then (m, .num (-28)) else (addRm m p ⟨p, row.length, b == 1, [⟨p, true, 0, 0⟩], [], []⟩, .num row.length)
  | .join p f k => match rmAt m f k with
    | none => (m, .num (-2))
    | some r => if r.invited.contains p = false then (m, .num (-2)) else (setRm m f k (enterR r p), .num 0)
  | .rooms p j => (m, Kcs8.told (((mineM m p)[j]?).map (roomLine p)))
  | .find p w j => (m, Kcs8.told ((m.flatten.flatMap (hitsR p w))[j]?))
  | .invite p f k q => withinM m f k p fun r x => numR (inviteR r x q)
  | .leave p f k => withinM m f k p fun r _ => (leaveR r p, .num 0)
  | .out p f k q => withinM m f k p fun r x => numR (outR r x p q)
  | .lift p f k q => withinM m f k p fun r x => numR (liftR r x q)
  | .past p f k b => withinM m f k p fun r x => numR (pastR r x b)
  | .say p f k n t => withinM m f k p fun r x => numR (sayR r x p n t)
  | .change p f k n t => withinM m f k p fun r x => numR (changeR r x p n t)
  | .remove p f k n => withinM m f k p fun r x => numR (removeR r x p n)
  | .mark p f k n j => withinM m f k p fun r x => numR (markR r x p n j)
  | .seen p f k n => withinM m f k p fun r x => numR (seenR r x p n)
  | .read p f k n => withinM m f k p fun r x => (r, readR r x n)
  | .unread p f k => withinM m f k p fun r x => (r, .num (Kcs8.unread r x))
  | .people p f k j => withinM m f k p fun r _ => (r, peopleR r j)
def stepM (m : M) (c : Call) : M × Ans := match Kcs8.caller c with
  | none => doesM m c
  | some p => if 16 ≤ p ∨ Kcs8.fair c = false then (m, .num (-22)) else doesM m c
/-- the mirror's step is the specification's -/
structure Goes (s' : Abs) (a : Ans) (y : M × Ans) : Prop where
  rel : Rel s' y.1
  wf : WfM y.1
  ans : a = y.2
theorem setRm_same {m : M} {f k : Nat} {r : Room} (h : rmAt m f k = some r) : setRm m f k r = m := by
  refine ext2 (by unfold setRm; rw [List.length_modify]) fun f' ra rb ha hb k' => ?_
  have h1 := rmAt_set (r := r) h f' k'
  have h2 : rmAt (setRm m f k r) f' k' = ra[k']? := by unfold rmAt; rw [ha]; rfl
  have h3 : rmAt m f' k' = rb[k']? := by unfold rmAt; rw [hb]; rfl
  rw [h2, h3] at h1
  rw [h1]
  by_cases c : f' = f ∧ k' = k
  · rw [if_pos c, ← h3, c.1, c.2, h]
  · rw [if_neg c]
structure Pr (s : Abs) (r : Room) (y : Abs × Ans) (z : Room × Ans) : Prop where
  ans : y.2 = z.2
  st : (y.1 = s ∧ z.1 = r) ∨ (y.1 = Kcs8.withRoom s z.1 ∧ z.1.founder = r.founder ∧ z.1.number = r.number)
theorem Pr.no {s : Abs} {r : Room} {k : Int} : Pr s r (s, .num k) (numR (r, k)) := ⟨rfl, .inl ⟨rfl, rfl⟩⟩
theorem Pr.set {s : Abs} {r r' : Room} {k : Int} (h1 : r'.founder = r.founder) (h2 : r'.number = r.number) : Pr s r (Kcs8.withRoom s r', .num k) (numR (r', k)) := ⟨rfl, .inr ⟨rfl, h1, h2⟩⟩
theorem Pr.ite {s : Abs} {r : Room} {c : Prop} {d1 d2 : Decidable c} {a b : Abs × Ans} {a' b' : Room × Int} (h1 : Pr s r a (numR a')) (h2 : Pr s r b (numR b')) : Pr s r (@ite _ c d1 a b) (numR (@ite _ c d2 a' b')) := by
  by_cases h : c
  · rw [if_pos h, if_pos h]
    exact h1
  · rw [if_neg h, if_neg h]
    exact h2
theorem goes_within {s : Abs} {m : M} (R : Rel s m) (W : WfM m) {f k p : Nat} {g : Room → Member → Abs × Ans} {g' : Room → Member → Room × Ans}
    (h : ∀ r x, rmAt m f k = some r → Kcs8.memberOf r p = some x → Pr s r (g r x) (g' r x)) :
    Goes (Kcs8.within s f k p g).1 (Kcs8.within s f k p g).2 (withinM m f k p g') := by
  unfold Kcs8.within Kcs8.inRoom withinM
  rw [roomOf_eq R W f k]
  cases h1 : rmAt m f k with
  | none => exact ⟨R, W, rfl⟩
  | some r =>
    show Goes (match (Kcs8.memberOf r p).map fun m => (r, m) with
      | none => (s, Ans.num (-2))
      | some (r, m) => g r m).1 (match (Kcs8.memberOf r p).map fun m => (r, m) with
      | none => (s, Ans.num (-2))
      | some (r, m) => g r m).2 (match Kcs8.memberOf r p with
      | none => (m, .num (-2))
      | some x => (setRm m f k (g' r x).1, (g' r x).2))
    cases h2 : Kcs8.memberOf r p with
    | none => exact ⟨R, W, rfl⟩
    | some x =>
      obtain ⟨ha, hs⟩ := h r x h1 h2
      show Goes (g r x).1 (g r x).2 (setRm m f k (g' r x).1, (g' r x).2)
      rcases hs with ⟨e1, e2⟩ | ⟨e1, e2, e3⟩
      · rw [e1, e2, setRm_same h1]
        exact ⟨R, W, ha⟩
      · have key := W.key f k r h1
        rw [e1]
        exact ⟨R.with W h1 (e2.trans key.1) (e3.trans key.2), W.set h1 (e2.trans key.1) (e3.trans key.2), ha⟩
theorem does_goes {s : Abs} {m : M} (R : Rel s m) (W : WfM m) (c : Call) (hp : ∀ p, Kcs8.caller c = some p → p < 16) : Goes (Kcs8.does s c).1 (Kcs8.does s c).2 (doesM m c) := by
  cases c with
  | begin_ => exact ⟨rel_first, wf_first, rfl⟩
  | found p b =>
    have hlt : p < m.length := by rw [W.len]; exact hp p rfl
    obtain ⟨row, h⟩ : ∃ row, m[p]? = some row := ⟨_, List.getElem?_eq_getElem hlt⟩
    have hf := founded_at R h
    unfold Kcs8.does doesM
    simp only [hf, h]
    by_cases c : Kcs8.FOUNDED ≤ row.length
    · rw [if_pos c, if_pos (show 4 ≤ row.length from c)]
      exact ⟨R, W, rfl⟩
    · rw [if_neg c, if_neg (show ¬ 4 ≤ row.length from c)]
      exact ⟨R.add h, W.add h rfl rfl, rfl⟩
  | join p f k =>
    unfold Kcs8.does doesM
    simp only []
    rw [roomOf_eq R W f k]
    cases h1 : rmAt m f k with
    | none => exact ⟨R, W, rfl⟩
    | some r =>
      simp only []
      have key := W.key f k r h1
      by_cases c : r.invited.contains p = false
      · rw [if_pos c, if_pos c]
        exact ⟨R, W, rfl⟩
      · rw [if_neg c, if_neg c]
        exact ⟨R.with W (r := enterR r p) h1 key.1 key.2, W.set h1 key.1 key.2, rfl⟩
  | rooms p j =>
    refine ⟨R, W, ?_⟩
    show Kcs8.told _ = Kcs8.told _
    unfold Kcs8.mine mineM
    rw [inOrder_eq R W]
    rfl
  | find p w j =>
    refine ⟨R, W, ?_⟩
    show Kcs8.told _ = Kcs8.told _
    unfold Kcs8.found
    rw [inOrder_eq R W]
    rfl
  | invite p f k q => exact goes_within R W fun r x _ _ => (.ite .no (.ite .no (.ite .no (.set rfl rfl))))
  | leave p f k => exact goes_within R W fun r x _ _ => ⟨rfl, .inr ⟨rfl, rfl, rfl⟩⟩
  | out p f k q => exact goes_within R W fun r x _ _ => (.ite .no (.ite .no (.set rfl rfl)))
  | lift p f k q =>
    refine goes_within R W fun r x _ _ => ?_
    refine .ite .no ?_
    generalize Kcs8.memberOf r q = o
    cases o with
    | none => exact .no
    | some y => exact .ite .no (.set rfl rfl)
  | past p f k b => exact goes_within R W fun r x _ _ => (.ite .no (.set rfl rfl))
  | say p f k n t => exact goes_within R W fun r x _ _ => (.ite .no (.ite .no (.set rfl rfl)))
  | change p f k n t =>
    refine goes_within R W fun r x _ _ => ?_
    unfold changeR
    generalize Kcs8.sees r x n = o
    cases o with
    | none => exact .no
    | some y => exact .ite .no (.ite .no (.ite .no (.set rfl rfl)))
  | remove p f k n =>
    refine goes_within R W fun r x _ _ => ?_
    unfold removeR
    generalize Kcs8.sees r x n = o
    cases o with
    | none => exact .no
    | some y => exact .ite .no (.ite .no (.set rfl rfl))
  | mark p f k n j =>
    refine goes_within R W fun r x _ _ => ?_
    unfold markR
    generalize Kcs8.sees r x n = o
    cases o with
    | none => exact .no
    | some y => exact .ite .no (.ite (.set rfl rfl) (.set rfl rfl))
  | seen p f k n =>
    refine goes_within R W fun r x _ _ => ?_
    unfold seenR
    generalize Kcs8.sees r x n = o
    cases o with
    | none => exact .no
    | some y => exact .set rfl rfl
  | read p f k n =>
    refine goes_within R W fun r x _ _ => ?_
    unfold readR
    generalize Kcs8.sees r x n = o
    cases o with
    | none => exact ⟨rfl, .inl ⟨rfl, rfl⟩⟩
    | some y => exact ⟨rfl, .inl ⟨rfl, rfl⟩⟩
  | unread p f k => exact goes_within R W fun r x _ _ => ⟨rfl, .inl ⟨rfl, rfl⟩⟩
  | people p f k j => exact goes_within R W fun r x _ _ => ⟨rfl, .inl ⟨rfl, rfl⟩⟩
theorem step_goes {s : Abs} {m : M} (R : Rel s m) (W : WfM m) (c : Call) : Goes (Kcs8.step s c).1 (Kcs8.step s c).2 (stepM m c) := by
  unfold Kcs8.step stepM
  cases h : Kcs8.caller c with
  | none => exact does_goes R W c fun p e => by rw [h] at e; cases e
  | some p =>
    simp only []
    by_cases hc : Kcs8.PEOPLE ≤ p ∨ Kcs8.fair c = false
    · rw [if_pos hc, if_pos (show 16 ≤ p ∨ _ from hc)]
      exact ⟨R, W, rfl⟩
    · rw [if_neg hc, if_neg (show ¬ (16 ≤ p ∨ _) from hc)]
      exact does_goes R W c fun q e => by
        rw [h] at e
        cases e
        exact Nat.lt_of_not_le fun z => hc (.inl z)
theorem inviteR_key (r : Room) (x : Member) (q : Nat) : (inviteR r x q).1.founder = r.founder ∧ (inviteR r x q).1.number = r.number := by
  unfold inviteR
  repeat' split
  all_goals exact ⟨rfl, rfl⟩
theorem outR_key (r : Room) (x : Member) (p q : Nat) : (outR r x p q).1.founder = r.founder ∧ (outR r x p q).1.number = r.number := by
  unfold outR
  repeat' split
  all_goals exact ⟨rfl, rfl⟩
theorem liftR_key (r : Room) (x : Member) (q : Nat) : (liftR r x q).1.founder = r.founder ∧ (liftR r x q).1.number = r.number := by
  unfold liftR
  repeat' split
  all_goals exact ⟨rfl, rfl⟩
theorem pastR_key (r : Room) (x : Member) (b : Nat) : (pastR r x b).1.founder = r.founder ∧ (pastR r x b).1.number = r.number := by
  unfold pastR
  repeat' split
  all_goals exact ⟨rfl, rfl⟩
theorem sayR_key (r : Room) (x : Member) (p n : Nat) (t : List Nat) : (sayR r x p n t).1.founder = r.founder ∧ (sayR r x p n t).1.number = r.number := by
  unfold sayR
  repeat' split
  all_goals exact ⟨rfl, rfl⟩
theorem changeR_key (r : Room) (x : Member) (p n : Nat) (t : List Nat) : (changeR r x p n t).1.founder = r.founder ∧ (changeR r x p n t).1.number = r.number := by
  unfold changeR
  repeat' split
  all_goals exact ⟨rfl, rfl⟩
theorem removeR_key (r : Room) (x : Member) (p n : Nat) : (removeR r x p n).1.founder = r.founder ∧ (removeR r x p n).1.number = r.number := by
  unfold removeR
  repeat' split
  all_goals exact ⟨rfl, rfl⟩
theorem markR_key (r : Room) (x : Member) (p n j : Nat) : (markR r x p n j).1.founder = r.founder ∧ (markR r x p n j).1.number = r.number := by
  unfold markR
  repeat' split
  all_goals exact ⟨rfl, rfl⟩
theorem seenR_key (r : Room) (x : Member) (p n : Nat) : (seenR r x p n).1.founder = r.founder ∧ (seenR r x p n).1.number = r.number := by
  unfold seenR
  repeat' split
  all_goals exact ⟨rfl, rfl⟩
theorem doesM_found {m : M} {p b : Nat} {row : List Room} (h : m[p]? = some row) : doesM m (.found p b) = if 4 ≤ row.length then (m, .num (-28)) else (addRm m p ⟨p, row.length, b == 1, [⟨p, true, 0, 0⟩], [], []⟩, .num row.length) := by
  simp only [doesM, h]
theorem doesM_join_none {m : M} {p f k : Nat} (h : rmAt m f k = none) : doesM m (.join p f k) = (m, .num (-2)) := by
  simp only [doesM, h]
theorem doesM_join_some {m : M} {p f k : Nat} {r : Room} (h : rmAt m f k = some r) : doesM m (.join p f k) = if r.invited.contains p = false then (m, .num (-2)) else (setRm m f k (enterR r p), .num 0) := by
  simp only [doesM, h]
theorem withinM_none {m : M} {f k p : Nat} {g : Room → Member → Room × Ans} (h : rmAt m f k = none) : withinM m f k p g = (m, .num (-2)) := by
  simp only [withinM, h]
theorem withinM_out {m : M} {f k p : Nat} {g : Room → Member → Room × Ans} {r : Room} (h : rmAt m f k = some r) (hx : Kcs8.memberOf r p = none) : withinM m f k p g = (m, .num (-2)) := by
  simp only [withinM, h, hx]
theorem withinM_in {m : M} {f k p : Nat} {g : Room → Member → Room × Ans} {r : Room} {x : Member} (h : rmAt m f k = some r) (hx : Kcs8.memberOf r p = some x) : withinM m f k p g = (setRm m f k (g r x).1, (g r x).2) := by
  simp only [withinM, h, hx]
end TR
namespace TR
open Kcs8 (Room Member Message Abs Call Ans)
/-! ### the list of calls, read -/
theorem whole_id (c : List (List Int)) : PyKcs8.whole c = c := by
  unfold PyKcs8.whole
  split <;> rfl
def ofN (l : List Nat) : List Int := l.map fun (x : Nat) => (x : Int)
/-- a call's number, its whole numbers, its row -/
def numC : Call → Nat
  | .begin_  => 0
  | .found _ _ => 1
  | .invite _ _ _ _ => 2
  | .join _ _ _ => 3
  | .leave _ _ _ => 4
  | .out _ _ _ _ => 5
  | .lift _ _ _ _ => 6
  | .past _ _ _ _ => 7
  | .say _ _ _ _ _ => 8
  | .change _ _ _ _ _ => 9
  | .remove _ _ _ _ => 10
  | .mark _ _ _ _ _ => 11
  | .seen _ _ _ _ => 12
  | .read _ _ _ _ => 13
  | .unread _ _ _ => 14
  | .rooms _ _ => 15
  | .people _ _ _ _ => 16
  | .find _ _ _ => 17
def argsC : Call → List Nat
  | .begin_ => []
  | .found p b => [p, b]
  | .invite p f k q => [p, f, k, q]
  | .join p f k => [p, f, k]
  | .leave p f k => [p, f, k]
  | .out p f k q => [p, f, k, q]
  | .lift p f k q => [p, f, k, q]
  | .past p f k b => [p, f, k, b]
  | .say p f k n _ => [p, f, k, n]
  | .change p f k n _ => [p, f, k, n]
  | .remove p f k n => [p, f, k, n]
  | .mark p f k n j => [p, f, k, n, j]
  | .seen p f k n => [p, f, k, n]
  | .read p f k n => [p, f, k, n]
  | .unread p f k => [p, f, k]
  | .rooms p j => [p, j]
  | .people p f k j => [p, f, k, j]
  | .find p _ j => [p, j]
def rowC : Call → Option (List Nat)
  | .say _ _ _ _ t => some t
  | .change _ _ _ _ t => some t
  | .find _ w _ => some w
  | _ => none
def encC (d : Call) : List (List Int) := ((numC d : Int) :: ofN (argsC d)) :: (match rowC d with
  | none => []
  | some t => [ofN t])
theorem m_ofN (t : List Nat) : (ofN t).map Int.toNat = t := by
  unfold ofN
  rw [List.map_map]
  exact (List.map_congr_left fun x _ => rfl).trans (List.map_id t)
theorem call_encC (d : Call) : Kcs8Neutral.call (encC d) = d := by
  cases d with
  | begin_  => rfl
  | found p b => rfl
  | invite p f k q => rfl
  | join p f k => rfl
  | leave p f k => rfl
  | out p f k q => rfl
  | lift p f k q => rfl
  | past p f k b => rfl
  | say p f k n t =>
    show Kcs8.Call.say _ _ _ _ (Kcs8Neutral.m (encC (.say p f k n t)) 1) = _
    rw [show Kcs8Neutral.m (encC (.say p f k n t)) 1 = t from m_ofN t]
    rfl
  | change p f k n t =>
    show Kcs8.Call.change _ _ _ _ (Kcs8Neutral.m (encC (.change p f k n t)) 1) = _
    rw [show Kcs8Neutral.m (encC (.change p f k n t)) 1 = t from m_ofN t]
    rfl
  | remove p f k n => rfl
  | mark p f k n j => rfl
  | seen p f k n => rfl
  | read p f k n => rfl
  | unread p f k => rfl
  | rooms p j => rfl
  | people p f k j => rfl
  | find p w j =>
    show Kcs8.Call.find _ (Kcs8Neutral.m (encC (.find p w j)) 1) _ = _
    rw [show Kcs8Neutral.m (encC (.find p w j)) 1 = w from m_ofN w]
    rfl
theorem nat_of {lo hi x : Int} (h : PyInside.within 0 hi x = true) : ∃ n : Nat, x = (n : Int) := by
  unfold PyInside.within at h
  rw [Bool.and_eq_true, decide_eq_true_eq] at h
  exact ⟨x.toNat, by omega⟩
theorem nats_of : ∀ {l : List Int}, l.all (PyInside.within 0 255) = true → ∃ t : List Nat, l = ofN t
  | [], _ => ⟨[], rfl⟩
  | x :: l, h => by
    rw [List.all_cons, Bool.and_eq_true] at h
    obtain ⟨n, rfl⟩ := nat_of (lo := 0) h.1
    obtain ⟨t, rfl⟩ := nats_of h.2
    exact ⟨n :: t, rfl⟩
theorem decode {c : List (List Int)} (ok : PyFlat.okCall PyKcs8.shape c) (b : PyInside.call PyKcs8.bound c = true) : ∃ d : Call, c = encC d := by
  obtain ⟨p, a, xs, rfl, hs⟩ := ok
  unfold PyInside.call at b
  rw [Bool.and_eq_true] at b
  obtain ⟨b1, b2⟩ := b
  unfold PyKcs8.shape at hs
  unfold PyKcs8.bound at b1 b2
  by_cases e0 : p = 0
  · subst e0
    rw [if_pos rfl] at hs b1 b2
    obtain ⟨ea, ex⟩ := Prod.mk.inj (Option.some.inj hs)
    match a, ea, xs, ex, b1, b2 with
    | [], _, [], _, b1, b2 =>
      exact ⟨.begin_ , rfl⟩
  rw [if_neg e0] at hs b1 b2
  by_cases e1 : p = 1
  · subst e1
    rw [if_pos rfl] at hs b1 b2
    obtain ⟨ea, ex⟩ := Prod.mk.inj (Option.some.inj hs)
    match a, ea, xs, ex, b1, b2 with
    | [x0, x1], _, [], _, b1, b2 =>
      have b1' : (PyInside.within 0 4294967295 x0 && (PyInside.within 0 4294967295 x1 && true)) = true := b1
      simp only [Bool.and_eq_true] at b1'
      obtain ⟨n0, rfl⟩ := nat_of (lo := 0) b1'.1
      obtain ⟨n1, rfl⟩ := nat_of (lo := 0) b1'.2.1
      exact ⟨.found n0 n1, rfl⟩
  rw [if_neg e1] at hs b1 b2
  by_cases e2 : p = 2
  · subst e2
    rw [if_pos rfl] at hs b1 b2
    obtain ⟨ea, ex⟩ := Prod.mk.inj (Option.some.inj hs)
    match a, ea, xs, ex, b1, b2 with
    | [x0, x1, x2, x3], _, [], _, b1, b2 =>
      have b1' : (PyInside.within 0 4294967295 x0 && (PyInside.within 0 4294967295 x1 && (PyInside.within 0 4294967295 x2 && (PyInside.within 0 4294967295 x3 && true)))) = true := b1
      simp only [Bool.and_eq_true] at b1'
      obtain ⟨n0, rfl⟩ := nat_of (lo := 0) b1'.1
      obtain ⟨n1, rfl⟩ := nat_of (lo := 0) b1'.2.1
      obtain ⟨n2, rfl⟩ := nat_of (lo := 0) b1'.2.2.1
      obtain ⟨n3, rfl⟩ := nat_of (lo := 0) b1'.2.2.2.1
      exact ⟨.invite n0 n1 n2 n3, rfl⟩
  rw [if_neg e2] at hs b1 b2
  by_cases e3 : p = 3
  · subst e3
    rw [if_pos rfl] at hs b1 b2
    obtain ⟨ea, ex⟩ := Prod.mk.inj (Option.some.inj hs)
    match a, ea, xs, ex, b1, b2 with
    | [x0, x1, x2], _, [], _, b1, b2 =>
      have b1' : (PyInside.within 0 4294967295 x0 && (PyInside.within 0 4294967295 x1 && (PyInside.within 0 4294967295 x2 && true))) = true := b1
      simp only [Bool.and_eq_true] at b1'
      obtain ⟨n0, rfl⟩ := nat_of (lo := 0) b1'.1
      obtain ⟨n1, rfl⟩ := nat_of (lo := 0) b1'.2.1
      obtain ⟨n2, rfl⟩ := nat_of (lo := 0) b1'.2.2.1
      exact ⟨.join n0 n1 n2, rfl⟩
  rw [if_neg e3] at hs b1 b2
  by_cases e4 : p = 4
  · subst e4
    rw [if_pos rfl] at hs b1 b2
    obtain ⟨ea, ex⟩ := Prod.mk.inj (Option.some.inj hs)
    match a, ea, xs, ex, b1, b2 with
    | [x0, x1, x2], _, [], _, b1, b2 =>
      have b1' : (PyInside.within 0 4294967295 x0 && (PyInside.within 0 4294967295 x1 && (PyInside.within 0 4294967295 x2 && true))) = true := b1
      simp only [Bool.and_eq_true] at b1'
      obtain ⟨n0, rfl⟩ := nat_of (lo := 0) b1'.1
      obtain ⟨n1, rfl⟩ := nat_of (lo := 0) b1'.2.1
      obtain ⟨n2, rfl⟩ := nat_of (lo := 0) b1'.2.2.1
      exact ⟨.leave n0 n1 n2, rfl⟩
  rw [if_neg e4] at hs b1 b2
  by_cases e5 : p = 5
  · subst e5
    rw [if_pos rfl] at hs b1 b2
    obtain ⟨ea, ex⟩ := Prod.mk.inj (Option.some.inj hs)
    match a, ea, xs, ex, b1, b2 with
    | [x0, x1, x2, x3], _, [], _, b1, b2 =>
      have b1' : (PyInside.within 0 4294967295 x0 && (PyInside.within 0 4294967295 x1 && (PyInside.within 0 4294967295 x2 && (PyInside.within 0 4294967295 x3 && true)))) = true := b1
      simp only [Bool.and_eq_true] at b1'
      obtain ⟨n0, rfl⟩ := nat_of (lo := 0) b1'.1
      obtain ⟨n1, rfl⟩ := nat_of (lo := 0) b1'.2.1
      obtain ⟨n2, rfl⟩ := nat_of (lo := 0) b1'.2.2.1
      obtain ⟨n3, rfl⟩ := nat_of (lo := 0) b1'.2.2.2.1
      exact ⟨.out n0 n1 n2 n3, rfl⟩
  rw [if_neg e5] at hs b1 b2
  by_cases e6 : p = 6
  · subst e6
    rw [if_pos rfl] at hs b1 b2
    obtain ⟨ea, ex⟩ := Prod.mk.inj (Option.some.inj hs)
    match a, ea, xs, ex, b1, b2 with
    | [x0, x1, x2, x3], _, [], _, b1, b2 =>
      have b1' : (PyInside.within 0 4294967295 x0 && (PyInside.within 0 4294967295 x1 && (PyInside.within 0 4294967295 x2 && (PyInside.within 0 4294967295 x3 && true)))) = true := b1
      simp only [Bool.and_eq_true] at b1'
      obtain ⟨n0, rfl⟩ := nat_of (lo := 0) b1'.1
      obtain ⟨n1, rfl⟩ := nat_of (lo := 0) b1'.2.1
      obtain ⟨n2, rfl⟩ := nat_of (lo := 0) b1'.2.2.1
      obtain ⟨n3, rfl⟩ := nat_of (lo := 0) b1'.2.2.2.1
      exact ⟨.lift n0 n1 n2 n3, rfl⟩
  rw [if_neg e6] at hs b1 b2
  by_cases e7 : p = 7
  · subst e7
    rw [if_pos rfl] at hs b1 b2
    obtain ⟨ea, ex⟩ := Prod.mk.inj (Option.some.inj hs)
    match a, ea, xs, ex, b1, b2 with
    | [x0, x1, x2, x3], _, [], _, b1, b2 =>
      have b1' : (PyInside.within 0 4294967295 x0 && (PyInside.within 0 4294967295 x1 && (PyInside.within 0 4294967295 x2 && (PyInside.within 0 4294967295 x3 && true)))) = true := b1
      simp only [Bool.and_eq_true] at b1'
      obtain ⟨n0, rfl⟩ := nat_of (lo := 0) b1'.1
      obtain ⟨n1, rfl⟩ := nat_of (lo := 0) b1'.2.1
      obtain ⟨n2, rfl⟩ := nat_of (lo := 0) b1'.2.2.1
      obtain ⟨n3, rfl⟩ := nat_of (lo := 0) b1'.2.2.2.1
      exact ⟨.past n0 n1 n2 n3, rfl⟩
  rw [if_neg e7] at hs b1 b2
  by_cases e8 : p = 8
  · subst e8
    rw [if_pos rfl] at hs b1 b2
    obtain ⟨ea, ex⟩ := Prod.mk.inj (Option.some.inj hs)
    match a, ea, xs, ex, b1, b2 with
    | [x0, x1, x2, x3], _, [y], _, b1, b2 =>
      have b1' : (PyInside.within 0 4294967295 x0 && (PyInside.within 0 4294967295 x1 && (PyInside.within 0 4294967295 x2 && (PyInside.within 0 4294967295 x3 && true)))) = true := b1
      simp only [Bool.and_eq_true] at b1'
      obtain ⟨n0, rfl⟩ := nat_of (lo := 0) b1'.1
      obtain ⟨n1, rfl⟩ := nat_of (lo := 0) b1'.2.1
      obtain ⟨n2, rfl⟩ := nat_of (lo := 0) b1'.2.2.1
      obtain ⟨n3, rfl⟩ := nat_of (lo := 0) b1'.2.2.2.1
      have b2' : (decide (0 ≤ y.length) && decide (y.length ≤ 400) && y.all (PyInside.within 0 255) && true) = true := b2
      simp only [Bool.and_eq_true] at b2'
      obtain ⟨t, rfl⟩ := nats_of b2'.1.2
      exact ⟨.say n0 n1 n2 n3 t, rfl⟩
  rw [if_neg e8] at hs b1 b2
  by_cases e9 : p = 9
  · subst e9
    rw [if_pos rfl] at hs b1 b2
    obtain ⟨ea, ex⟩ := Prod.mk.inj (Option.some.inj hs)
    match a, ea, xs, ex, b1, b2 with
    | [x0, x1, x2, x3], _, [y], _, b1, b2 =>
      have b1' : (PyInside.within 0 4294967295 x0 && (PyInside.within 0 4294967295 x1 && (PyInside.within 0 4294967295 x2 && (PyInside.within 0 4294967295 x3 && true)))) = true := b1
      simp only [Bool.and_eq_true] at b1'
      obtain ⟨n0, rfl⟩ := nat_of (lo := 0) b1'.1
      obtain ⟨n1, rfl⟩ := nat_of (lo := 0) b1'.2.1
      obtain ⟨n2, rfl⟩ := nat_of (lo := 0) b1'.2.2.1
      obtain ⟨n3, rfl⟩ := nat_of (lo := 0) b1'.2.2.2.1
      have b2' : (decide (0 ≤ y.length) && decide (y.length ≤ 400) && y.all (PyInside.within 0 255) && true) = true := b2
      simp only [Bool.and_eq_true] at b2'
      obtain ⟨t, rfl⟩ := nats_of b2'.1.2
      exact ⟨.change n0 n1 n2 n3 t, rfl⟩
  rw [if_neg e9] at hs b1 b2
  by_cases e10 : p = 10
  · subst e10
    rw [if_pos rfl] at hs b1 b2
    obtain ⟨ea, ex⟩ := Prod.mk.inj (Option.some.inj hs)
    match a, ea, xs, ex, b1, b2 with
    | [x0, x1, x2, x3], _, [], _, b1, b2 =>
      have b1' : (PyInside.within 0 4294967295 x0 && (PyInside.within 0 4294967295 x1 && (PyInside.within 0 4294967295 x2 && (PyInside.within 0 4294967295 x3 && true)))) = true := b1
      simp only [Bool.and_eq_true] at b1'
      obtain ⟨n0, rfl⟩ := nat_of (lo := 0) b1'.1
      obtain ⟨n1, rfl⟩ := nat_of (lo := 0) b1'.2.1
      obtain ⟨n2, rfl⟩ := nat_of (lo := 0) b1'.2.2.1
      obtain ⟨n3, rfl⟩ := nat_of (lo := 0) b1'.2.2.2.1
      exact ⟨.remove n0 n1 n2 n3, rfl⟩
  rw [if_neg e10] at hs b1 b2
  by_cases e11 : p = 11
  · subst e11
    rw [if_pos rfl] at hs b1 b2
    obtain ⟨ea, ex⟩ := Prod.mk.inj (Option.some.inj hs)
    match a, ea, xs, ex, b1, b2 with
    | [x0, x1, x2, x3, x4], _, [], _, b1, b2 =>
      have b1' : (PyInside.within 0 4294967295 x0 && (PyInside.within 0 4294967295 x1 && (PyInside.within 0 4294967295 x2 && (PyInside.within 0 4294967295 x3 && (PyInside.within 0 4294967295 x4 && true))))) = true := b1
      simp only [Bool.and_eq_true] at b1'
      obtain ⟨n0, rfl⟩ := nat_of (lo := 0) b1'.1
      obtain ⟨n1, rfl⟩ := nat_of (lo := 0) b1'.2.1
      obtain ⟨n2, rfl⟩ := nat_of (lo := 0) b1'.2.2.1
      obtain ⟨n3, rfl⟩ := nat_of (lo := 0) b1'.2.2.2.1
      obtain ⟨n4, rfl⟩ := nat_of (lo := 0) b1'.2.2.2.2.1
      exact ⟨.mark n0 n1 n2 n3 n4, rfl⟩
  rw [if_neg e11] at hs b1 b2
  by_cases e12 : p = 12
  · subst e12
    rw [if_pos rfl] at hs b1 b2
    obtain ⟨ea, ex⟩ := Prod.mk.inj (Option.some.inj hs)
    match a, ea, xs, ex, b1, b2 with
    | [x0, x1, x2, x3], _, [], _, b1, b2 =>
      have b1' : (PyInside.within 0 4294967295 x0 && (PyInside.within 0 4294967295 x1 && (PyInside.within 0 4294967295 x2 && (PyInside.within 0 4294967295 x3 && true)))) = true := b1
      simp only [Bool.and_eq_true] at b1'
      obtain ⟨n0, rfl⟩ := nat_of (lo := 0) b1'.1
      obtain ⟨n1, rfl⟩ := nat_of (lo := 0) b1'.2.1
      obtain ⟨n2, rfl⟩ := nat_of (lo := 0) b1'.2.2.1
      obtain ⟨n3, rfl⟩ := nat_of (lo := 0) b1'.2.2.2.1
      exact ⟨.seen n0 n1 n2 n3, rfl⟩
  rw [if_neg e12] at hs b1 b2
  by_cases e13 : p = 13
  · subst e13
    rw [if_pos rfl] at hs b1 b2
    obtain ⟨ea, ex⟩ := Prod.mk.inj (Option.some.inj hs)
    match a, ea, xs, ex, b1, b2 with
    | [x0, x1, x2, x3], _, [], _, b1, b2 =>
      have b1' : (PyInside.within 0 4294967295 x0 && (PyInside.within 0 4294967295 x1 && (PyInside.within 0 4294967295 x2 && (PyInside.within 0 4294967295 x3 && true)))) = true := b1
      simp only [Bool.and_eq_true] at b1'
      obtain ⟨n0, rfl⟩ := nat_of (lo := 0) b1'.1
      obtain ⟨n1, rfl⟩ := nat_of (lo := 0) b1'.2.1
      obtain ⟨n2, rfl⟩ := nat_of (lo := 0) b1'.2.2.1
      obtain ⟨n3, rfl⟩ := nat_of (lo := 0) b1'.2.2.2.1
      exact ⟨.read n0 n1 n2 n3, rfl⟩
  rw [if_neg e13] at hs b1 b2
  by_cases e14 : p = 14
  · subst e14
    rw [if_pos rfl] at hs b1 b2
    obtain ⟨ea, ex⟩ := Prod.mk.inj (Option.some.inj hs)
    match a, ea, xs, ex, b1, b2 with
    | [x0, x1, x2], _, [], _, b1, b2 =>
      have b1' : (PyInside.within 0 4294967295 x0 && (PyInside.within 0 4294967295 x1 && (PyInside.within 0 4294967295 x2 && true))) = true := b1
      simp only [Bool.and_eq_true] at b1'
      obtain ⟨n0, rfl⟩ := nat_of (lo := 0) b1'.1
      obtain ⟨n1, rfl⟩ := nat_of (lo := 0) b1'.2.1
      obtain ⟨n2, rfl⟩ := nat_of (lo := 0) b1'.2.2.1
      exact ⟨.unread n0 n1 n2, rfl⟩
  rw [if_neg e14] at hs b1 b2
  by_cases e15 : p = 15
  · subst e15
    rw [if_pos rfl] at hs b1 b2
    obtain ⟨ea, ex⟩ := Prod.mk.inj (Option.some.inj hs)
    match a, ea, xs, ex, b1, b2 with
    | [x0, x1], _, [], _, b1, b2 =>
      have b1' : (PyInside.within 0 4294967295 x0 && (PyInside.within 0 4294967295 x1 && true)) = true := b1
      simp only [Bool.and_eq_true] at b1'
      obtain ⟨n0, rfl⟩ := nat_of (lo := 0) b1'.1
      obtain ⟨n1, rfl⟩ := nat_of (lo := 0) b1'.2.1
      exact ⟨.rooms n0 n1, rfl⟩
  rw [if_neg e15] at hs b1 b2
  by_cases e16 : p = 16
  · subst e16
    rw [if_pos rfl] at hs b1 b2
    obtain ⟨ea, ex⟩ := Prod.mk.inj (Option.some.inj hs)
    match a, ea, xs, ex, b1, b2 with
    | [x0, x1, x2, x3], _, [], _, b1, b2 =>
      have b1' : (PyInside.within 0 4294967295 x0 && (PyInside.within 0 4294967295 x1 && (PyInside.within 0 4294967295 x2 && (PyInside.within 0 4294967295 x3 && true)))) = true := b1
      simp only [Bool.and_eq_true] at b1'
      obtain ⟨n0, rfl⟩ := nat_of (lo := 0) b1'.1
      obtain ⟨n1, rfl⟩ := nat_of (lo := 0) b1'.2.1
      obtain ⟨n2, rfl⟩ := nat_of (lo := 0) b1'.2.2.1
      obtain ⟨n3, rfl⟩ := nat_of (lo := 0) b1'.2.2.2.1
      exact ⟨.people n0 n1 n2 n3, rfl⟩
  rw [if_neg e16] at hs b1 b2
  by_cases e17 : p = 17
  · subst e17
    rw [if_pos rfl] at hs b1 b2
    obtain ⟨ea, ex⟩ := Prod.mk.inj (Option.some.inj hs)
    match a, ea, xs, ex, b1, b2 with
    | [x0, x1], _, [y], _, b1, b2 =>
      have b1' : (PyInside.within 0 4294967295 x0 && (PyInside.within 0 4294967295 x1 && true)) = true := b1
      simp only [Bool.and_eq_true] at b1'
      obtain ⟨n0, rfl⟩ := nat_of (lo := 0) b1'.1
      obtain ⟨n1, rfl⟩ := nat_of (lo := 0) b1'.2.1
      have b2' : (decide (0 ≤ y.length) && decide (y.length ≤ 400) && y.all (PyInside.within 0 255) && true) = true := b2
      simp only [Bool.and_eq_true] at b2'
      obtain ⟨t, rfl⟩ := nats_of b2'.1.2
      exact ⟨.find n0 t n1, rfl⟩
  rw [if_neg e17] at hs b1 b2
  cases hs
/-- the specification's and the mirror's runs are one -/
def stepN (m : M) (c : List (List Int)) : M × List Int := ((stepM m (Kcs8Neutral.call c)).1, Kcs8Neutral.told (stepM m (Kcs8Neutral.call c)).2)
theorem played_eq : ∀ (cs : List (List (List Int))) (s : Abs) (m : M), Rel s m → WfM m → PyFlat.played Kcs8Neutral.step s cs = PyFlat.played stepN m cs
  | [], _, _, _, _ => rfl
  | c :: cs, s, m, R, W => by
    have g := step_goes R W (Kcs8Neutral.call c)
    show Kcs8Neutral.told (Kcs8.step s (Kcs8Neutral.call c)).2 :: PyFlat.played Kcs8Neutral.step (Kcs8.step s (Kcs8Neutral.call c)).1 cs = Kcs8Neutral.told (stepM m (Kcs8Neutral.call c)).2 :: PyFlat.played stepN (stepM m (Kcs8Neutral.call c)).1 cs
    rw [g.ans, played_eq cs _ _ g.rel g.wf]
def runM (m : M) : List Call → List (List Int)
  | [] => []
  | d :: ds => Kcs8Neutral.told (stepM m d).2 :: runM (stepM m d).1 ds
def endM (m : M) : List Call → M
  | [] => m
  | d :: ds => endM (stepM m d).1 ds
theorem played_run : ∀ (ds : List Call) (m : M), PyFlat.played stepN m (ds.map encC) = runM m ds
  | [], _ => rfl
  | d :: ds, m => by
    show Kcs8Neutral.told (stepM m (Kcs8Neutral.call (encC d))).2 :: PyFlat.played stepN (stepM m (Kcs8Neutral.call (encC d))).1 (ds.map encC) = _
    rw [call_encC, played_run ds]
    rfl
theorem all_decode : ∀ {cs : List (List (List Int))}, (∀ c ∈ cs, PyFlat.okCall PyKcs8.shape c) → PyInside.calls PyKcs8.bound cs = true → ∃ ds : List Call, cs = ds.map encC
  | [], _, _ => ⟨[], rfl⟩
  | c :: cs, h, b => by
    unfold PyInside.calls at b
    rw [List.all_cons, Bool.and_eq_true] at b
    obtain ⟨d, rfl⟩ := decode (h c List.mem_cons_self) b.1
    obtain ⟨ds, rfl⟩ := all_decode (fun z hz => h z (List.mem_cons_of_mem _ hz)) b.2
    exact ⟨d :: ds, rfl⟩
/-- what is asked of the list: it is calls, put flat -/
theorem asked_calls {l : List Int} (h : PyKcs8.answers_asked l = true) : ∃ ds : List Call, l = PyFlat.put (ds.map encC) ∧ PyKcs8.answers l = PyFlat.told (runM (List.replicate 16 []) ds) ∧ (PyKcs8.answers l).length ≤ 10000000 := by
  unfold PyKcs8.answers_asked at h
  cases e : PyFlat.calls PyKcs8.shape l.length l with
  | none =>
    rw [e] at h
    cases h
  | some cs =>
    rw [e] at h
    simp only [Bool.and_eq_true] at h
    obtain ⟨⟨⟨⟨_, _⟩, hb⟩, _⟩, hs⟩ := h
    obtain ⟨h1, h2⟩ := PyFlat.put_calls _ _ _ e
    obtain ⟨ds, rfl⟩ := all_decode h2 hb
    refine ⟨ds, h1, ?_, of_decide_eq_true hs⟩
    unfold PyKcs8.answers PyKcs8.calls
    rw [e]
    have w : (ds.map encC).map PyKcs8.whole = ds.map encC := (List.map_congr_left fun c _ => whole_id c).trans (List.map_id _)
    show PyFlat.told (PyFlat.played Kcs8Neutral.step Kcs8Neutral.start ((ds.map encC).map PyKcs8.whole)) = _
    rw [w]
    show PyFlat.told (PyFlat.played Kcs8Neutral.step Kcs8.first (ds.map encC)) = _
    rw [played_eq _ _ _ rel_first wf_first, played_run]
end TR
namespace TR
open PySem PySem.Spec PyProof.Rows L2
/-! ### the words of a text, as a dict's keys -/
def keyN (w : List Nat) : List Key := w.map fun (b : Nat) => Sum.inl (b : Int)
theorem keyN_inj : ∀ {a b : List Nat}, keyN a = keyN b → a = b
  | [], [], _ => rfl
  | [], _ :: _, e => by simp [keyN] at e
  | _ :: _, [], e => by simp [keyN] at e
  | x :: a, y :: b, e => by
    simp only [keyN, List.map_cons] at e
    injection e with e1 e2
    injection e1 with e1
    rw [Int.ofNat.inj e1, keyN_inj e2]
theorem keyN_kV (w : List Nat) : (keyN w).map kV = w.map fun (b : Nat) => V.int (b : Nat) := by
  unfold keyN
  rw [List.map_map]
  rfl
abbrev WS := List (List Key × V) × List Nat
def wStep (s : WS) (b : Nat) : WS := if Kcs8.wordByte b then (s.1, s.2 ++ [Kcs8.small b]) else if s.2.isEmpty then s else (putK s.1 (keyN s.2) (.bl true), [])
def wRun (s : WS) (t : List Nat) : WS := t.foldl wStep s
def wordsKV (t : List Nat) : List (List Key × V) := (wRun ([], []) (t ++ [32])).1
theorem wordByte_blank : Kcs8.wordByte 32 = false := by decide
theorem wRun_has (w : List Nat) : ∀ (t : List Nat) (kvs : List (List Key × V)) (row : List Nat),
    (valV (wRun (kvs, row) (t ++ [32])).1 (keyN w)).isSome = ((valV kvs (keyN w)).isSome || (Kcs8.wordsFrom row.reverse t).contains w) := by
  have put : ∀ (kvs : List (List Key × V)) (row : List Nat), (valV (putK kvs (keyN row) (.bl true)) (keyN w)).isSome = ((valV kvs (keyN w)).isSome || (w == row)) := fun kvs row => by
    rw [valV_put]
    by_cases c : keyN w = keyN row
    · rw [if_pos c, keyN_inj c]
      simp
    · rw [if_neg c]
      have : (w == row) = false := beq_false_of_ne fun e => c (by rw [e])
      rw [this, Bool.or_false]
  intro t
  induction t with
  | nil =>
    intro kvs row
    show (valV (wStep (kvs, row) 32).1 (keyN w)).isSome = _
    unfold wStep Kcs8.wordsFrom
    rw [wordByte_blank]
    rw [if_neg Bool.false_ne_true]
    cases row with
    | nil => simp
    | cons b row =>
      have e1 : (b :: row).isEmpty = false := rfl
      have e2 : (b :: row).reverse.isEmpty = false := by simp
      rw [e1, e2]
      rw [if_neg Bool.false_ne_true, if_neg Bool.false_ne_true, List.reverse_reverse]
      show (valV (putK kvs (keyN (b :: row)) (.bl true)) (keyN w)).isSome = _
      rw [put, List.contains_cons]
      simp
  | cons b t ih =>
    intro kvs row
    show (valV (wRun (wStep (kvs, row) b) (t ++ [32])).1 (keyN w)).isSome = _
    unfold wStep
    rw [Kcs8.wordsFrom]
    cases h : Kcs8.wordByte b with
    | true =>
      rw [if_pos rfl, if_pos rfl]
      show (valV (wRun (kvs, row ++ [Kcs8.small b]) (t ++ [32])).1 (keyN w)).isSome = _
      rw [ih, List.reverse_append]
      rfl
    | false =>
      rw [if_neg Bool.false_ne_true, if_neg Bool.false_ne_true]
      cases row with
      | nil =>
        show (valV (wRun (kvs, []) (t ++ [32])).1 (keyN w)).isSome = _
        rw [ih]
        rfl
      | cons c row =>
        have e1 : (c :: row).isEmpty = false := rfl
        have e2 : (c :: row).reverse.isEmpty = false := by simp
        rw [e1, e2]
        rw [if_neg Bool.false_ne_true, if_neg Bool.false_ne_true, List.reverse_reverse]
        show (valV (wRun (putK kvs (keyN (c :: row)) (.bl true), []) (t ++ [32])).1 (keyN w)).isSome = _
        rw [ih, put, List.contains_cons, Bool.or_assoc]
        rfl
theorem wordsKV_has (t w : List Nat) : (valV (wordsKV t) (keyN w)).isSome = (Kcs8.words t).contains w := by
  unfold wordsKV
  rw [wRun_has]
  rfl
theorem wRun_len : ∀ (t : List Nat) (s : WS), (wRun s t).1.length ≤ s.1.length + t.length ∧ (wRun s t).2.length ≤ s.2.length + t.length
  | [], s => ⟨Nat.le_refl _, Nat.le_refl _⟩
  | b :: t, s => by
    have ih := wRun_len t (wStep s b)
    have h1 : (wStep s b).1.length ≤ s.1.length + 1 ∧ (wStep s b).2.length ≤ s.2.length + 1 := by
      unfold wStep
      split
      · exact ⟨Nat.le_succ _, by rw [List.length_append]; exact Nat.le_refl _⟩
      · split
        · exact ⟨Nat.le_succ _, Nat.le_succ _⟩
        · exact ⟨length_putK _ _ _, Nat.zero_le _⟩
    show (wRun (wStep s b) t).1.length ≤ _ ∧ (wRun (wStep s b) t).2.length ≤ _
    rw [List.length_cons]
    omega
theorem wRun_snoc (s : WS) (t : List Nat) (b : Nat) : wRun s (t ++ [b]) = wStep (wRun s t) b := by
  unfold wRun
  rw [List.foldl_append]
  rfl
theorem wordByte_small (b : Nat) : (decide (97 ≤ Kcs8.small b ∧ Kcs8.small b ≤ 122) || decide (48 ≤ Kcs8.small b ∧ Kcs8.small b ≤ 57)) = Kcs8.wordByte b := by
  unfold Kcs8.wordByte Kcs8.small
  rw [Bool.eq_iff_iff]
  simp only [Bool.or_eq_true, Bool.and_eq_true, decide_eq_true_eq]
  split <;> omega
/-! ### marks -/
open Kcs8 (Room Member Message)
def marksOf (x : Message) (k : Nat) : List Nat := (x.marks.filter fun m => m.2 == k).map (·.1)
structure WfMsg (x : Message) : Prop where
  nd : x.marks.Nodup
  who : ∀ m ∈ x.marks, m.1 < 16
  txt : x.text.length ≤ 256
theorem nodup_below : ∀ (n : Nat) (l : List Nat), l.Nodup → (∀ q ∈ l, q < n) → l.length ≤ n
  | 0, l, _, h => by
    cases l with
    | nil => exact Nat.le_refl _
    | cons a l => exact absurd (h a List.mem_cons_self) (Nat.not_lt_zero _)
  | n + 1, l, nd, h => by
    have ih := nodup_below n (l.filter (· != n)) (List.filter_sublist.nodup nd) fun q hq => by
      have h1 := h q (List.mem_filter.mp hq).1
      have h2 := (List.mem_filter.mp hq).2
      have : q ≠ n := by simpa using h2
      omega
    have h3 : l.length ≤ (l.filter (· != n)).length + 1 := by
      clear ih h
      induction l with
      | nil => exact Nat.zero_le _
      | cons a l ih =>
        rw [List.nodup_cons] at nd
        by_cases c : a = n
        · subst c
          rw [List.filter_cons_of_neg (by simp)]
          have : l.filter (· != a) = l := List.filter_eq_self.mpr fun q hq => by
            have : q ≠ a := fun e => nd.1 (e ▸ hq)
            simp [this]
          rw [this, List.length_cons]
          exact Nat.le_refl _
        · rw [List.filter_cons_of_pos (by simp [c]), List.length_cons, List.length_cons]
          have := ih nd.2
          omega
    omega
theorem marksOf_nodup {x : Message} (W : x.marks.Nodup) (k : Nat) : (marksOf x k).Nodup := by
  unfold marksOf
  have h := List.filter_sublist (p := fun m : Nat × Nat => m.2 == k) (l := x.marks) |>.nodup W
  have h2 : ∀ m ∈ x.marks.filter (fun m => m.2 == k), m.2 = k := fun m hm => by simpa using (List.mem_filter.mp hm).2
  generalize x.marks.filter (fun m => m.2 == k) = l at h h2
  induction l with
  | nil => exact List.nodup_nil
  | cons a l ih =>
    rw [List.nodup_cons] at h
    rw [List.map_cons, List.nodup_cons]
    refine ⟨fun z => h.1 ?_, ih h.2 fun m hm => h2 m (List.mem_cons_of_mem _ hm)⟩
    obtain ⟨b, hb, e⟩ := List.mem_map.mp z
    have e2 : b = a := Prod.ext e (by rw [h2 b (List.mem_cons_of_mem _ hb), h2 a List.mem_cons_self])
    exact e2 ▸ hb
theorem marksOf_mem {x : Message} {p k : Nat} : p ∈ marksOf x k ↔ (p, k) ∈ x.marks := by
  unfold marksOf
  rw [List.mem_map]
  constructor
  · rintro ⟨m, hm, rfl⟩
    have h := List.mem_filter.mp hm
    have e : m.2 = k := by simpa using h.2
    subst e
    exact h.1
  · intro h
    exact ⟨(p, k), List.mem_filter.mpr ⟨h, by simp⟩, rfl⟩
theorem marksOf_few {x : Message} (W : WfMsg x) (k : Nat) : (marksOf x k).length ≤ 16 :=
  nodup_below 16 _ (marksOf_nodup W.nd k) fun q hq => W.who (q, k) (marksOf_mem.mp hq)
theorem marksOf_add (x : Message) (p j k : Nat) : marksOf { x with marks := x.marks ++ [(p, j)] } k = if k = j then marksOf x k ++ [p] else marksOf x k := by
  unfold marksOf
  show ((x.marks ++ [(p, j)]).filter _).map _ = _
  rw [List.filter_append, List.map_append]
  by_cases c : k = j
  · subst c
    rw [if_pos rfl]
    simp
  · have : ¬ j = k := fun e => c e.symm
    rw [if_neg c]
    simp [this]
theorem marksOf_drop (x : Message) (p j k : Nat) : marksOf { x with marks := x.marks.filter (· != (p, j)) } k = if k = j then (marksOf x k).filter (· != p) else marksOf x k := by
  unfold marksOf
  show ((x.marks.filter (· != (p, j))).filter _).map _ = _
  induction x.marks with
  | nil => simp
  | cons a l ih =>
    obtain ⟨q, i⟩ := a
    by_cases c : k = j
    · subst c
      rw [if_pos rfl] at ih ⊢
      by_cases hi : i = k
      · subst hi
        by_cases hq : q = p
        · subst hq
          rw [List.filter_cons_of_neg (by simp), ih, List.filter_cons_of_pos (by simp), List.map_cons, List.filter_cons_of_neg (by simp)]
        · rw [List.filter_cons_of_pos (by simp [hq]), List.filter_cons_of_pos (by simp), List.map_cons, ih, List.filter_cons_of_pos (by simp), List.map_cons, List.filter_cons_of_pos (by simp [hq])]
      · rw [List.filter_cons_of_pos (by simp [hi]), List.filter_cons_of_neg (by simp [hi]), ih, List.filter_cons_of_neg (by simp [hi])]
    · rw [if_neg c] at ih ⊢
      by_cases hi : i = k
      · subst hi
        rw [List.filter_cons_of_pos (by simp [c]), List.filter_cons_of_pos (by simp), List.map_cons, ih, List.filter_cons_of_pos (by simp), List.map_cons]
      · rw [List.filter_cons_of_neg (p := fun m : Nat × Nat => m.2 == k) (a := (q, i)) (by simp [hi])]
        by_cases hq : (q, i) = (p, j)
        · rw [List.filter_cons_of_neg (by simp [hq]), ih]
        · rw [List.filter_cons_of_pos (by simpa using hq), List.filter_cons_of_neg (by simp [hi]), ih]
/-- the first place of p, and the list without it -/
theorem first_at : ∀ {l : List Nat} {p : Nat}, l.Nodup → p ∈ l → ∃ j, l[j]? = some p ∧ (∀ m : Nat, m < j → l[m]? ≠ some p) ∧ l.eraseIdx j = l.filter (· != p)
  | [], p, _, h => by cases h
  | a :: l, p, nd, h => by
    rw [List.nodup_cons] at nd
    by_cases c : a = p
    · subst c
      refine ⟨0, rfl, fun m hm => absurd hm (Nat.not_lt_zero _), ?_⟩
      rw [List.filter_cons_of_neg (by simp)]
      show l = _
      exact (List.filter_eq_self.mpr fun q hq => by
        have : q ≠ a := fun e => nd.1 (e ▸ hq)
        simp [this]).symm
    · have h' : p ∈ l := by
        rcases List.mem_cons.mp h with e | e
        · exact absurd e.symm c
        · exact e
      obtain ⟨j, h1, h2, h3⟩ := first_at nd.2 h'
      refine ⟨j + 1, h1, fun m hm => ?_, ?_⟩
      · cases m with
        | zero =>
          intro e
          have : a = p := by simpa using e
          exact c this
        | succ m => exact h2 m (by omega)
      · rw [List.filter_cons_of_pos (by simp [c]), ← h3]
        rfl
theorem WfMsg.add {x : Message} (W : WfMsg x) {p j : Nat} (hp : p < 16) (h : x.marks.contains (p, j) = false) : WfMsg { x with marks := x.marks ++ [(p, j)] } := by
  refine ⟨?_, fun m hm => ?_, W.txt⟩
  · show (x.marks ++ [(p, j)]).Nodup
    rw [List.nodup_append]
    refine ⟨W.nd, by simp, fun a ha b hb e => ?_⟩
    have hb' : b = (p, j) := by simpa using hb
    subst e hb'
    have : x.marks.contains (p, j) = true := by simpa using ha
    rw [h] at this
    cases this
  · have hm' : m ∈ x.marks ++ [(p, j)] := hm
    rcases List.mem_append.mp hm' with h1 | h1
    · exact W.who m h1
    · have : m = (p, j) := by simpa using h1
      rw [this]
      exact hp
theorem WfMsg.drop {x : Message} (W : WfMsg x) (p j : Nat) : WfMsg { x with marks := x.marks.filter (· != (p, j)) } :=
  ⟨List.filter_sublist.nodup W.nd, fun m hm => W.who m (List.mem_filter.mp hm).1, W.txt⟩
end TR
namespace TR
open PySem PySem.Spec PyProof.Rows L2
/-! ### regions: roles, where they lie (a), what stands there (c) -/
section
variable {R : Type} {H H' H1 H2 : Hp} {a a' a1 a2 : R → Addr} {c c' c1 c2 : R → Option HO}
structure Reg (H : Hp) (a : R → Addr) (c : R → Option HO) : Prop where
  at_ : ∀ x o, c x = some o → H (a x) = some o
  inj : ∀ x y o o', c x = some o → c y = some o' → a x = a y → x = y
def Own (a : R → Addr) (c : R → Option HO) (b : Addr) : Prop := ∃ x o, c x = some o ∧ a x = b
/-- what is outside stays; what is new was free -/
structure Frm (H : Hp) (a : R → Addr) (c : R → Option HO) (H' : Hp) (a' : R → Addr) (c' : R → Option HO) : Prop where
  keep : ∀ b o, H b = some o → ¬ Own a c b → H' b = some o
  new : ∀ b, Own a' c' b → Own a c b ∨ H b = none
theorem Frm.out (F : Frm H a c H' a' c') {b : Addr} {o : HO} (h : H b = some o) (n : ¬ Own a c b) : H' b = some o ∧ ¬ Own a' c' b :=
  ⟨F.keep b o h n, fun z => by
    rcases F.new b z with q | q
    · exact n q
    · rw [h] at q
      cases q⟩
theorem Frm.refl : Frm H a c H a c := ⟨fun _ _ h _ => h, fun _ h => .inl h⟩
theorem Frm.trans (F : Frm H a c H1 a1 c1) (G : Frm H1 a1 c1 H2 a2 c2) : Frm H a c H2 a2 c2 := by
  refine ⟨fun b o h n => ?_, fun b z => ?_⟩
  · have := F.out h n
    exact G.keep b o this.1 this.2
  · rcases G.new b z with q | q
    · exact F.new b q
    · cases h : H b with
      | none => exact .inr rfl
      | some o =>
        refine .inl (Classical.byContradiction fun n => ?_)
        rw [F.keep b o h n] at q
        cases q
/-- fewer roles -/
theorem Reg.mono (G : Reg H a c) (h : ∀ x o, c' x = some o → c x = some o) : Reg H a c' := ⟨fun x o e => G.at_ x o (h x o e), fun x y o o' e e' q => G.inj x y o o' (h x o e) (h y o' e') q⟩
theorem Frm.mono (h : ∀ x o, c' x = some o → c x = some o) : Frm H a c H a c' := ⟨fun _ _ h _ => h, fun b ⟨x, o, e, q⟩ => .inl ⟨x, o, h x o e, q⟩⟩
/-- another telling of the same -/
theorem Reg.tell (G : Reg H a c) (h : ∀ x o, c' x = some o → c x = some o ∧ a' x = a x) : Reg H a' c' := ⟨fun x o e => by rw [(h x o e).2]; exact G.at_ x o (h x o e).1, fun x y o o' e e' q => G.inj x y o o' (h x o e).1 (h y o' e').1 (by rw [(h x o e).2, (h y o' e').2] at q; exact q)⟩
theorem Frm.tell (F : Frm H a c H1 a1 c1) (h : ∀ x o, c' x = some o → (∃ o1, c1 x = some o1) ∧ a' x = a1 x) : Frm H a c H1 a' c' := ⟨F.keep, fun b ⟨x, o, e, q⟩ => by
  obtain ⟨⟨o1, e1⟩, e2⟩ := h x o e
  exact F.new b ⟨x, o1, e1, by rw [← e2]; exact q⟩⟩
/-- what stands at a free place is outside -/
theorem Reg.free (G : Reg H a c) {b : Addr} (h : H b = none) : ¬ Own a c b := fun ⟨x, o, e, q⟩ => by
  have := G.at_ x o e
  rw [q, h] at this
  cases this
/-- all that stood stands -/
theorem Reg.same (G : Reg H a c) (h : ∀ x o, c x = some o → H (a x) = some o → H' (a x) = some o) : Reg H' a c := ⟨fun x o e => h x o e (G.at_ x o e), G.inj⟩
theorem Frm.same (h : ∀ b o, H b = some o → ¬ Own a c b → H' b = some o) : Frm H a c H' a c := ⟨h, fun _ z => .inl z⟩
variable [DecidableEq R]
def setF {β : Type} (g : R → β) (x : R) (v : β) : R → β := fun y => if y = x then v else g y
theorem setF_same {β : Type} {g : R → β} {x : R} {v : β} : setF g x v x = v := if_pos rfl
theorem setF_ne {β : Type} {g : R → β} {x y : R} {v : β} (h : y ≠ x) : setF g x v y = g y := if_neg h
/-- a role's content is changed -/
theorem Reg.alter (G : Reg H a c) {x : R} {o o' : HO} (h : c x = some o) : Reg (upd H (a x) o') a (setF c x (some o')) := by
  refine ⟨fun y u e => ?_, fun y z u u' e e' q => ?_⟩
  · by_cases hy : y = x
    · subst hy
      rw [setF_same] at e
      cases e
      exact upd_same
    · rw [setF_ne hy] at e
      rw [upd_ne (fun q => hy (G.inj y x u o e h q))]
      exact G.at_ y u e
  · have live : ∀ w v, setF c x (some o') w = some v → ∃ v', c w = some v' := fun w v e => by
      by_cases hw : w = x
      · subst hw
        exact ⟨o, h⟩
      · rw [setF_ne hw] at e
        exact ⟨v, e⟩
    obtain ⟨v, hv⟩ := live y u e
    obtain ⟨v', hv'⟩ := live z u' e'
    exact G.inj y z v v' hv hv' q
theorem Frm.alter {x : R} {o o' : HO} (h : c x = some o) : Frm H a c (upd H (a x) o') a (setF c x (some o')) := by
  refine ⟨fun b u e n => ?_, fun b ⟨y, u, e, q⟩ => .inl ?_⟩
  · rw [upd_ne (fun q => n ⟨x, o, h, q.symm⟩)]
    exact e
  · by_cases hy : y = x
    · subst hy
      exact ⟨y, o, h, q⟩
    · rw [setF_ne hy] at e
      exact ⟨y, u, e, q⟩
/-- a role is laid at a place outside, at which its content stands -/
theorem Reg.lay (G : Reg H a c) {x : R} {p : Addr} {o : HO} (h : H p = some o) (n : ¬ Own a c p) : Reg H (setF a x p) (setF c x (some o)) := by
  refine ⟨fun y u e => ?_, fun y z u u' e e' q => ?_⟩
  · by_cases hy : y = x
    · subst hy
      rw [setF_same] at e
      cases e
      rw [setF_same]
      exact h
    · rw [setF_ne hy] at e ⊢
      exact G.at_ y u e
  · by_cases hy : y = x
    · by_cases hz : z = x
      · rw [hy, hz]
      · rw [setF_ne hz] at e' q
        rw [hy, setF_same] at q
        exact absurd ⟨z, u', e', q.symm⟩ n
    · by_cases hz : z = x
      · rw [setF_ne hy] at e q
        rw [hz, setF_same] at q
        exact absurd ⟨y, u, e, q⟩ n
      · rw [setF_ne hy] at e q
        rw [setF_ne hz] at e' q
        exact G.inj y z u u' e e' q
theorem Own.lay {x : R} {p b : Addr} {o : HO} (h : Own (setF a x p) (setF c x (some o)) b) : Own a c b ∨ b = p := by
  obtain ⟨y, u, e, q⟩ := h
  by_cases hy : y = x
  · subst hy
    rw [setF_same] at q
    exact .inr q.symm
  · rw [setF_ne hy] at e q
    exact .inl ⟨y, u, e, q⟩
end
end TR
namespace TR
open PySem PySem.Spec PyProof.Rows L2
/-! ### printed by ties.py from the linked text: places, scopes, the facts of the top -/
def topS (i : Nat) : Stmt := PySem.Challenge.pw_talkrooms_s01_answers.main.body.getD i (.Pass ⟨0, 0, 0, 0⟩)
abbrev s_is_text : Stmt := topS 12
abbrev N_is_text : List Str := ["text", "byte"]
theorem sc_is_text : FnScope N_is_text ["text"] (defScope s_is_text) := ⟨rfl, rfl, rfl, by decide +kernel, rfl, by decide +kernel, by decide +kernel⟩
abbrev s_is_word : Stmt := topS 13
abbrev N_is_word : List Str := ["word", "byte"]
theorem sc_is_word : FnScope N_is_word ["word"] (defScope s_is_word) := ⟨rfl, rfl, rfl, by decide +kernel, rfl, by decide +kernel, by decide +kernel⟩
abbrev s_small : Stmt := topS 14
abbrev N_small : List Str := ["byte"]
theorem sc_small : FnScope N_small ["byte"] (defScope s_small) := ⟨rfl, rfl, rfl, by decide +kernel, rfl, by decide +kernel, by decide +kernel⟩
abbrev s_is_of_words : Stmt := topS 15
abbrev N_is_of_words : List Str := ["byte"]
theorem sc_is_of_words : FnScope N_is_of_words ["byte"] (defScope s_is_of_words) := ⟨rfl, rfl, rfl, by decide +kernel, rfl, by decide +kernel, by decide +kernel⟩
abbrev s_word_key : Stmt := topS 16
abbrev N_word_key : List Str := ["word", "byte"]
theorem sc_word_key : FnScope N_word_key ["word"] (defScope s_word_key) := ⟨rfl, rfl, rfl, by decide +kernel, rfl, by decide +kernel, by decide +kernel⟩
abbrev s_words_of : Stmt := topS 17
abbrev N_words_of : List Str := ["text", "words", "row", "byte", "letter"]
theorem sc_words_of : FnScope N_words_of ["text"] (defScope s_words_of) := ⟨rfl, rfl, rfl, by decide +kernel, rfl, by decide +kernel, by decide +kernel⟩
abbrev s_kth_room : Stmt := topS 19
abbrev N_kth_room : List Str := ["house", "p", "k", "theirs", "row"]
theorem sc_kth_room : FnScope N_kth_room ["house", "p", "k"] (defScope s_kth_room) := ⟨rfl, rfl, rfl, by decide +kernel, rfl, by decide +kernel, by decide +kernel⟩
abbrev s_standing_in : Stmt := topS 20
abbrev N_standing_in : List Str := ["room", "p"]
theorem sc_standing_in : FnScope N_standing_in ["room", "p"] (defScope s_standing_in) := ⟨rfl, rfl, rfl, by decide +kernel, rfl, by decide +kernel, by decide +kernel⟩
abbrev s_kth_person : Stmt := topS 21
abbrev N_kth_person : List Str := ["room", "k", "member"]
theorem sc_kth_person : FnScope N_kth_person ["room", "k"] (defScope s_kth_person) := ⟨rfl, rfl, rfl, by decide +kernel, rfl, by decide +kernel, by decide +kernel⟩
abbrev s_kth_found : Stmt := topS 22
abbrev N_kth_found : List Str := ["house", "p", "word", "k", "key", "left", "founder", "number", "room", "hits"]
theorem sc_kth_found : FnScope N_kth_found ["house", "p", "word", "k"] (defScope s_kth_found) := ⟨rfl, rfl, rfl, by decide +kernel, rfl, by decide +kernel, by decide +kernel⟩
abbrev s_seen_with_word : Stmt := topS 23
abbrev N_seen_with_word : List Str := ["room", "p", "key", "member", "messages", "m"]
theorem sc_seen_with_word : FnScope N_seen_with_word ["room", "p", "key"] (defScope s_seen_with_word) := ⟨rfl, rfl, rfl, by decide +kernel, rfl, by decide +kernel, by decide +kernel⟩
abbrev s_Message_init : Stmt := inClass (topS 33) 0
abbrev N_Message_init : List Str := ["self", "who", "text", "answered", "kind"]
theorem sc_Message_init : FnScope N_Message_init ["self", "who", "text", "answered"] (defScope s_Message_init) := ⟨rfl, rfl, rfl, by decide +kernel, rfl, by decide +kernel, by decide +kernel⟩
abbrev s_Message_put_text : Stmt := inClass (topS 33) 1
abbrev N_Message_put_text : List Str := ["self", "text"]
theorem sc_Message_put_text : FnScope N_Message_put_text ["self", "text"] (defScope s_Message_put_text) := ⟨rfl, rfl, rfl, by decide +kernel, rfl, by decide +kernel, by decide +kernel⟩
abbrev s_Message_take_away : Stmt := inClass (topS 33) 2
abbrev N_Message_take_away : List Str := ["self", "kind"]
theorem sc_Message_take_away : FnScope N_Message_take_away ["self"] (defScope s_Message_take_away) := ⟨rfl, rfl, rfl, by decide +kernel, rfl, by decide +kernel, by decide +kernel⟩
abbrev s_Member_init : Stmt := inClass (topS 34) 0
abbrev N_Member_init : List Str := ["self", "who", "keeper", "first"]
theorem sc_Member_init : FnScope N_Member_init ["self", "who", "keeper", "first"] (defScope s_Member_init) := ⟨rfl, rfl, rfl, by decide +kernel, rfl, by decide +kernel, by decide +kernel⟩
abbrev s_Room_init : Stmt := inClass (topS 35) 0
abbrev N_Room_init : List Str := ["self", "past"]
theorem sc_Room_init : FnScope N_Room_init ["self", "past"] (defScope s_Room_init) := ⟨rfl, rfl, rfl, by decide +kernel, rfl, by decide +kernel, by decide +kernel⟩
abbrev s_Room_find_member : Stmt := inClass (topS 35) 1
abbrev N_Room_find_member : List Str := ["self", "p", "member"]
theorem sc_Room_find_member : FnScope N_Room_find_member ["self", "p"] (defScope s_Room_find_member) := ⟨rfl, rfl, rfl, by decide +kernel, rfl, by decide +kernel, by decide +kernel⟩
abbrev s_Room_is_keeper : Stmt := inClass (topS 35) 2
abbrev N_Room_is_keeper : List Str := ["self", "p", "member"]
theorem sc_Room_is_keeper : FnScope N_Room_is_keeper ["self", "p"] (defScope s_Room_is_keeper) := ⟨rfl, rfl, rfl, by decide +kernel, rfl, by decide +kernel, by decide +kernel⟩
abbrev s_Room_is_invited : Stmt := inClass (topS 35) 3
abbrev N_Room_is_invited : List Str := ["self", "p"]
theorem sc_Room_is_invited : FnScope N_Room_is_invited ["self", "p"] (defScope s_Room_is_invited) := ⟨rfl, rfl, rfl, by decide +kernel, rfl, by decide +kernel, by decide +kernel⟩
abbrev s_Room_has_or_awaits : Stmt := inClass (topS 35) 4
abbrev N_Room_has_or_awaits : List Str := ["self", "p"]
theorem sc_Room_has_or_awaits : FnScope N_Room_has_or_awaits ["self", "p"] (defScope s_Room_has_or_awaits) := ⟨rfl, rfl, rfl, by decide +kernel, rfl, by decide +kernel, by decide +kernel⟩
abbrev s_Room_enter : Stmt := inClass (topS 35) 5
abbrev N_Room_enter : List Str := ["self", "p", "first", "keeper"]
theorem sc_Room_enter : FnScope N_Room_enter ["self", "p"] (defScope s_Room_enter) := ⟨rfl, rfl, rfl, by decide +kernel, rfl, by decide +kernel, by decide +kernel⟩
abbrev s_Room_forget : Stmt := inClass (topS 35) 6
abbrev N_Room_forget : List Str := ["self", "p", "member", "who"]
theorem sc_Room_forget : FnScope N_Room_forget ["self", "p"] (defScope s_Room_forget) := ⟨rfl, rfl, rfl, by decide +kernel, rfl, by decide +kernel, by decide +kernel⟩
abbrev s_Room_seen_message : Stmt := inClass (topS 35) 7
abbrev N_Room_seen_message : List Str := ["self", "p", "m"]
theorem sc_Room_seen_message : FnScope N_Room_seen_message ["self", "p", "m"] (defScope s_Room_seen_message) := ⟨rfl, rfl, rfl, by decide +kernel, rfl, by decide +kernel, by decide +kernel⟩
abbrev s_Room_standing_message : Stmt := inClass (topS 35) 8
abbrev N_Room_standing_message : List Str := ["self", "p", "m", "message"]
theorem sc_Room_standing_message : FnScope N_Room_standing_message ["self", "p", "m"] (defScope s_Room_standing_message) := ⟨rfl, rfl, rfl, by decide +kernel, rfl, by decide +kernel, by decide +kernel⟩
abbrev s_House_init : Stmt := inClass (topS 36) 0
abbrev N_House_init : List Str := ["self"]
theorem sc_House_init : FnScope N_House_init ["self"] (defScope s_House_init) := ⟨rfl, rfl, rfl, by decide +kernel, rfl, by decide +kernel, by decide +kernel⟩
abbrev s_House_begin : Stmt := inClass (topS 36) 1
abbrev N_House_begin : List Str := ["self", "founder"]
theorem sc_House_begin : FnScope N_House_begin ["self"] (defScope s_House_begin) := ⟨rfl, rfl, rfl, by decide +kernel, rfl, by decide +kernel, by decide +kernel⟩
abbrev s_House_find_room : Stmt := inClass (topS 36) 2
abbrev N_House_find_room : List Str := ["self", "founder", "number"]
theorem sc_House_find_room : FnScope N_House_find_room ["self", "founder", "number"] (defScope s_House_find_room) := ⟨rfl, rfl, rfl, by decide +kernel, rfl, by decide +kernel, by decide +kernel⟩
abbrev s_House_all_rooms : Stmt := inClass (topS 36) 3
abbrev N_House_all_rooms : List Str := ["self", "rows", "founder", "theirs", "number", "room"]
theorem sc_House_all_rooms : FnScope N_House_all_rooms ["self"] (defScope s_House_all_rooms) := ⟨rfl, rfl, rfl, by decide +kernel, rfl, by decide +kernel, by decide +kernel⟩
abbrev s_found : Stmt := topS 40
abbrev N_found : List Str := ["house", "p", "past", "mine", "room"]
theorem sc_found : FnScope N_found ["house", "p", "past"] (defScope s_found) := ⟨rfl, rfl, rfl, by decide +kernel, rfl, by decide +kernel, by decide +kernel⟩
abbrev s_invite : Stmt := topS 41
abbrev N_invite : List Str := ["room", "p", "q"]
theorem sc_invite : FnScope N_invite ["room", "p", "q"] (defScope s_invite) := ⟨rfl, rfl, rfl, by decide +kernel, rfl, by decide +kernel, by decide +kernel⟩
abbrev s_join : Stmt := topS 42
abbrev N_join : List Str := ["room", "p"]
theorem sc_join : FnScope N_join ["room", "p"] (defScope s_join) := ⟨rfl, rfl, rfl, by decide +kernel, rfl, by decide +kernel, by decide +kernel⟩
abbrev s_leave : Stmt := topS 43
abbrev N_leave : List Str := ["room", "p", "heir", "member"]
theorem sc_leave : FnScope N_leave ["room", "p"] (defScope s_leave) := ⟨rfl, rfl, rfl, by decide +kernel, rfl, by decide +kernel, by decide +kernel⟩
abbrev s_put_out : Stmt := topS 44
abbrev N_put_out : List Str := ["room", "p", "q"]
theorem sc_put_out : FnScope N_put_out ["room", "p", "q"] (defScope s_put_out) := ⟨rfl, rfl, rfl, by decide +kernel, rfl, by decide +kernel, by decide +kernel⟩
abbrev s_lift : Stmt := topS 45
abbrev N_lift : List Str := ["room", "p", "q", "member"]
theorem sc_lift : FnScope N_lift ["room", "p", "q"] (defScope s_lift) := ⟨rfl, rfl, rfl, by decide +kernel, rfl, by decide +kernel, by decide +kernel⟩
abbrev s_show_past : Stmt := topS 46
abbrev N_show_past : List Str := ["room", "p", "past"]
theorem sc_show_past : FnScope N_show_past ["room", "p", "past"] (defScope s_show_past) := ⟨rfl, rfl, rfl, by decide +kernel, rfl, by decide +kernel, by decide +kernel⟩
abbrev s_seen : Stmt := topS 48
abbrev N_seen : List Str := ["room", "p", "m", "member"]
theorem sc_seen : FnScope N_seen ["room", "p", "m"] (defScope s_seen) := ⟨rfl, rfl, rfl, by decide +kernel, rfl, by decide +kernel, by decide +kernel⟩
abbrev s_read : Stmt := topS 49
abbrev N_read : List Str := ["room", "p", "m", "message", "counts", "gone", "markers"]
theorem sc_read : FnScope N_read ["room", "p", "m"] (defScope s_read) := ⟨rfl, rfl, rfl, by decide +kernel, rfl, by decide +kernel, by decide +kernel⟩
abbrev s_unread : Stmt := topS 50
abbrev N_unread : List Str := ["room", "p", "behind", "message"]
theorem sc_unread : FnScope N_unread ["room", "p"] (defScope s_unread) := ⟨rfl, rfl, rfl, by decide +kernel, rfl, by decide +kernel, by decide +kernel⟩
abbrev s_say : Stmt := topS 54
abbrev N_say : List Str := ["room", "p", "answered", "text"]
theorem sc_say : FnScope N_say ["room", "p", "answered", "text"] (defScope s_say) := ⟨rfl, rfl, rfl, by decide +kernel, rfl, by decide +kernel, by decide +kernel⟩
abbrev s_change : Stmt := topS 55
abbrev N_change : List Str := ["room", "p", "m", "text", "message"]
theorem sc_change : FnScope N_change ["room", "p", "m", "text"] (defScope s_change) := ⟨rfl, rfl, rfl, by decide +kernel, rfl, by decide +kernel, by decide +kernel⟩
abbrev s_remove : Stmt := topS 56
abbrev N_remove : List Str := ["room", "p", "m", "message"]
theorem sc_remove : FnScope N_remove ["room", "p", "m"] (defScope s_remove) := ⟨rfl, rfl, rfl, by decide +kernel, rfl, by decide +kernel, by decide +kernel⟩
abbrev s_mark : Stmt := topS 57
abbrev N_mark : List Str := ["room", "p", "m", "kind", "message", "markers"]
theorem sc_mark : FnScope N_mark ["room", "p", "m", "kind"] (defScope s_mark) := ⟨rfl, rfl, rfl, by decide +kernel, rfl, by decide +kernel, by decide +kernel⟩
abbrev s_answers : Stmt := topS 77
abbrev N_answers : List Str := ["calls", "house", "told", "place", "call", "behind", "given", "row", "answer"]
theorem sc_answers : FnScope N_answers ["calls"] (defScope s_answers) := ⟨rfl, rfl, rfl, by decide +kernel, rfl, by decide +kernel, by decide +kernel⟩
abbrev s_answer_to : Stmt := topS 78
abbrev N_answer_to : List Str := ["house", "call", "given", "row"]
theorem sc_answer_to : FnScope N_answer_to ["house", "call", "given", "row"] (defScope s_answer_to) := ⟨rfl, rfl, rfl, by decide +kernel, rfl, by decide +kernel, by decide +kernel⟩
abbrev s_is_invalid : Stmt := topS 79
abbrev N_is_invalid : List Str := ["call", "given", "row"]
theorem sc_is_invalid : FnScope N_is_invalid ["call", "given", "row"] (defScope s_is_invalid) := ⟨rfl, rfl, rfl, by decide +kernel, rfl, by decide +kernel, by decide +kernel⟩
abbrev s_answer_in_room : Stmt := topS 80
abbrev N_answer_in_room : List Str := ["house", "call", "given", "row", "p", "room"]
theorem sc_answer_in_room : FnScope N_answer_in_room ["house", "call", "given", "row"] (defScope s_answer_in_room) := ⟨rfl, rfl, rfl, by decide +kernel, rfl, by decide +kernel, by decide +kernel⟩
abbrev s_answer_of_keeper : Stmt := topS 81
abbrev N_answer_of_keeper : List Str := ["room", "call", "p", "value"]
theorem sc_answer_of_keeper : FnScope N_answer_of_keeper ["room", "call", "p", "value"] (defScope s_answer_of_keeper) := ⟨rfl, rfl, rfl, by decide +kernel, rfl, by decide +kernel, by decide +kernel⟩
abbrev s_answer_on_message : Stmt := topS 82
abbrev N_answer_on_message : List Str := ["room", "call", "p", "m", "row"]
theorem sc_answer_on_message : FnScope N_answer_on_message ["room", "call", "p", "m", "row"] (defScope s_answer_on_message) := ⟨rfl, rfl, rfl, by decide +kernel, rfl, by decide +kernel, by decide +kernel⟩
/-- where the classes, the defs and the tuples of the top lie; the numbers' tokens -/
structure Ad where
  Message : Addr
  Member : Addr
  Room : Addr
  House : Addr
  is_text : Addr
  is_word : Addr
  small : Addr
  is_of_words : Addr
  word_key : Addr
  words_of : Addr
  kth_room : Addr
  standing_in : Addr
  kth_person : Addr
  kth_found : Addr
  seen_with_word : Addr
  Message_init : Addr
  Message_put_text : Addr
  Message_take_away : Addr
  Member_init : Addr
  Room_init : Addr
  Room_find_member : Addr
  Room_is_keeper : Addr
  Room_is_invited : Addr
  Room_has_or_awaits : Addr
  Room_enter : Addr
  Room_forget : Addr
  Room_seen_message : Addr
  Room_standing_message : Addr
  House_init : Addr
  House_begin : Addr
  House_find_room : Addr
  House_all_rooms : Addr
  found : Addr
  invite : Addr
  join : Addr
  leave : Addr
  put_out : Addr
  lift : Addr
  show_past : Addr
  seen : Addr
  read : Addr
  unread : Addr
  say : Addr
  change : Addr
  remove : Addr
  mark : Addr
  answers : Addr
  answer_to : Addr
  is_invalid : Addr
  answer_in_room : Addr
  answer_of_keeper : Addr
  answer_on_message : Addr
  NUMBERS : Addr
  t_LONGEST_TEXT : Tok
  t_LONGEST_WORD : Tok
  t_BLANK : Tok
  t_FIRST_BYTE : Tok
  t_LAST_BYTE : Tok
  t_DIGIT_0 : Tok
  t_DIGIT_9 : Tok
  t_CAPITAL_A : Tok
  t_CAPITAL_Z : Tok
  t_SMALL_A : Tok
  t_SMALL_Z : Tok
  t_NOT_ALLOWED : Tok
  t_UNKNOWN_ROOM : Tok
  t_ALREADY_SO : Tok
  t_INVALID : Tok
  t_FULL : Tok
  t_NOT_THERE : Tok
  t_PEOPLE : Tok
  t_KINDS : Tok
  t_ROOMS_OF_ONE_FOUNDER : Tok
  t_PLACES : Tok
  t_MOST_MESSAGES : Tok
  t_MOST_CHANGES : Tok
  t_BEGIN : Tok
  t_FOUND : Tok
  t_INVITE : Tok
  t_JOIN : Tok
  t_LEAVE : Tok
  t_OUT : Tok
  t_LIFT : Tok
  t_PAST : Tok
  t_SAY : Tok
  t_CHANGE : Tok
  t_REMOVE : Tok
  t_MARK : Tok
  t_READ : Tok
  t_UNREAD : Tok
  t_KTH_ROOM : Tok
  t_KTH_PERSON : Tok
  t_FIND : Tok
structure Txt (K : PySem.W.Frag) (mg : Str → Option Value) (A : Ad) : Prop where
  cl_Message : Cls K A.Message
  mk_Message : Mk K A.Message A.Message_init
  g_Message : mg "Message" = some (.ref A.Message)
  na_Message_who : NoAttr K A.Message "who"
  na_Message_answered : NoAttr K A.Message "answered"
  na_Message_changes : NoAttr K A.Message "changes"
  na_Message_gone : NoAttr K A.Message "gone"
  na_Message_text : NoAttr K A.Message "text"
  na_Message_words : NoAttr K A.Message "words"
  na_Message_marks : NoAttr K A.Message "marks"
  me_Message_put_text : Meth K A.Message "put_text" A.Message_put_text
  me_Message_take_away : Meth K A.Message "take_away" A.Message_take_away
  cl_Member : Cls K A.Member
  mk_Member : Mk K A.Member A.Member_init
  g_Member : mg "Member" = some (.ref A.Member)
  na_Member_who : NoAttr K A.Member "who"
  na_Member_keeper : NoAttr K A.Member "keeper"
  na_Member_first : NoAttr K A.Member "first"
  na_Member_read : NoAttr K A.Member "read"
  cl_Room : Cls K A.Room
  mk_Room : Mk K A.Room A.Room_init
  g_Room : mg "Room" = some (.ref A.Room)
  na_Room_past : NoAttr K A.Room "past"
  na_Room_members : NoAttr K A.Room "members"
  na_Room_invited : NoAttr K A.Room "invited"
  na_Room_messages : NoAttr K A.Room "messages"
  me_Room_find_member : Meth K A.Room "find_member" A.Room_find_member
  me_Room_is_keeper : Meth K A.Room "is_keeper" A.Room_is_keeper
  me_Room_is_invited : Meth K A.Room "is_invited" A.Room_is_invited
  me_Room_has_or_awaits : Meth K A.Room "has_or_awaits" A.Room_has_or_awaits
  me_Room_enter : Meth K A.Room "enter" A.Room_enter
  me_Room_forget : Meth K A.Room "forget" A.Room_forget
  me_Room_seen_message : Meth K A.Room "seen_message" A.Room_seen_message
  me_Room_standing_message : Meth K A.Room "standing_message" A.Room_standing_message
  cl_House : Cls K A.House
  mk_House : Mk K A.House A.House_init
  g_House : mg "House" = some (.ref A.House)
  na_House_founded : NoAttr K A.House "founded"
  me_House_begin : Meth K A.House "begin" A.House_begin
  me_House_find_room : Meth K A.House "find_room" A.House_find_room
  me_House_all_rooms : Meth K A.House "all_rooms" A.House_all_rooms
  g_is_text : mg "is_text" = some (.ref A.is_text)
  g_is_word : mg "is_word" = some (.ref A.is_word)
  g_small : mg "small" = some (.ref A.small)
  g_is_of_words : mg "is_of_words" = some (.ref A.is_of_words)
  g_word_key : mg "word_key" = some (.ref A.word_key)
  g_words_of : mg "words_of" = some (.ref A.words_of)
  g_kth_room : mg "kth_room" = some (.ref A.kth_room)
  g_standing_in : mg "standing_in" = some (.ref A.standing_in)
  g_kth_person : mg "kth_person" = some (.ref A.kth_person)
  g_kth_found : mg "kth_found" = some (.ref A.kth_found)
  g_seen_with_word : mg "seen_with_word" = some (.ref A.seen_with_word)
  g_found : mg "found" = some (.ref A.found)
  g_invite : mg "invite" = some (.ref A.invite)
  g_join : mg "join" = some (.ref A.join)
  g_leave : mg "leave" = some (.ref A.leave)
  g_put_out : mg "put_out" = some (.ref A.put_out)
  g_lift : mg "lift" = some (.ref A.lift)
  g_show_past : mg "show_past" = some (.ref A.show_past)
  g_seen : mg "seen" = some (.ref A.seen)
  g_read : mg "read" = some (.ref A.read)
  g_unread : mg "unread" = some (.ref A.unread)
  g_say : mg "say" = some (.ref A.say)
  g_change : mg "change" = some (.ref A.change)
  g_remove : mg "remove" = some (.ref A.remove)
  g_mark : mg "mark" = some (.ref A.mark)
  g_answers : mg "answers" = some (.ref A.answers)
  g_answer_to : mg "answer_to" = some (.ref A.answer_to)
  g_is_invalid : mg "is_invalid" = some (.ref A.is_invalid)
  g_answer_in_room : mg "answer_in_room" = some (.ref A.answer_in_room)
  g_answer_of_keeper : mg "answer_of_keeper" = some (.ref A.answer_of_keeper)
  g_answer_on_message : mg "answer_on_message" = some (.ref A.answer_on_message)
  g_LONGEST_TEXT : mg "LONGEST_TEXT" = some (.int (256) A.t_LONGEST_TEXT)
  g_LONGEST_WORD : mg "LONGEST_WORD" = some (.int (32) A.t_LONGEST_WORD)
  g_BLANK : mg "BLANK" = some (.int (32) A.t_BLANK)
  g_FIRST_BYTE : mg "FIRST_BYTE" = some (.int (32) A.t_FIRST_BYTE)
  g_LAST_BYTE : mg "LAST_BYTE" = some (.int (126) A.t_LAST_BYTE)
  g_DIGIT_0 : mg "DIGIT_0" = some (.int (48) A.t_DIGIT_0)
  g_DIGIT_9 : mg "DIGIT_9" = some (.int (57) A.t_DIGIT_9)
  g_CAPITAL_A : mg "CAPITAL_A" = some (.int (65) A.t_CAPITAL_A)
  g_CAPITAL_Z : mg "CAPITAL_Z" = some (.int (90) A.t_CAPITAL_Z)
  g_SMALL_A : mg "SMALL_A" = some (.int (97) A.t_SMALL_A)
  g_SMALL_Z : mg "SMALL_Z" = some (.int (122) A.t_SMALL_Z)
  g_NOT_ALLOWED : mg "NOT_ALLOWED" = some (.int (-1) A.t_NOT_ALLOWED)
  g_UNKNOWN_ROOM : mg "UNKNOWN_ROOM" = some (.int (-2) A.t_UNKNOWN_ROOM)
  g_ALREADY_SO : mg "ALREADY_SO" = some (.int (-17) A.t_ALREADY_SO)
  g_INVALID : mg "INVALID" = some (.int (-22) A.t_INVALID)
  g_FULL : mg "FULL" = some (.int (-28) A.t_FULL)
  g_NOT_THERE : mg "NOT_THERE" = some (.int (-61) A.t_NOT_THERE)
  g_PEOPLE : mg "PEOPLE" = some (.int (16) A.t_PEOPLE)
  g_KINDS : mg "KINDS" = some (.int (16) A.t_KINDS)
  g_ROOMS_OF_ONE_FOUNDER : mg "ROOMS_OF_ONE_FOUNDER" = some (.int (4) A.t_ROOMS_OF_ONE_FOUNDER)
  g_PLACES : mg "PLACES" = some (.int (12) A.t_PLACES)
  g_MOST_MESSAGES : mg "MOST_MESSAGES" = some (.int (128) A.t_MOST_MESSAGES)
  g_MOST_CHANGES : mg "MOST_CHANGES" = some (.int (255) A.t_MOST_CHANGES)
  g_BEGIN : mg "BEGIN" = some (.int (0) A.t_BEGIN)
  g_FOUND : mg "FOUND" = some (.int (1) A.t_FOUND)
  g_INVITE : mg "INVITE" = some (.int (2) A.t_INVITE)
  g_JOIN : mg "JOIN" = some (.int (3) A.t_JOIN)
  g_LEAVE : mg "LEAVE" = some (.int (4) A.t_LEAVE)
  g_OUT : mg "OUT" = some (.int (5) A.t_OUT)
  g_LIFT : mg "LIFT" = some (.int (6) A.t_LIFT)
  g_PAST : mg "PAST" = some (.int (7) A.t_PAST)
  g_SAY : mg "SAY" = some (.int (8) A.t_SAY)
  g_CHANGE : mg "CHANGE" = some (.int (9) A.t_CHANGE)
  g_REMOVE : mg "REMOVE" = some (.int (10) A.t_REMOVE)
  g_MARK : mg "MARK" = some (.int (11) A.t_MARK)
  g_READ : mg "READ" = some (.int (13) A.t_READ)
  g_UNREAD : mg "UNREAD" = some (.int (14) A.t_UNREAD)
  g_KTH_ROOM : mg "KTH_ROOM" = some (.int (15) A.t_KTH_ROOM)
  g_KTH_PERSON : mg "KTH_PERSON" = some (.int (16) A.t_KTH_PERSON)
  g_FIND : mg "FIND" = some (.int (17) A.t_FIND)
  g_NUMBERS : mg "NUMBERS" = some (.ref A.NUMBERS)
  q_NUMBERS : ∀ H : Hp, SqT K H A.NUMBERS (([0, 2, 4, 3, 3, 4, 4, 4, 4, 4, 4, 5, 4, 4, 3, 2, 4, 2] : List Int).map V.int)
  b_all : mg "all" = none
  b_any : mg "any" = none
  b_enumerate : mg "enumerate" = none
  b_len : mg "len" = none
  b_range : mg "range" = none
  b_tuple : mg "tuple" = none
  d_is_text : ∃ fd, Fun K "is_text" "is_text" s_is_text A.is_text fd
  d_is_word : ∃ fd, Fun K "is_word" "is_word" s_is_word A.is_word fd
  d_small : ∃ fd, Fun K "small" "small" s_small A.small fd
  d_is_of_words : ∃ fd, Fun K "is_of_words" "is_of_words" s_is_of_words A.is_of_words fd
  d_word_key : ∃ fd, Fun K "word_key" "word_key" s_word_key A.word_key fd
  d_words_of : ∃ fd, Fun K "words_of" "words_of" s_words_of A.words_of fd
  d_kth_room : ∃ fd, Fun K "kth_room" "kth_room" s_kth_room A.kth_room fd
  d_standing_in : ∃ fd, Fun K "standing_in" "standing_in" s_standing_in A.standing_in fd
  d_kth_person : ∃ fd, Fun K "kth_person" "kth_person" s_kth_person A.kth_person fd
  d_kth_found : ∃ fd, Fun K "kth_found" "kth_found" s_kth_found A.kth_found fd
  d_seen_with_word : ∃ fd, Fun K "seen_with_word" "seen_with_word" s_seen_with_word A.seen_with_word fd
  d_Message_init : ∃ fd, Fun K "__init__" "Message.__init__" s_Message_init A.Message_init fd
  d_Message_put_text : ∃ fd, Fun K "put_text" "Message.put_text" s_Message_put_text A.Message_put_text fd
  d_Message_take_away : ∃ fd, Fun K "take_away" "Message.take_away" s_Message_take_away A.Message_take_away fd
  d_Member_init : ∃ fd, Fun K "__init__" "Member.__init__" s_Member_init A.Member_init fd
  d_Room_init : ∃ fd, Fun K "__init__" "Room.__init__" s_Room_init A.Room_init fd
  d_Room_find_member : ∃ fd, Fun K "find_member" "Room.find_member" s_Room_find_member A.Room_find_member fd
  d_Room_is_keeper : ∃ fd, Fun K "is_keeper" "Room.is_keeper" s_Room_is_keeper A.Room_is_keeper fd
  d_Room_is_invited : ∃ fd, Fun K "is_invited" "Room.is_invited" s_Room_is_invited A.Room_is_invited fd
  d_Room_has_or_awaits : ∃ fd, Fun K "has_or_awaits" "Room.has_or_awaits" s_Room_has_or_awaits A.Room_has_or_awaits fd
  d_Room_enter : ∃ fd, Fun K "enter" "Room.enter" s_Room_enter A.Room_enter fd
  d_Room_forget : ∃ fd, Fun K "forget" "Room.forget" s_Room_forget A.Room_forget fd
  d_Room_seen_message : ∃ fd, Fun K "seen_message" "Room.seen_message" s_Room_seen_message A.Room_seen_message fd
  d_Room_standing_message : ∃ fd, Fun K "standing_message" "Room.standing_message" s_Room_standing_message A.Room_standing_message fd
  d_House_init : ∃ fd, Fun K "__init__" "House.__init__" s_House_init A.House_init fd
  d_House_begin : ∃ fd, Fun K "begin" "House.begin" s_House_begin A.House_begin fd
  d_House_find_room : ∃ fd, Fun K "find_room" "House.find_room" s_House_find_room A.House_find_room fd
  d_House_all_rooms : ∃ fd, Fun K "all_rooms" "House.all_rooms" s_House_all_rooms A.House_all_rooms fd
  d_found : ∃ fd, Fun K "found" "found" s_found A.found fd
  d_invite : ∃ fd, Fun K "invite" "invite" s_invite A.invite fd
  d_join : ∃ fd, Fun K "join" "join" s_join A.join fd
  d_leave : ∃ fd, Fun K "leave" "leave" s_leave A.leave fd
  d_put_out : ∃ fd, Fun K "put_out" "put_out" s_put_out A.put_out fd
  d_lift : ∃ fd, Fun K "lift" "lift" s_lift A.lift fd
  d_show_past : ∃ fd, Fun K "show_past" "show_past" s_show_past A.show_past fd
  d_seen : ∃ fd, Fun K "seen" "seen" s_seen A.seen fd
  d_read : ∃ fd, Fun K "read" "read" s_read A.read fd
  d_unread : ∃ fd, Fun K "unread" "unread" s_unread A.unread fd
  d_say : ∃ fd, Fun K "say" "say" s_say A.say fd
  d_change : ∃ fd, Fun K "change" "change" s_change A.change fd
  d_remove : ∃ fd, Fun K "remove" "remove" s_remove A.remove fd
  d_mark : ∃ fd, Fun K "mark" "mark" s_mark A.mark fd
  d_answers : ∃ fd, Fun K "answers" "answers" s_answers A.answers fd
  d_answer_to : ∃ fd, Fun K "answer_to" "answer_to" s_answer_to A.answer_to fd
  d_is_invalid : ∃ fd, Fun K "is_invalid" "is_invalid" s_is_invalid A.is_invalid fd
  d_answer_in_room : ∃ fd, Fun K "answer_in_room" "answer_in_room" s_answer_in_room A.answer_in_room fd
  d_answer_of_keeper : ∃ fd, Fun K "answer_of_keeper" "answer_of_keeper" s_answer_of_keeper A.answer_of_keeper fd
  d_answer_on_message : ∃ fd, Fun K "answer_on_message" "answer_on_message" s_answer_on_message A.answer_on_message fd
/-- a def keeps its promise, and how it is called -/
structure Ok (P : Program) (w : World) (K : PySem.W.Frag) (mg : Str → Option Value) (base : Heap) (k : Nat) (f : Addr) (ps : List Str) (sp : Sp) : Prop where
  ex : ∃ fd, FnOk P w K mg base CX0 k f fd ps sp ∧ Binds K fd ps []
  kp : PySem.W.keepIn K (.ref f) = true

end TR
namespace TR
open PySem PySem.Spec PyProof.Rows L2
/-! ### changes of a region, one behind another -/
section
variable {R : Type} {H H1 H2 : Hp} {a a1 a2 : R → Addr} {c c1 c2 : R → Option HO}
structure Ch (H : Hp) (a : R → Addr) (c : R → Option HO) (H1 : Hp) (a1 : R → Addr) (c1 : R → Option HO) : Prop where
  reg : Reg H1 a1 c1
  frm : Frm H a c H1 a1 c1
theorem Ch.start (G : Reg H a c) : Ch H a c H a c := ⟨G, Frm.refl⟩
theorem Ch.same (C : Ch H a c H1 a1 c1) (S : Same H1 H2) : Ch H a c H2 a1 c1 :=
  ⟨C.reg.same fun x o _ h => S _ _ h, C.frm.trans (Frm.same fun b o h _ => S b o h)⟩
theorem Ch.trans {H3 : Hp} {a3 : R → Addr} {c3 : R → Option HO} (C : Ch H a c H1 a1 c1) (C' : Ch H1 a1 c1 H3 a3 c3) : Ch H a c H3 a3 c3 := ⟨C'.reg, C.frm.trans C'.frm⟩
/-- many new roles at once -/
theorem Ch.newL (Pn : R → Prop) (C : Ch H a c H1 a1 c1) (S : Same H1 H2) (hn : ∀ x o, Pn x → c2 x = some o → H1 (a2 x) = none ∧ H2 (a2 x) = some o)
    (hi : ∀ x y o o', Pn x → Pn y → c2 x = some o → c2 y = some o' → a2 x = a2 y → x = y) (ho : ∀ x, ¬ Pn x → a2 x = a1 x ∧ c2 x = c1 x) : Ch H a c H2 a2 c2 := by
  refine ⟨⟨fun x o e => ?_, fun x y o o' e e' q => ?_⟩, C.frm.trans ⟨fun b u e _ => S b u e, fun b ⟨x, o, e, q⟩ => ?_⟩⟩
  · by_cases px : Pn x
    · exact (hn x o px e).2
    · rw [(ho x px).2] at e
      rw [(ho x px).1]
      exact S _ _ (C.reg.at_ x o e)
  · by_cases px : Pn x
    · by_cases py : Pn y
      · exact hi x y o o' px py e e' q
      · have h1 := (hn x o px e).1
        rw [(ho y py).2] at e'
        rw [q, (ho y py).1, C.reg.at_ y o' e'] at h1
        cases h1
    · by_cases py : Pn y
      · have h1 := (hn y o' py e').1
        rw [(ho x px).2] at e
        rw [← q, (ho x px).1, C.reg.at_ x o e] at h1
        cases h1
      · rw [(ho x px).2] at e
        rw [(ho y py).2] at e'
        rw [(ho x px).1, (ho y py).1] at q
        exact C.reg.inj x y o o' e e' q
  · by_cases px : Pn x
    · exact .inr (by rw [← q]; exact (hn x o px e).1)
    · rw [(ho x px).2] at e
      rw [(ho x px).1] at q
      exact .inl ⟨x, o, e, q⟩
variable [DecidableEq R]
theorem Ch.alter (C : Ch H a c H1 a1 c1) {x : R} {o o' : HO} {p : Addr} (h : c1 x = some o) (hp : a1 x = p) : Ch H a c (upd H1 p o') a1 (setF c1 x (some o')) := by
  subst hp
  exact ⟨C.reg.alter h, C.frm.trans (Frm.alter h)⟩
theorem Ch.new (C : Ch H a c H1 a1 c1) {x : R} {o : HO} {p : Addr} (np : H1 p = none) (S : Same H1 H2) (h : H2 p = some o) : Ch H a c H2 (setF a1 x p) (setF c1 x (some o)) := by
  have n := C.reg.free np
  have C2 := C.same S
  refine ⟨C2.reg.lay h n, C.frm.trans ⟨fun b u e _ => S b u e, fun b z => ?_⟩⟩
  rcases z.lay with q | q
  · exact .inl q
  · exact .inr (by rw [q]; exact np)
theorem Ch.tell (C : Ch H a c H1 a1 c1) (h : ∀ x o, c2 x = some o → c1 x = some o ∧ a2 x = a1 x) : Ch H a c H1 a2 c2 :=
  ⟨C.reg.tell h, C.frm.tell fun x o e => ⟨⟨o, (h x o e).1⟩, (h x o e).2⟩⟩
end
/-- a part of a region goes; the rest stands -/
theorem Reg.sub {S R : Type} {H H' : Hp} {a a' : R → Addr} {c c' : R → Option HO} {as' : S → Addr} {cs' : S → Option HO} (e : S → R) (G : Reg H a c) (G' : Reg H' as' cs') (F : Frm H (fun s => a (e s)) (fun s => c (e s)) H' as' cs')
    (h1 : ∀ s, a' (e s) = as' s) (h2 : ∀ s, c' (e s) = cs' s) (h3 : ∀ x, (∀ s, e s ≠ x) → a' x = a x ∧ c' x = c x) : Ch H a c H' a' c' := by
  have out : ∀ x o, (∀ s, e s ≠ x) → c x = some o → ¬ Own (fun s => a (e s)) (fun s => c (e s)) (a x) := fun x o hx hc ⟨s, u, h, q⟩ => hx s (G.inj (e s) x u o h hc q)
  have side : ∀ x, (∃ s, e s = x) ∨ ∀ s, e s ≠ x := fun x => (Classical.em (∃ s, e s = x)).imp id fun n s q => n ⟨s, q⟩
  refine ⟨⟨fun x o hx => ?_, fun x y o u hx hy q => ?_⟩, ⟨fun b o h n => ?_, fun b ⟨x, o, hx, q⟩ => ?_⟩⟩
  · rcases side x with ⟨s, rfl⟩ | nx
    · rw [h2] at hx
      rw [h1]
      exact G'.at_ s o hx
    · rw [(h3 x nx).2] at hx
      rw [(h3 x nx).1]
      exact F.keep _ _ (G.at_ x o hx) (out x o nx hx)
  · rcases side x with ⟨s, rfl⟩ | nx
    · rw [h2] at hx
      rw [h1] at q
      rcases side y with ⟨t, rfl⟩ | ny
      · rw [h2] at hy
        rw [h1] at q
        rw [G'.inj s t o u hx hy q]
      · rw [(h3 y ny).2] at hy
        rw [(h3 y ny).1] at q
        exact absurd ⟨s, o, hx, q⟩ (F.out (G.at_ y u hy) (out y u ny hy)).2
    · rw [(h3 x nx).2] at hx
      rw [(h3 x nx).1] at q
      rcases side y with ⟨t, rfl⟩ | ny
      · rw [h2] at hy
        rw [h1] at q
        exact absurd ⟨t, u, hy, q.symm⟩ (F.out (G.at_ x o hx) (out x o nx hx)).2
      · rw [(h3 y ny).2] at hy
        rw [(h3 y ny).1] at q
        exact G.inj x y o u hx hy q
  · exact F.keep b o h fun ⟨s, u, hu, q⟩ => n ⟨e s, u, hu, q⟩
  · rcases side x with ⟨s, rfl⟩ | nx
    · rw [h2] at hx
      rw [h1] at q
      rcases F.new b ⟨s, o, hx, q⟩ with ⟨t, u, hu, z⟩ | z
      · exact .inl ⟨e t, u, hu, z⟩
      · exact .inr z
    · rw [(h3 x nx).2] at hx
      rw [(h3 x nx).1] at q
      exact .inl ⟨x, o, hx, q⟩
theorem Same.upd_new {H : Hp} {p : Addr} {o : HO} (h : H p = none) : Same H (upd H p o) := fun b u e => by
  rw [upd_ne (ne_of_none e h)]
  exact e
/-- the heap without what stands at a: for what is handed over -/
def del (H : Hp) (a : Addr) : Hp := fun b => if b = a then none else H b
theorem del_same {H : Hp} {a : Addr} : del H a a = none := if_pos rfl
theorem del_ne {H : Hp} {a b : Addr} (h : b ≠ a) : del H a b = H b := if_neg h
theorem del_none {H : Hp} {a b : Addr} (h : H b = none) : del H a b = none := by
  unfold TR.del
  split
  · rfl
  · exact h
theorem del_new {H : Hp} {a : Addr} {o : HO} (h : H a = none) : del (upd H a o) a = H := by
  funext b
  by_cases c : b = a
  · rw [c, del_same, h]
  · rw [del_ne c, upd_ne c]
theorem Same.del {H : Hp} {a : Addr} : Same (del H a) H := fun b o e => by
  unfold TR.del at e
  by_cases c : b = a
  · rw [if_pos c] at e
    cases e
  · rw [if_neg c] at e
    exact e
theorem Reg.del {R : Type} {H : Hp} {a : R → Addr} {c : R → Option HO} {t : Addr} (G : Reg H a c) (n : ¬ Own a c t) : Reg (del H t) a c :=
  ⟨fun x o e => by rw [del_ne (fun q => n ⟨x, o, e, q⟩)]; exact G.at_ x o e, G.inj⟩
theorem Frm.del {R : Type} {H H' : Hp} {a a' : R → Addr} {c c' : R → Option HO} (F : Frm H a c H' a' c') (t : Addr) : Frm (TR.del H t) a c H' a' c' :=
  ⟨fun b o e n => F.keep b o (Same.del b o e) n, fun b z => (F.new b z).imp id del_none⟩
theorem Same.upd_after {H H1 : Hp} {p : Addr} {o : HO} (h : H p = none) (S : Same H H1) : Same H (upd H1 p o) := fun b u e => by
  rw [upd_ne (ne_of_none e h)]
  exact S b u e
/-! ### how a message and a room lie in the heap -/
inductive MR where
  | msg | txt | wds | mks | mk (k : Nat)
  deriving DecidableEq
inductive RR where
  | room | mems | invs | msgs | mem (p : Nat) | msg (n : Nat) (x : MR)
  deriving DecidableEq
structure ML where
  a : MR → Addr
  d : Addr
structure RL where
  a : RR → Addr
  d : RR → Addr
def RL.ms (L : RL) (n : Nat) : ML := ⟨fun x => L.a (.msg n x), L.d (.msg n .msg)⟩
def b2i' (b : Bool) : Int := if b = true then 1 else 0
def roomF (past : Int) (ms is gs : Addr) : List (Str × V) := [("past", .int past), ("members", .ref ms), ("invited", .ref is), ("messages", .ref gs)]
def memF (who : Int) (keeper : Bool) (first read : Int) : List (Str × V) := [("who", .int who), ("keeper", .bl keeper), ("first", .int first), ("read", .int read)]
def ansI (o : Option Nat) : Int := match o with
  | none => 0
  | some n => n + 1
def msgF (who ans ch : Int) (gone : Bool) (t w k : Addr) : List (Str × V) := [("who", .int who), ("answered", .int ans), ("changes", .int ch), ("gone", .bl gone), ("text", .ref t), ("words", .ref w), ("marks", .ref k)]
def memO (A : Ad) (d : Addr) (m : Kcs8.Member) : HO := .ins A.Member d (memF m.who m.keeper m.since m.read)
def nats (l : List Nat) : HO := .lst (l.map fun b => .int (b : Nat))
def msgO (A : Ad) (L : ML) (x : Kcs8.Message) : HO := .ins A.Message L.d (msgF x.who (ansI x.answers) x.changes x.gone (L.a .txt) (L.a .wds) (L.a .mks))
def msgC (A : Ad) (L : ML) (x : Kcs8.Message) : MR → Option HO
  | .msg => some (msgO A L x)
  | .txt => some (nats x.text)
  | .wds => some (.dT (wordsKV x.text))
  | .mks => some (.lst ((List.range 16).map fun k => .ref (L.a (.mk k))))
  | .mk k => if k < 16 then some (nats (marksOf x k)) else none
def roomC (A : Ad) (L : RL) (r : Kcs8.Room) : RR → Option HO
  | .room => some (.ins A.Room (L.d .room) (roomF (b2i' r.past) (L.a .mems) (L.a .invs) (L.a .msgs)))
  | .mems => some (.lst (r.members.map fun m => .ref (L.a (.mem m.who))))
  | .invs => some (nats r.invited)
  | .msgs => some (.lst ((List.range r.messages.length).map fun n => .ref (L.a (.msg n .msg))))
  | .mem p => (Kcs8.memberOf r p).map fun m => memO A (L.d (.mem p)) m
  | .msg n x => (r.messages[n]?).bind fun y => msgC A (L.ms n) y x
theorem lk_here {k : Str} {v : V} {r : List (Str × V)} : List.lookup k ((k, v) :: r) = some v := by
  have e : (k == k) = true := beq_self_eq_true k
  simp only [List.lookup, e]
theorem lk_past {k g : Str} {v : V} {r : List (Str × V)} (h : (k == g) = false) : List.lookup k ((g, v) :: r) = List.lookup k r := by
  simp only [List.lookup, h]
theorem put_here {f : Str} {v x : V} {r : List (Str × V)} : putF f v ((f, x) :: r) = (f, v) :: r := if_pos rfl
theorem put_past {f g : Str} {v x : V} {r : List (Str × V)} (h : ¬ g = f) : putF f v ((g, x) :: r) = (g, x) :: putF f v r := if_neg h
theorem put_nil {f : Str} {v : V} : putF f v [] = [(f, v)] := rfl
section
variable {p q : Int} {a b c a' : Addr} {k k' : Bool} {x y z : Int}
theorem roomF_past : (roomF p a b c).lookup ("past" : Str) = some (.int p) := lk_here
theorem roomF_members : (roomF p a b c).lookup ("members" : Str) = some (.ref a) := (lk_past (by decide +kernel)).trans lk_here
theorem roomF_invited : (roomF p a b c).lookup ("invited" : Str) = some (.ref b) := (lk_past (by decide +kernel)).trans ((lk_past (by decide +kernel)).trans lk_here)
theorem roomF_messages : (roomF p a b c).lookup ("messages" : Str) = some (.ref c) := (lk_past (by decide +kernel)).trans ((lk_past (by decide +kernel)).trans ((lk_past (by decide +kernel)).trans lk_here))
theorem roomF_no {m : Str} (h1 : (m == ("past" : Str)) = false) (h2 : (m == ("members" : Str)) = false) (h3 : (m == ("invited" : Str)) = false) (h4 : (m == ("messages" : Str)) = false) : (roomF p a b c).lookup m = none :=
  (lk_past h1).trans ((lk_past h2).trans ((lk_past h3).trans ((lk_past h4).trans rfl)))
theorem roomF_put_past : putF ("past" : Str) (.int q) (roomF p a b c) = roomF q a b c := put_here
theorem roomF_put_members : putF ("members" : Str) (.ref a') (roomF p a b c) = roomF p a' b c := (put_past (by decide +kernel)).trans (congrArg _ put_here)
theorem roomF_put_invited : putF ("invited" : Str) (.ref a') (roomF p a b c) = roomF p a a' c := (put_past (by decide +kernel)).trans (congrArg _ ((put_past (by decide +kernel)).trans (congrArg _ put_here)))
theorem memF_who : (memF x k y z).lookup ("who" : Str) = some (.int x) := lk_here
theorem memF_keeper : (memF x k y z).lookup ("keeper" : Str) = some (.bl k) := (lk_past (by decide +kernel)).trans lk_here
theorem memF_first : (memF x k y z).lookup ("first" : Str) = some (.int y) := (lk_past (by decide +kernel)).trans ((lk_past (by decide +kernel)).trans lk_here)
theorem memF_read : (memF x k y z).lookup ("read" : Str) = some (.int z) := (lk_past (by decide +kernel)).trans ((lk_past (by decide +kernel)).trans ((lk_past (by decide +kernel)).trans lk_here))
theorem memF_put_keeper : putF ("keeper" : Str) (.bl k') (memF x k y z) = memF x k' y z := (put_past (by decide +kernel)).trans (congrArg _ put_here)
theorem memF_put_read : putF ("read" : Str) (.int q) (memF x k y z) = memF x k y q := (put_past (by decide +kernel)).trans (congrArg _ ((put_past (by decide +kernel)).trans (congrArg _ ((put_past (by decide +kernel)).trans (congrArg _ put_here)))))
end
section
variable {w an ch v : Int} {g g' : Bool} {t d m a : Addr}
theorem msgF_who : (msgF w an ch g t d m).lookup ("who" : Str) = some (.int w) := by unfold msgF; (repeat' first | exact lk_here | refine (lk_past (by decide +kernel)).trans ?_)
theorem msgF_answered : (msgF w an ch g t d m).lookup ("answered" : Str) = some (.int an) := by unfold msgF; (repeat' first | exact lk_here | refine (lk_past (by decide +kernel)).trans ?_)
theorem msgF_changes : (msgF w an ch g t d m).lookup ("changes" : Str) = some (.int ch) := by unfold msgF; (repeat' first | exact lk_here | refine (lk_past (by decide +kernel)).trans ?_)
theorem msgF_gone : (msgF w an ch g t d m).lookup ("gone" : Str) = some (.bl g) := by unfold msgF; (repeat' first | exact lk_here | refine (lk_past (by decide +kernel)).trans ?_)
theorem msgF_text : (msgF w an ch g t d m).lookup ("text" : Str) = some (.ref t) := by unfold msgF; (repeat' first | exact lk_here | refine (lk_past (by decide +kernel)).trans ?_)
theorem msgF_words : (msgF w an ch g t d m).lookup ("words" : Str) = some (.ref d) := by unfold msgF; (repeat' first | exact lk_here | refine (lk_past (by decide +kernel)).trans ?_)
theorem msgF_marks : (msgF w an ch g t d m).lookup ("marks" : Str) = some (.ref m) := by unfold msgF; (repeat' first | exact lk_here | refine (lk_past (by decide +kernel)).trans ?_)
theorem msgF_no {n : Str} (h : ((n == ("who" : Str)) || (n == ("answered" : Str)) || (n == ("changes" : Str)) || (n == ("gone" : Str)) || (n == ("text" : Str)) || (n == ("words" : Str)) || (n == ("marks" : Str))) = false) : (msgF w an ch g t d m).lookup n = none := by
  simp only [Bool.or_eq_false_iff] at h
  unfold msgF
  exact (lk_past h.1.1.1.1.1.1).trans ((lk_past h.1.1.1.1.1.2).trans ((lk_past h.1.1.1.1.2).trans ((lk_past h.1.1.1.2).trans ((lk_past h.1.1.2).trans ((lk_past h.1.2).trans ((lk_past h.2).trans rfl))))))
theorem msgF_put_changes : putF ("changes" : Str) (.int v) (msgF w an ch g t d m) = msgF w an v g t d m := by unfold msgF; (repeat first | rw [put_here] | rw [put_past (by decide +kernel)])
theorem msgF_put_gone : putF ("gone" : Str) (.bl g') (msgF w an ch g t d m) = msgF w an ch g' t d m := by unfold msgF; (repeat first | rw [put_here] | rw [put_past (by decide +kernel)])
theorem msgF_put_text : putF ("text" : Str) (.ref a) (msgF w an ch g t d m) = msgF w an ch g a d m := by unfold msgF; (repeat first | rw [put_here] | rw [put_past (by decide +kernel)])
theorem msgF_put_words : putF ("words" : Str) (.ref a) (msgF w an ch g t d m) = msgF w an ch g t a m := by unfold msgF; (repeat first | rw [put_here] | rw [put_past (by decide +kernel)])
theorem msgF_put_marks : putF ("marks" : Str) (.ref a) (msgF w an ch g t d m) = msgF w an ch g t d a := by unfold msgF; (repeat first | rw [put_here] | rw [put_past (by decide +kernel)])
end
/-! ### a message that is well -/
structure MsgOk (A : Ad) (H : Hp) (L : ML) (x : Kcs8.Message) : Prop where
  reg : Reg H L.a (msgC A L x)
  wf : WfMsg x
structure MsgGoes (A : Ad) (H : Hp) (L : ML) (x : Kcs8.Message) (H' : Hp) (L' : ML) (x' : Kcs8.Message) : Prop where
  here : L'.a .msg = L.a .msg
  ok : MsgOk A H' L' x'
  frm : Frm H L.a (msgC A L x) H' L'.a (msgC A L' x')
section
variable {A : Ad} {H H1 H2 : Hp} {L L1 L2 : ML} {x x1 x2 : Kcs8.Message}
theorem MsgGoes.refl (h : MsgOk A H L x) : MsgGoes A H L x H L x := ⟨rfl, h, Frm.refl⟩
theorem MsgGoes.trans (h : MsgGoes A H L x H1 L1 x1) (g : MsgGoes A H1 L1 x1 H2 L2 x2) : MsgGoes A H L x H2 L2 x2 := ⟨g.here.trans h.here, g.ok, h.frm.trans g.frm⟩
theorem MsgOk.msg (R : MsgOk A H L x) : H (L.a .msg) = some (msgO A L x) := R.reg.at_ .msg _ rfl
theorem MsgOk.txt (R : MsgOk A H L x) : H (L.a .txt) = some (nats x.text) := R.reg.at_ .txt _ rfl
theorem MsgOk.wds (R : MsgOk A H L x) : H (L.a .wds) = some (.dT (wordsKV x.text)) := R.reg.at_ .wds _ rfl
theorem MsgOk.mks (R : MsgOk A H L x) : H (L.a .mks) = some (.lst ((List.range 16).map fun k => .ref (L.a (.mk k)))) := R.reg.at_ .mks _ rfl
theorem MsgOk.mkAt (R : MsgOk A H L x) {k : Nat} (h : k < 16) : H (L.a (.mk k)) = some (nats (marksOf x k)) := R.reg.at_ (.mk k) _ (by show (if k < 16 then _ else _) = _; rw [if_pos h])
theorem MsgOk.same (R : MsgOk A H L x) (S : Same H H1) : MsgOk A H1 L x := ⟨R.reg.same fun x o _ h => S _ _ h, R.wf⟩
theorem MsgOk.del (R : MsgOk A H L x) {t : Addr} (n : ¬ Own L.a (msgC A L x) t) : MsgOk A (del H t) L x := ⟨R.reg.del n, R.wf⟩
theorem MsgGoes.same (G : MsgGoes A H L x H1 L1 x1) (S : Same H1 H2) : MsgGoes A H L x H2 L1 x1 := ⟨G.here, G.ok.same S, G.frm.trans (Frm.same fun b o h _ => S b o h)⟩
theorem Ch.goesM (C : Ch H L.a (msgC A L x) H1 L1.a (msgC A L1 x1)) (h : L1.a .msg = L.a .msg) (W : WfMsg x1) : MsgGoes A H L x H1 L1 x1 := ⟨h, ⟨C.reg, W⟩, C.frm⟩
/-- it's gone -/
theorem MsgOk.setGone (R : MsgOk A H L x) : MsgGoes A H L x (upd H (L.a .msg) (msgO A L { x with gone := true })) L { x with gone := true } := by
  refine Ch.goesM (Ch.tell ((Ch.start R.reg).alter (x := .msg) (o' := msgO A L { x with gone := true }) rfl rfl) fun q o e => ?_) rfl ⟨R.wf.nd, R.wf.who, R.wf.txt⟩
  cases q with
  | _ => exact ⟨e, rfl⟩
/-- changed once more -/
theorem MsgOk.setChanges (R : MsgOk A H L x) (n : Nat) : MsgGoes A H L x (upd H (L.a .msg) (msgO A L { x with changes := n })) L { x with changes := n } := by
  refine Ch.goesM (Ch.tell ((Ch.start R.reg).alter (x := .msg) (o' := msgO A L { x with changes := n }) rfl rfl) fun q o e => ?_) rfl ⟨R.wf.nd, R.wf.who, R.wf.txt⟩
  cases q with
  | _ => exact ⟨e, rfl⟩
/-- another text, which is handed over, and its words -/
theorem MsgOk.setText (R : MsgOk A H L x) {t w : Addr} {l : List Nat} (n : ¬ Own L.a (msgC A L x) t) (ht : H t = some (nats l)) (hl : l.length ≤ 256)
    (nw : upd H (L.a .msg) (.ins A.Message L.d (msgF x.who (ansI x.answers) x.changes x.gone t (L.a .wds) (L.a .mks))) w = none)
    (S : Same (upd H (L.a .msg) (.ins A.Message L.d (msgF x.who (ansI x.answers) x.changes x.gone t (L.a .wds) (L.a .mks)))) H1) (hw : H1 w = some (.dT (wordsKV l))) :
    MsgGoes A (TR.del H t) L x (upd H1 (L.a .msg) (.ins A.Message L.d (msgF x.who (ansI x.answers) x.changes x.gone t w (L.a .mks)))) ⟨setF (setF L.a .txt t) .wds w, L.d⟩ { x with text := l } := by
  have hh : setF (setF L.a .txt t) .wds w .msg = L.a .msg := (setF_ne (by intro z; cases z)).trans (setF_ne (by intro z; cases z))
  refine Ch.goesM (L1 := ⟨setF (setF L.a .txt t) .wds w, L.d⟩) (x1 := { x with text := l }) (Ch.tell (((((Ch.start (R.del n).reg).new (x := .txt) del_same Same.del ht).alter (x := .msg) (p := L.a .msg) (o := msgO A L x) (o' := .ins A.Message L.d (msgF x.who (ansI x.answers) x.changes x.gone t (L.a .wds) (L.a .mks))) ((setF_ne (by intro z; cases z)).trans rfl) (setF_ne (by intro z; cases z))).new (x := .wds) nw S hw).alter (x := .msg) (p := L.a .msg) (o := .ins A.Message L.d (msgF x.who (ansI x.answers) x.changes x.gone t (L.a .wds) (L.a .mks))) (o' := .ins A.Message L.d (msgF x.who (ansI x.answers) x.changes x.gone t w (L.a .mks))) ((setF_ne (by intro z; cases z)).trans setF_same) ((setF_ne (by intro z; cases z)).trans (setF_ne (by intro z; cases z)))) fun q o e => ?_) hh ⟨R.wf.nd, R.wf.who, hl⟩
  refine ⟨?_, rfl⟩
  cases q with
  | msg =>
    rw [setF_same]
    exact e
  | txt =>
    rw [setF_ne (by intro z; cases z), setF_ne (by intro z; cases z), setF_ne (by intro z; cases z), setF_same]
    exact e
  | wds =>
    rw [setF_ne (by intro z; cases z), setF_same]
    exact e
  | mks =>
    rw [setF_ne (by intro z; cases z), setF_ne (by intro z; cases z), setF_ne (by intro z; cases z), setF_ne (by intro z; cases z)]
    exact e
  | mk k =>
    rw [setF_ne (by intro z; cases z), setF_ne (by intro z; cases z), setF_ne (by intro z; cases z), setF_ne (by intro z; cases z)]
    exact e
/-- what sixteen new lists without items are: D their list -/
structure Rows16 (H H1 : Hp) (D : Addr) (as : List Addr) : Prop where
  same : Same H H1
  len : as.length = 16
  nd : as.Nodup
  at_ : ∀ b ∈ as, H b = none ∧ b ≠ D ∧ H1 b = some (.lst [])
  fr : H D = none
  all : H1 D = some (.lst (as.map V.ref))
theorem nd_at {l : List Addr} (nd : l.Nodup) {i j : Nat} {b : Addr} (h : l[i]? = some b) (h' : l[j]? = some b) : i = j := by
  obtain ⟨hi, e⟩ := List.getElem?_eq_some_iff.mp h
  obtain ⟨hj, e'⟩ := List.getElem?_eq_some_iff.mp h'
  exact (List.getElem_inj nd).mp (e.trans e'.symm)
theorem Rows16.at' {H H1 : Hp} {D : Addr} {as : List Addr} (R : Rows16 H H1 D as) {k : Nat} (h : k < 16) : as[k]? = some (as.getD k 0) := by
  have := R.len
  rw [List.getD_eq_getElem?_getD, List.getElem?_eq_getElem (by omega)]
  rfl
theorem Rows16.all' {H H1 : Hp} {D : Addr} {as : List Addr} (R : Rows16 H H1 D as) : as.map V.ref = (List.range 16).map fun k => V.ref (as.getD k 0) := by
  apply List.ext_getElem?
  intro i
  rw [List.getElem?_map, List.getElem?_map]
  by_cases h : i < 16
  · rw [R.at' h, List.getElem?_range h]
    rfl
  · have := R.len
    rw [List.getElem?_eq_none_iff.mpr (by omega), List.getElem?_eq_none_iff.mpr (by rw [List.length_range]; omega)]
    rfl
def ML.marked (L : ML) (D : Addr) (as : List Addr) : ML := ⟨fun q => match q with
  | .mks => D
  | .mk k => as.getD k 0
  | q => L.a q, L.d⟩
def isMk : MR → Bool
  | .mks => true
  | .mk _ => true
  | _ => false
/-- no marks -/
theorem MsgOk.setMarks (R : MsgOk A H L x) {D : Addr} {as : List Addr} (W : Rows16 H H1 D as) :
    MsgGoes A H L x (upd H1 (L.a .msg) (.ins A.Message L.d (msgF x.who (ansI x.answers) x.changes x.gone (L.a .txt) (L.a .wds) D))) (L.marked D as) { x with marks := [] } := by
  have C1 : Ch H L.a (msgC A L x) H1 (L.marked D as).a (fun q => match q with
      | .mks => some (.lst (as.map V.ref))
      | .mk k => if k < 16 then some (.lst []) else none
      | q => msgC A L x q) := by
    refine Ch.newL (fun q => isMk q = true) (Ch.start R.reg) W.same (fun q o pq e => ?_) (fun q q' o o' pq pq' e e' z => ?_) fun q nq => ?_
    · cases q with
      | mks =>
        cases e
        exact ⟨W.fr, W.all⟩
      | mk k =>
        have e' : (if k < 16 then some (HO.lst []) else none) = some o := e
        by_cases c : k < 16
        · rw [if_pos c] at e'
          cases e'
          have := W.at_ _ (List.mem_of_getElem? (W.at' c))
          exact ⟨this.1, this.2.2⟩
        · rw [if_neg c] at e'
          cases e'
      | msg => cases pq
      | txt => cases pq
      | wds => cases pq
    · have lt : ∀ {k : Nat} {u : HO}, (if k < 16 then some (HO.lst []) else none) = some u → k < 16 := fun {k u} h => by
        by_cases c : k < 16
        · exact c
        · rw [if_neg c] at h
          cases h
      cases q with
      | mks => cases q' with
        | mks => rfl
        | mk k =>
          have c := lt (k := k) e'
          exact absurd z.symm (W.at_ _ (List.mem_of_getElem? (W.at' c))).2.1
        | msg => cases pq'
        | txt => cases pq'
        | wds => cases pq'
      | mk k => cases q' with
        | mks =>
          have c := lt (k := k) e
          exact absurd z (W.at_ _ (List.mem_of_getElem? (W.at' c))).2.1
        | mk k' =>
          have c := lt (k := k) e
          have c' := lt (k := k') e'
          have z' : as.getD k 0 = as.getD k' 0 := z
          have h1 := W.at' c
          rw [z'] at h1
          rw [nd_at W.nd h1 (W.at' c')]
        | msg => cases pq'
        | txt => cases pq'
        | wds => cases pq'
      | msg => cases pq
      | txt => cases pq
      | wds => cases pq
    · cases q with
      | mks => exact absurd rfl nq
      | mk k => exact absurd rfl nq
      | msg => exact ⟨rfl, rfl⟩
      | txt => exact ⟨rfl, rfl⟩
      | wds => exact ⟨rfl, rfl⟩
  refine Ch.goesM (Ch.tell (C1.alter (x := .msg) (p := L.a .msg) (o' := .ins A.Message L.d (msgF x.who (ansI x.answers) x.changes x.gone (L.a .txt) (L.a .wds) D)) rfl rfl) fun q o e => ?_) rfl ⟨List.nodup_nil, fun m hm => (by cases hm), R.wf.txt⟩
  refine ⟨?_, rfl⟩
  cases q with
  | msg => exact e
  | txt => exact e
  | wds => exact e
  | mks =>
    rw [setF_ne (by intro z; cases z)]
    show some (HO.lst (as.map V.ref)) = some o
    rw [W.all']
    exact e
  | mk k =>
    rw [setF_ne (by intro z; cases z)]
    exact e
/-- the marks of a kind are changed -/
theorem MsgOk.setMark (R : MsgOk A H L x) {j : Nat} (hj : j < 16) {ms : List (Nat × Nat)} (W : WfMsg { x with marks := ms }) (h : ∀ k, k ≠ j → marksOf { x with marks := ms } k = marksOf x k) :
    MsgGoes A H L x (upd H (L.a (.mk j)) (nats (marksOf { x with marks := ms } j))) L { x with marks := ms } := by
  refine Ch.goesM (Ch.tell ((Ch.start R.reg).alter (x := .mk j) (o := nats (marksOf x j)) (o' := nats (marksOf { x with marks := ms } j)) (by show (if j < 16 then _ else _) = _; rw [if_pos hj]) rfl) fun q o e => ?_) rfl W
  refine ⟨?_, rfl⟩
  cases q with
  | mk k =>
    have e' : (if k < 16 then some (nats (marksOf { x with marks := ms } k)) else none) = some o := e
    by_cases c : k = j
    · subst c
      rw [setF_same]
      rw [if_pos hj] at e'
      exact e'
    · rw [setF_ne (by intro z; injection z with z; exact c z)]
      rw [h k c] at e'
      exact e'
  | _ => exact e
end
/-! ### a room that is well -/
structure WfR (r : Kcs8.Room) : Prop where
  nd : (r.members.map (·.who)).Nodup
  apart : ∀ q, r.invited.contains q = true → Kcs8.isIn r q = false
  few : r.members.length + r.invited.length ≤ 12
  msgs : r.messages.length ≤ 128
  sr : ∀ m ∈ r.members, m.since ≤ m.read ∧ m.since ≤ r.messages.length
  mw : ∀ y ∈ r.messages, WfMsg y
structure RoomOk (A : Ad) (H : Hp) (L : RL) (r : Kcs8.Room) : Prop where
  reg : Reg H L.a (roomC A L r)
  wf : WfR r
structure RoomGoes (A : Ad) (H : Hp) (L : RL) (r : Kcs8.Room) (H' : Hp) (L' : RL) (r' : Kcs8.Room) : Prop where
  here : L'.a .room = L.a .room
  ok : RoomOk A H' L' r'
  frm : Frm H L.a (roomC A L r) H' L'.a (roomC A L' r')
theorem RoomGoes.refl {A : Ad} {H : Hp} {L : RL} {r : Kcs8.Room} (h : RoomOk A H L r) : RoomGoes A H L r H L r := ⟨rfl, h, Frm.refl⟩
theorem RoomGoes.trans {A : Ad} {H H1 H2 : Hp} {L L1 L2 : RL} {r r1 r2 : Kcs8.Room} (h : RoomGoes A H L r H1 L1 r1) (g : RoomGoes A H1 L1 r1 H2 L2 r2) : RoomGoes A H L r H2 L2 r2 :=
  ⟨g.here.trans h.here, g.ok, h.frm.trans g.frm⟩
theorem member_of_mem : ∀ {l : List Kcs8.Member} {m : Kcs8.Member}, (l.map (·.who)).Nodup → m ∈ l → l.find? (fun x => x.who == m.who) = some m
  | [], m, _, h => by cases h
  | x :: l, m, nd, h => by
    rw [List.map_cons, List.nodup_cons] at nd
    by_cases e : x.who = m.who
    · rw [List.find?_cons_of_pos (by simp [e])]
      rcases List.mem_cons.mp h with rfl | h
      · rfl
      · exact absurd (List.mem_map.mpr ⟨m, h, e.symm⟩) nd.1
    · rw [List.find?_cons_of_neg (by simp [e])]
      rcases List.mem_cons.mp h with rfl | h
      · exact absurd rfl e
      · exact member_of_mem nd.2 h
theorem WfR.mem {r : Kcs8.Room} (W : WfR r) {m : Kcs8.Member} (h : m ∈ r.members) : Kcs8.memberOf r m.who = some m := member_of_mem W.nd h
theorem memberOf_who {r : Kcs8.Room} {p : Nat} {m : Kcs8.Member} (h : Kcs8.memberOf r p = some m) : m ∈ r.members ∧ m.who = p := ⟨List.mem_of_find?_eq_some h, by have := List.find?_some h; simpa using this⟩
theorem memberOf_none {r : Kcs8.Room} {p : Nat} (h : ∀ m ∈ r.members, m.who ≠ p) : Kcs8.memberOf r p = none := List.find?_eq_none.mpr fun m hm => by simp [h m hm]
section
variable {A : Ad} {H : Hp} {L : RL} {r : Kcs8.Room}
theorem RoomOk.room (R : RoomOk A H L r) : H (L.a .room) = some (.ins A.Room (L.d .room) (roomF (b2i' r.past) (L.a .mems) (L.a .invs) (L.a .msgs))) := R.reg.at_ .room _ rfl
theorem RoomOk.mems (R : RoomOk A H L r) : H (L.a .mems) = some (.lst (r.members.map fun m => .ref (L.a (.mem m.who)))) := R.reg.at_ .mems _ rfl
theorem RoomOk.invs (R : RoomOk A H L r) : H (L.a .invs) = some (.lst (r.invited.map fun q => .int (q : Nat))) := R.reg.at_ .invs _ rfl
theorem RoomOk.msgs (R : RoomOk A H L r) : H (L.a .msgs) = some (.lst ((List.range r.messages.length).map fun n => .ref (L.a (.msg n .msg)))) := R.reg.at_ .msgs _ rfl
theorem RoomOk.mem (R : RoomOk A H L r) {p : Nat} {m : Kcs8.Member} (h : Kcs8.memberOf r p = some m) : H (L.a (.mem p)) = some (memO A (L.d (.mem p)) m) := R.reg.at_ (.mem p) _ (by show (Kcs8.memberOf r p).map _ = _; rw [h]; rfl)
theorem RoomOk.msg (R : RoomOk A H L r) {n : Nat} {y : Kcs8.Message} (h : r.messages[n]? = some y) : MsgOk A H (L.ms n) y := by
  have e : ∀ x, roomC A L r (.msg n x) = msgC A (L.ms n) y x := fun x => by
    show (r.messages[n]?).bind _ = _
    rw [h]
    rfl
  exact ⟨⟨fun x o hx => R.reg.at_ (.msg n x) o ((e x).trans hx), fun x x' o o' hx hy q => by
    have := R.reg.inj (.msg n x) (.msg n x') o o' ((e x).trans hx) ((e x').trans hy) q
    injection this⟩, R.wf.mw y (List.mem_of_getElem? h)⟩
end
theorem map_at {α : Type} {l : List α} {g : α → V} {i : Nat} {y : V} (h : (l.map g)[i]? = some y) : ∃ z, l[i]? = some z ∧ y = g z := by
  rw [List.getElem?_map] at h
  obtain ⟨z, h1, h2⟩ := Option.map_eq_some_iff.mp h
  exact ⟨z, h1, h2.symm⟩
theorem if_true_of {c : Bool} {A B : Prop} (hc : c = true) (h : A) : if c = true then A else B := by
  rw [if_pos hc]
  exact h
theorem if_false_of {c : Bool} {A B : Prop} (hc : c = false) (h : B) : if c = true then A else B := by
  rw [hc, if_neg Bool.false_ne_true]
  exact h
end TR
namespace TR
open PySem PySem.Spec PyProof.Rows L2
theorem Ch.goes {A : Ad} {H H' : Hp} {L L' : RL} {r r' : Kcs8.Room} (C : Ch H L.a (roomC A L r) H' L'.a (roomC A L' r')) (h : L'.a .room = L.a .room) (W : WfR r') : RoomGoes A H L r H' L' r' := ⟨h, ⟨C.reg, W⟩, C.frm⟩
theorem RoomGoes.room {A : Ad} {H H' : Hp} {L L' : RL} {r r' : Kcs8.Room} (G : RoomGoes A H L r H' L' r') : H' (L.a .room) = some (.ins A.Room (L'.d .room) (roomF (b2i' r'.past) (L'.a .mems) (L'.a .invs) (L'.a .msgs))) := by
  rw [← G.here]
  exact G.ok.room
theorem b2i_one {b : Bool} : decide (V.int (b2i' b) = V.int 1) = b := by cases b <;> decide
theorem len_zero {α : Type} {l : List α} : decide (V.int (l.length : Int) = V.int 0) = l.isEmpty := by
  cases l with
  | nil => rfl
  | cons x l =>
    refine decide_eq_false fun z => ?_
    injection z with z
    rw [List.length_cons] at z
    omega
/-! ### mathematics of members -/
theorem keeps_eq {r : Kcs8.Room} {p : Nat} {x : Kcs8.Member} (h : Kcs8.memberOf r p = some x) : Kcs8.keeps r p = x.keeper := by
  unfold Kcs8.keeps
  rw [h]
  rfl
theorem isIn_none {r : Kcs8.Room} {p : Nat} : Kcs8.isIn r p = false ↔ Kcs8.memberOf r p = none := by
  unfold Kcs8.isIn
  cases Kcs8.memberOf r p <;> simp
theorem noM {p : Int} {a b c : Addr} {m : Str} (h : ((m == ("past" : Str)) || (m == ("members" : Str)) || (m == ("invited" : Str)) || (m == ("messages" : Str))) = false) : (roomF p a b c).lookup m = none := by
  simp only [Bool.or_eq_false_iff] at h
  exact roomF_no h.1.1.1 h.1.1.2 h.1.2 h.2
theorem length_filter_lt {l : List Nat} {p : Nat} (h : l.contains p = true) : (l.filter (· != p)).length < l.length := by
  induction l with
  | nil => cases h
  | cons x l ih =>
    by_cases c : x = p
    · rw [List.filter_cons_of_neg (by simp [c]), List.length_cons]
      have := List.length_filter_le (· != p) l
      omega
    · have h' : l.contains p = true := by
        have hm : p ∈ x :: l := by simpa using h
        rcases List.mem_cons.mp hm with q | q
        · exact absurd q.symm c
        · simpa using q
      rw [List.filter_cons_of_pos (by simp [c]), List.length_cons, List.length_cons]
      have := ih h'
      omega
theorem find_without {l : List Kcs8.Member} {p q : Nat} : (Kcs8.without l p).find? (fun m => m.who == q) = if q = p then none else l.find? (fun m => m.who == q) := by
  unfold Kcs8.without
  induction l with
  | nil => simp
  | cons x l ih =>
    by_cases e : x.who = p
    · rw [List.filter_cons_of_neg (by simp [e]), ih]
      by_cases c : q = p
      · rw [if_pos c, if_pos c]
      · rw [if_neg c, if_neg c, List.find?_cons_of_neg (by rw [e]; simp; omega)]
    · rw [List.filter_cons_of_pos (by simp [e])]
      by_cases c : x.who = q
      · rw [List.find?_cons_of_pos (by simp [c]), if_neg (by omega), List.find?_cons_of_pos (by simp [c])]
      · rw [List.find?_cons_of_neg (by simp [c]), ih]
        by_cases c2 : q = p
        · rw [if_pos c2, if_pos c2]
        · rw [if_neg c2, if_neg c2, List.find?_cons_of_neg (by simp [c])]
theorem memberOf_without {r : Kcs8.Room} {p q : Nat} {is : List Nat} : Kcs8.memberOf { r with members := Kcs8.without r.members p, invited := is } q = if q = p then none else Kcs8.memberOf r q := find_without
theorem isIn_without {r : Kcs8.Room} {p q : Nat} {is : List Nat} : Kcs8.isIn { r with members := Kcs8.without r.members p, invited := is } q = if q = p then false else Kcs8.isIn r q := by
  unfold Kcs8.isIn
  rw [memberOf_without]
  by_cases c : q = p
  · rw [if_pos c, if_pos c]
    rfl
  · rw [if_neg c, if_neg c]
theorem WfR.without {r : Kcs8.Room} (W : WfR r) (p : Nat) : WfR { r with members := Kcs8.without r.members p } := by
  refine ⟨?_, fun q hq => ?_, ?_, W.msgs, fun m hm => W.sr m (List.mem_filter.mp hm).1, W.mw⟩
  · exact (List.Sublist.map _ List.filter_sublist).nodup W.nd
  · have := W.apart q hq
    show Kcs8.isIn { r with members := Kcs8.without r.members p, invited := r.invited } q = false
    rw [isIn_without]
    split
    · rfl
    · exact this
  · have h1 : (Kcs8.without r.members p).length ≤ r.members.length := List.length_filter_le _ _
    have := W.few
    show (Kcs8.without r.members p).length + r.invited.length ≤ 12
    omega
theorem WfR.uninvite {r : Kcs8.Room} (W : WfR r) (p : Nat) : WfR { r with invited := r.invited.filter (· != p) } := by
  refine ⟨W.nd, fun q hq => ?_, ?_, W.msgs, W.sr, W.mw⟩
  · have h : r.invited.contains q = true := by
      have : q ∈ r.invited.filter (· != p) := by simpa using hq
      have := (List.mem_filter.mp this).1
      simpa using this
    exact W.apart q h
  · have h1 : (r.invited.filter (· != p)).length ≤ r.invited.length := List.length_filter_le _ _
    have := W.few
    show r.members.length + (r.invited.filter (· != p)).length ≤ 12
    omega
/-! ### changes of a room -/
section
variable {A : Ad} {H H1 H2 : Hp} {L : RL} {r : Kcs8.Room}
/-- other members' list -/
theorem RoomOk.setMembers (R : RoomOk A H L r) (p : Nat) {D : Addr} (np : H D = none) (S : Same H H1) (h : H1 D = some (.lst ((Kcs8.without r.members p).map fun m => .ref (L.a (.mem m.who))))) :
    RoomGoes A H L r (upd H1 (L.a .room) (.ins A.Room (L.d .room) (roomF (b2i' r.past) D (L.a .invs) (L.a .msgs)))) ⟨setF L.a .mems D, L.d⟩ { r with members := Kcs8.without r.members p } := by
  refine Ch.goes (Ch.tell (((Ch.start R.reg).new (x := .mems) np S h).alter (x := .room) (o' := .ins A.Room (L.d .room) (roomF (b2i' r.past) D (L.a .invs) (L.a .msgs))) rfl rfl) fun x o e => ?_) rfl (R.wf.without p)
  cases x with
  | mem q =>
    refine ⟨?_, rfl⟩
    have e' : (Kcs8.memberOf { r with members := Kcs8.without r.members p, invited := r.invited } q).map (fun m => memO A (L.d (.mem q)) m) = some o := e
    rw [memberOf_without] at e'
    by_cases c : q = p
    · rw [if_pos c] at e'
      cases e'
    · rw [if_neg c] at e'
      exact e'
  | _ => exact ⟨e, rfl⟩
/-- another list of those invited -/
theorem RoomOk.setInvited (R : RoomOk A H L r) (p : Nat) {D : Addr} (np : H D = none) (S : Same H H1) (h : H1 D = some (.lst ((r.invited.filter (· != p)).map fun q => .int (q : Nat)))) :
    RoomGoes A H L r (upd H1 (L.a .room) (.ins A.Room (L.d .room) (roomF (b2i' r.past) (L.a .mems) D (L.a .msgs)))) ⟨setF L.a .invs D, L.d⟩ { r with invited := r.invited.filter (· != p) } := by
  refine Ch.goes (Ch.tell (((Ch.start R.reg).new (x := .invs) np S h).alter (x := .room) (o' := .ins A.Room (L.d .room) (roomF (b2i' r.past) (L.a .mems) D (L.a .msgs))) rfl rfl) fun x o e => ?_) rfl (R.wf.uninvite p)
  cases x with
  | _ => exact ⟨e, rfl⟩
/-- its past -/
theorem RoomOk.setPast (R : RoomOk A H L r) (b : Bool) : RoomGoes A H L r (upd H (L.a .room) (.ins A.Room (L.d .room) (roomF (b2i' b) (L.a .mems) (L.a .invs) (L.a .msgs)))) L { r with past := b } := by
  refine Ch.goes (Ch.tell ((Ch.start R.reg).alter (x := .room) (o' := .ins A.Room (L.d .room) (roomF (b2i' b) (L.a .mems) (L.a .invs) (L.a .msgs))) rfl rfl) fun x o e => ?_) rfl ⟨R.wf.nd, R.wf.apart, R.wf.few, R.wf.msgs, R.wf.sr, R.wf.mw⟩
  cases x with
  | _ => exact ⟨e, rfl⟩
/-- one more invited -/
theorem RoomOk.addInvited (R : RoomOk A H L r) {q : Nat} (hq : Kcs8.isIn r q = false) (hf : r.members.length + r.invited.length < 12) : RoomGoes A H L r (upd H (L.a .invs) (.lst ((r.invited.map fun q => V.int (q : Nat)) ++ [.int q]))) L { r with invited := r.invited ++ [q] } := by
  refine Ch.goes (Ch.tell ((Ch.start R.reg).alter (x := .invs) (o' := .lst ((r.invited.map fun q => V.int (q : Nat)) ++ [.int q])) rfl rfl) fun x o e => ?_) rfl ⟨R.wf.nd, fun z hz => ?_, ?_, R.wf.msgs, R.wf.sr, R.wf.mw⟩
  · cases x with
    | invs =>
      refine ⟨?_, rfl⟩
      have e' : some (HO.lst ((r.invited ++ [q]).map fun q => V.int (q : Nat))) = some o := e
      rw [List.map_append] at e'
      exact e'
    | _ => exact ⟨e, rfl⟩
  · have hz' : z ∈ r.invited ++ [q] := by simpa using hz
    rcases List.mem_append.mp hz' with h | h
    · exact R.wf.apart z (by simpa using h)
    · have : z = q := by simpa using h
      rw [this]
      exact hq
  · show r.members.length + (r.invited ++ [q]).length ≤ 12
    rw [List.length_append]
    simp
    omega
theorem memberOf_map {r : Kcs8.Room} (g : Kcs8.Member → Kcs8.Member) (hg : ∀ m, (g m).who = m.who) (q : Nat) : Kcs8.memberOf { r with members := r.members.map g } q = (Kcs8.memberOf r q).map g := by
  unfold Kcs8.memberOf
  show (r.members.map g).find? _ = _
  induction r.members with
  | nil => rfl
  | cons x l ih =>
    rw [List.map_cons]
    by_cases c : x.who = q
    · rw [List.find?_cons_of_pos (by simp [hg, c]), List.find?_cons_of_pos (by simp [c])]
      rfl
    · rw [List.find?_cons_of_neg (by simp [hg, c]), List.find?_cons_of_neg (by simp [c])]
      exact ih
/-- a member is changed -/
theorem RoomOk.setMember (R : RoomOk A H L r) {q : Nat} {m : Kcs8.Member} (hm : Kcs8.memberOf r q = some m) (g : Kcs8.Member → Kcs8.Member) (hg : ∀ m, (g m).who = m.who) (hs : (g m).since ≤ (g m).read ∧ (g m).since ≤ r.messages.length) :
    RoomGoes A H L r (upd H (L.a (.mem q)) (memO A (L.d (.mem q)) (g m))) L { r with members := r.members.map fun y => if y.who = q then g y else y } := by
  have hg' : ∀ y : Kcs8.Member, (if y.who = q then g y else y).who = y.who := fun y => by
    split
    · exact hg y
    · rfl
  have ew : (r.members.map fun y => if y.who = q then g y else y).map (·.who) = r.members.map (·.who) := by
    rw [List.map_map]
    exact List.map_congr_left fun y _ => hg' y
  have ei : ∀ z, Kcs8.isIn { r with members := r.members.map fun y => if y.who = q then g y else y } z = Kcs8.isIn r z := fun z => by
    unfold Kcs8.isIn
    rw [memberOf_map _ hg']
    cases Kcs8.memberOf r z <;> rfl
  refine Ch.goes (Ch.tell ((Ch.start R.reg).alter (x := .mem q) (o := memO A (L.d (.mem q)) m) (o' := memO A (L.d (.mem q)) (g m)) (by show (Kcs8.memberOf r q).map _ = _; rw [hm]; rfl) rfl) fun x o e => ?_) rfl ⟨?_, fun z hz => ?_, ?_, R.wf.msgs, fun z hz => ?_, R.wf.mw⟩
  · cases x with
    | mem p =>
      refine ⟨?_, rfl⟩
      have e' : (Kcs8.memberOf { r with members := r.members.map fun y => if y.who = q then g y else y } p).map (fun m => memO A (L.d (.mem p)) m) = some o := e
      rw [memberOf_map _ hg'] at e'
      by_cases c : p = q
      · subst c
        rw [setF_same]
        rw [hm] at e'
        have w := (memberOf_who hm).2
        have e2 : some (memO A (L.d (.mem p)) (if m.who = p then g m else m)) = some o := e'
        rw [if_pos w] at e2
        exact e2
      · rw [setF_ne (by intro z; cases z; exact c rfl)]
        show (Kcs8.memberOf r p).map _ = _
        cases h : Kcs8.memberOf r p with
        | none =>
          rw [h] at e'
          cases e'
        | some y =>
          rw [h] at e'
          have w := (memberOf_who h).2
          have e2 : some (memO A (L.d (.mem p)) (if y.who = q then g y else y)) = some o := e'
          rw [if_neg (by rw [w]; exact c)] at e2
          exact e2
    | mems =>
      refine ⟨?_, rfl⟩
      have e' : some (HO.lst ((r.members.map fun y => if y.who = q then g y else y).map fun m => V.ref (L.a (.mem m.who)))) = some o := e
      have e2 : (r.members.map fun y => if y.who = q then g y else y).map (fun m => V.ref (L.a (.mem m.who))) = r.members.map fun m => V.ref (L.a (.mem m.who)) := by
        rw [List.map_map]
        exact List.map_congr_left fun y _ => by
          show V.ref (L.a (.mem (if y.who = q then g y else y).who)) = _
          rw [hg' y]
      rw [e2] at e'
      exact e'
    | _ => exact ⟨e, rfl⟩
  · show ((r.members.map fun y => if y.who = q then g y else y).map (·.who)).Nodup
    rw [ew]
    exact R.wf.nd
  · rw [ei]
    exact R.wf.apart z hz
  · show (r.members.map fun y => if y.who = q then g y else y).length + r.invited.length ≤ 12
    rw [List.length_map]
    exact R.wf.few
  · obtain ⟨y, hy, e⟩ := List.mem_map.mp (show z ∈ r.members.map fun y => if y.who = q then g y else y from hz)
    by_cases c : y.who = q
    · rw [if_pos c] at e
      have h1 := R.wf.mem hy
      rw [c, hm] at h1
      cases h1
      rw [← e]
      exact hs
    · rw [if_neg c] at e
      rw [← e]
      exact R.wf.sr y hy
theorem memberOf_add {r : Kcs8.Room} {m : Kcs8.Member} {q : Nat} : Kcs8.memberOf { r with members := r.members ++ [m] } q = (Kcs8.memberOf r q).or (if m.who = q then some m else none) := by
  unfold Kcs8.memberOf
  show (r.members ++ [m]).find? _ = _
  rw [List.find?_append]
  congr 1
  by_cases c : m.who = q
  · rw [List.find?_cons_of_pos (by simp [c]), if_pos c]
  · rw [List.find?_cons_of_neg (by simp [c]), if_neg c]
    rfl
/-- one more in it -/
theorem RoomOk.addMember (R : RoomOk A H L r) {m : Kcs8.Member} (h0 : Kcs8.memberOf r m.who = none) (hi : r.invited.contains m.who = false) (hf : r.members.length + r.invited.length < 12) (hs : m.since ≤ m.read ∧ m.since ≤ r.messages.length) {x dx : Addr} (np : H x = none) (S : Same H H1) (h : H1 x = some (memO A dx m)) :
    RoomGoes A H L r (upd H1 (L.a .mems) (.lst ((r.members.map fun m => V.ref (L.a (.mem m.who))) ++ [.ref x]))) ⟨setF L.a (.mem m.who) x, setF L.d (.mem m.who) dx⟩ { r with members := r.members ++ [m] } := by
  refine Ch.goes (Ch.tell (((Ch.start R.reg).new (x := .mem m.who) np S h).alter (x := .mems) (p := L.a .mems) (o' := .lst ((r.members.map fun m => V.ref (L.a (.mem m.who))) ++ [V.ref x])) ((setF_ne (by intro z; cases z)).trans rfl) (setF_ne (by intro z; cases z))) fun y o e => ?_) rfl ⟨?_, fun z hz => ?_, ?_, R.wf.msgs, fun z hz => ?_, R.wf.mw⟩
  · cases y with
    | mem p =>
      refine ⟨?_, rfl⟩
      have e' : (Kcs8.memberOf { r with members := r.members ++ [m] } p).map (fun y => memO A (setF L.d (.mem m.who) dx (.mem p)) y) = some o := e
      rw [memberOf_add] at e'
      rw [setF_ne (by intro z; cases z)]
      by_cases c : p = m.who
      · subst c
        rw [setF_same]
        rw [h0, if_pos rfl, setF_same] at e'
        exact e'
      · rw [setF_ne (by intro z; cases z; exact c rfl)]
        rw [setF_ne (by intro z; cases z; exact c rfl), if_neg (fun z => c z.symm), Option.or_none] at e'
        exact e'
    | mems =>
      refine ⟨?_, rfl⟩
      have e' : some (HO.lst ((r.members ++ [m]).map fun y => V.ref (setF L.a (.mem m.who) x (.mem y.who)))) = some o := e
      rw [List.map_append] at e'
      have e2 : r.members.map (fun y => V.ref (setF L.a (.mem m.who) x (.mem y.who))) = r.members.map fun y => V.ref (L.a (.mem y.who)) := List.map_congr_left fun y hy => by
        rw [setF_ne]
        intro z
        injection z with z
        have := R.wf.mem hy
        rw [z, h0] at this
        cases this
      rw [e2] at e'
      have e3 : [m].map (fun y => V.ref (setF L.a (.mem m.who) x (.mem y.who))) = [V.ref x] := by
        show [V.ref (setF L.a (.mem m.who) x (.mem m.who))] = _
        rw [setF_same]
      rw [e3] at e'
      exact e'
    | _ => exact ⟨e, rfl⟩
  · show ((r.members ++ [m]).map (·.who)).Nodup
    rw [List.map_append, List.nodup_append]
    refine ⟨R.wf.nd, by simp, fun a ha b hb q => ?_⟩
    have hb' : b = m.who := by simpa using hb
    obtain ⟨y, hy, e⟩ := List.mem_map.mp ha
    have w := R.wf.mem hy
    rw [e, q, hb', h0] at w
    cases w
  · show Kcs8.isIn { r with members := r.members ++ [m] } z = false
    unfold Kcs8.isIn
    rw [memberOf_add]
    have w := R.wf.apart z hz
    unfold Kcs8.isIn at w
    cases h2 : Kcs8.memberOf r z with
    | some y =>
      rw [h2] at w
      cases w
    | none =>
      rw [if_neg (fun q => by rw [q] at hi; rw [hi] at hz; cases hz)]
      rfl
  · show (r.members ++ [m]).length + r.invited.length ≤ 12
    rw [List.length_append]
    simp
    omega
  · rcases List.mem_append.mp (show z ∈ r.members ++ [m] from hz) with h1 | h1
    · exact R.wf.sr z h1
    · have : z = m := by simpa using h1
      rw [this]
      exact hs
end
theorem RoomOk.same {A : Ad} {H H' : Hp} {L : RL} {r : Kcs8.Room} (R : RoomOk A H L r) (S : Same H H') : RoomOk A H' L r := ⟨R.reg.same fun x o _ h => S _ _ h, R.wf⟩
theorem RoomGoes.same {A : Ad} {H H' H2 : Hp} {L L' : RL} {r r' : Kcs8.Room} (G : RoomGoes A H L r H' L' r') (S : Same H' H2) : RoomGoes A H L r H2 L' r' :=
  ⟨G.here, G.ok.same S, G.frm.trans (Frm.same fun b o h _ => S b o h)⟩
theorem RoomOk.del {A : Ad} {H : Hp} {L : RL} {r : Kcs8.Room} {t : Addr} (R : RoomOk A H L r) (n : ¬ Own L.a (roomC A L r) t) : RoomOk A (del H t) L r := ⟨R.reg.del n, R.wf⟩
theorem set_head {m : Kcs8.Member} {l : List Kcs8.Member} (nd : ((m :: l).map (·.who)).Nodup) (g : Kcs8.Member → Kcs8.Member) : (m :: l).map (fun y => if y.who = m.who then g y else y) = g m :: l := by
  rw [List.map_cons, if_pos rfl]
  congr 1
  rw [List.map_cons, List.nodup_cons] at nd
  have : l.map (fun y => if y.who = m.who then g y else y) = l.map id := List.map_congr_left fun y hy => by
    rw [if_neg (fun e => nd.1 (List.mem_map.mpr ⟨y, hy, e⟩))]
    rfl
  rw [this, List.map_id]
/-! ### messages of a room -/
def RL.putM (L : RL) (n : Nat) (N : ML) : RL := ⟨fun y => match y with
  | .msg i x => if i = n then N.a x else L.a (.msg i x)
  | y => L.a y, fun y => match y with
  | .msg i x => if i = n then N.d else L.d (.msg i x)
  | y => L.d y⟩
theorem RL.putM_here {L : RL} {n : Nat} {N : ML} : (L.putM n N).ms n = N := by
  unfold RL.putM RL.ms
  simp
theorem RL.putM_else {L : RL} {n i : Nat} {N : ML} (h : ¬ i = n) : (L.putM n N).ms i = L.ms i := by
  unfold RL.putM RL.ms
  simp [h]
/-- a message of the room goes -/
theorem RoomOk.liftM {A : Ad} {H H' : Hp} {L : RL} {r : Kcs8.Room} {N : ML} {n : Nat} {y y' : Kcs8.Message} (R : RoomOk A H L r) (h : r.messages[n]? = some y) (G : MsgGoes A H (L.ms n) y H' N y') :
    RoomGoes A H L r H' (L.putM n N) (Kcs8.withMessage r n y') := by
  have hlt := (List.getElem?_eq_some_iff.mp h).1
  have e0 : (fun x => roomC A L r (.msg n x)) = msgC A (L.ms n) y := funext fun x => by
    show (r.messages[n]?).bind _ = _
    rw [h]
    rfl
  have C : Ch H L.a (roomC A L r) H' (L.putM n N).a (roomC A (L.putM n N) (Kcs8.withMessage r n y')) := by
    refine Reg.sub (S := MR) (fun x => .msg n x) R.reg G.ok.reg (by rw [e0]; exact G.frm) (fun s => ?_) (fun s => ?_) fun x hx => ?_
    · show (if n = n then N.a s else _) = _
      rw [if_pos rfl]
    · show ((r.messages.set n y')[n]?).bind (fun z => msgC A ((L.putM n N).ms n) z s) = _
      rw [List.getElem?_set_self hlt, RL.putM_here]
      rfl
    · cases x with
      | room => exact ⟨rfl, rfl⟩
      | mems => exact ⟨rfl, rfl⟩
      | invs => exact ⟨rfl, rfl⟩
      | mem p => exact ⟨rfl, rfl⟩
      | msgs =>
        refine ⟨rfl, ?_⟩
        show some (HO.lst ((List.range (r.messages.set n y').length).map fun i => V.ref ((L.putM n N).a (.msg i .msg)))) = some (HO.lst ((List.range r.messages.length).map fun i => V.ref (L.a (.msg i .msg))))
        rw [List.length_set]
        have same : ∀ i, (L.putM n N).a (.msg i .msg) = L.a (.msg i .msg) := fun i => by
          show (if i = n then N.a .msg else _) = _
          by_cases c : i = n
          · rw [if_pos c, G.here, c]
            rfl
          · rw [if_neg c]
        simp only [same]
      | msg i x =>
        have c : ¬ i = n := fun c => hx x (by rw [c])
        refine ⟨?_, ?_⟩
        · show (if i = n then N.a x else _) = _
          rw [if_neg c]
        · show ((r.messages.set n y')[i]?).bind (fun z => msgC A ((L.putM n N).ms i) z x) = (r.messages[i]?).bind _
          rw [List.getElem?_set_ne (fun z => c z.symm), RL.putM_else c]
  refine C.goes rfl ⟨R.wf.nd, R.wf.apart, R.wf.few, ?_, fun m hm => ⟨(R.wf.sr m hm).1, (by show m.since ≤ (r.messages.set n y').length; rw [List.length_set]; exact (R.wf.sr m hm).2)⟩, fun z hz => ?_⟩
  · show (r.messages.set n y').length ≤ 128
    rw [List.length_set]
    exact R.wf.msgs
  · have hz' : z ∈ r.messages.set n y' := hz
    rcases List.mem_or_eq_of_mem_set hz' with h1 | h1
    · exact R.wf.mw z h1
    · rw [h1]
      exact G.ok.wf
/-- one more message -/
theorem RoomOk.addM {A : Ad} {H H1 : Hp} {L : RL} {r : Kcs8.Room} {N : ML} {y : Kcs8.Message} (R : RoomOk A H L r) (hl : r.messages.length < 128) (G : MsgOk A H1 N y) (F : ∀ b o, H b = some o → H1 b = some o ∧ ¬ Own N.a (msgC A N y) b) :
    RoomGoes A H L r (upd H1 (L.a .msgs) (.lst (((List.range r.messages.length).map fun n => V.ref (L.a (.msg n .msg))) ++ [.ref (N.a .msg)]))) (L.putM r.messages.length N) { r with messages := r.messages ++ [y] } := by
  have old : ∀ i, i ≠ r.messages.length → (r.messages ++ [y])[i]? = r.messages[i]? := fun i hi => by
    rw [List.getElem?_append]
    by_cases c : i < r.messages.length
    · rw [if_pos c]
    · rw [if_neg c, List.getElem?_eq_none_iff.mpr (by simp; omega), List.getElem?_eq_none_iff.mpr (by omega)]
  have new : (r.messages ++ [y])[r.messages.length]? = some y := by simp
  have C1 : Ch H L.a (roomC A L r) H1 (L.putM r.messages.length N).a (fun q => match q with
      | .msg i x => if i = r.messages.length then msgC A N y x else roomC A L r (.msg i x)
      | q => roomC A L r q) := by
    refine Reg.sub (S := MR) (fun x => .msg r.messages.length x) R.reg G.reg ⟨fun b o e _ => (F b o e).1, fun b z => .inr ?_⟩ (fun s => ?_) (fun s => ?_) fun q hq => ?_
    · cases q : H b with
      | none => rfl
      | some o => exact absurd z (F b o q).2
    · show (if r.messages.length = r.messages.length then N.a s else _) = _
      rw [if_pos rfl]
    · show (if r.messages.length = r.messages.length then msgC A N y s else _) = _
      rw [if_pos rfl]
    · cases q with
      | msg i x =>
        have c : ¬ i = r.messages.length := fun c => hq x (by rw [c])
        refine ⟨?_, ?_⟩
        · show (if i = r.messages.length then N.a x else _) = _
          rw [if_neg c]
        · show (if i = r.messages.length then _ else _) = _
          rw [if_neg c]
      | _ => exact ⟨rfl, rfl⟩
  have C2 := C1.alter (x := .msgs) (p := L.a .msgs) (o := .lst ((List.range r.messages.length).map fun n => .ref (L.a (.msg n .msg)))) (o' := .lst (((List.range r.messages.length).map fun n => V.ref (L.a (.msg n .msg))) ++ [.ref (N.a .msg)])) rfl rfl
  refine Ch.goes (Ch.tell C2 fun q o e => ⟨?_, rfl⟩) rfl ⟨R.wf.nd, R.wf.apart, R.wf.few, ?_, fun m hm => ⟨(R.wf.sr m hm).1, (by show m.since ≤ (r.messages ++ [y]).length; have := (R.wf.sr m hm).2; rw [List.length_append]; omega)⟩, fun z hz => ?_⟩
  · cases q with
    | msg i x =>
      rw [setF_ne (by intro z; cases z)]
      have e' : ((r.messages ++ [y])[i]?).bind (fun z => msgC A ((L.putM r.messages.length N).ms i) z x) = some o := e
      show (if i = r.messages.length then msgC A N y x else roomC A L r (.msg i x)) = some o
      by_cases c : i = r.messages.length
      · rw [if_pos c]
        rw [c, new, RL.putM_here] at e'
        exact e'
      · rw [if_neg c]
        rw [old i c, RL.putM_else c] at e'
        exact e'
    | msgs =>
      rw [setF_same]
      have e' : some (HO.lst ((List.range (r.messages ++ [y]).length).map fun i => V.ref ((L.putM r.messages.length N).a (.msg i .msg)))) = some o := e
      rw [List.length_append, List.length_singleton, List.range_succ, List.map_append] at e'
      have e3 : (List.range r.messages.length).map (fun i => V.ref ((L.putM r.messages.length N).a (.msg i .msg))) = (List.range r.messages.length).map fun i => V.ref (L.a (.msg i .msg)) := List.map_congr_left fun i hi => by
        have := List.mem_range.mp hi
        show V.ref (if i = r.messages.length then _ else _) = _
        rw [if_neg (by omega)]
      have e4 : [r.messages.length].map (fun i => V.ref ((L.putM r.messages.length N).a (.msg i .msg))) = [V.ref (N.a .msg)] := by
        show [V.ref (if r.messages.length = r.messages.length then N.a .msg else _)] = _
        rw [if_pos rfl]
      rw [e3, e4] at e'
      exact e'
    | room => exact e
    | mems => exact e
    | invs => exact e
    | mem p => exact e
  · show (r.messages ++ [y]).length ≤ 128
    rw [List.length_append, List.length_singleton]
    omega
  · rcases List.mem_append.mp (show z ∈ r.messages ++ [y] from hz) with h1 | h1
    · exact R.wf.mw z h1
    · have : z = y := by simpa using h1
      rw [this]
      exact G.wf
/-- what a message doesn't own, where the room doesn't -/
theorem RoomOk.outM {A : Ad} {L : RL} {r : Kcs8.Room} {t : Addr} {n : Nat} {y : Kcs8.Message} (h : r.messages[n]? = some y) (no : ¬ Own L.a (roomC A L r) t) : ¬ Own (L.ms n).a (msgC A (L.ms n) y) t := fun ⟨x, o, e, q⟩ =>
  no ⟨.msg n x, o, by show (r.messages[n]?).bind _ = _; rw [h]; exact e, q⟩
theorem RoomGoes.del {A : Ad} {H H' : Hp} {L L' : RL} {r r' : Kcs8.Room} (G : RoomGoes A H L r H' L' r') (t : Addr) : RoomGoes A (TR.del H t) L r H' L' r' := ⟨G.here, G.ok, G.frm.del t⟩
theorem sees_at {r : Kcs8.Room} {x : Kcs8.Member} {n : Nat} {y : Kcs8.Message} (h : Kcs8.sees r x n = some y) : r.messages[n]? = some y ∧ x.since ≤ n := by
  unfold Kcs8.sees at h
  by_cases c : x.since ≤ n
  · rw [if_pos c] at h
    exact ⟨h, c⟩
  · rw [if_neg c] at h
    cases h
end TR
namespace TR
open PySem PySem.Spec PyProof.Rows L2
/-! ### how the house lies in the heap -/
inductive HR where
  | house | founded | row (f : Nat) | rm (f k : Nat) (x : RR)
  deriving DecidableEq
structure HL where
  a : HR → Addr
  d : HR → Addr
def HL.rm (L : HL) (f k : Nat) : RL := ⟨fun x => L.a (.rm f k x), fun x => L.d (.rm f k x)⟩
def houseF (a : Addr) : List (Str × V) := [("founded", .ref a)]
theorem houseF_founded {a : Addr} : (houseF a).lookup ("founded" : Str) = some (.ref a) := lk_here
theorem houseF_put {a b : Addr} : putF ("founded" : Str) (.ref b) (houseF a) = houseF b := put_here
theorem houseF_no {a : Addr} {m : Str} (h : (m == ("founded" : Str)) = false) : (houseF a).lookup m = none := (lk_past h).trans rfl
def houseC (A : Ad) (L : HL) (m : M) : HR → Option HO
  | .house => some (.ins A.House (L.d .house) (houseF (L.a .founded)))
  | .founded => some (.lst ((List.range m.length).map fun f => .ref (L.a (.row f))))
  | .row f => (m[f]?).map fun row => .lst ((List.range row.length).map fun k => .ref (L.a (.rm f k .room)))
  | .rm f k x => (rmAt m f k).bind fun r => roomC A (L.rm f k) r x
structure WfH (m : M) : Prop where
  wf : WfM m
  rooms : ∀ f k r, rmAt m f k = some r → WfR r
  rows : ∀ (f : Nat) row, m[f]? = some row → row.length ≤ 4
structure HouseOk (A : Ad) (H : Hp) (L : HL) (m : M) : Prop where
  reg : Reg H L.a (houseC A L m)
  wf : WfH m
structure HouseGoes (A : Ad) (H : Hp) (L : HL) (m : M) (H' : Hp) (L' : HL) (m' : M) : Prop where
  here : L'.a .house = L.a .house
  ok : HouseOk A H' L' m'
  frm : Frm H L.a (houseC A L m) H' L'.a (houseC A L' m')
theorem HouseGoes.refl {A : Ad} {H : Hp} {L : HL} {m : M} (h : HouseOk A H L m) : HouseGoes A H L m H L m := ⟨rfl, h, Frm.refl⟩
theorem HouseGoes.trans {A : Ad} {H H1 H2 : Hp} {L L1 L2 : HL} {m m1 m2 : M} (h : HouseGoes A H L m H1 L1 m1) (g : HouseGoes A H1 L1 m1 H2 L2 m2) : HouseGoes A H L m H2 L2 m2 := ⟨g.here.trans h.here, g.ok, h.frm.trans g.frm⟩
section
variable {A : Ad} {H : Hp} {L : HL} {m : M}
theorem HouseOk.house (R : HouseOk A H L m) : H (L.a .house) = some (.ins A.House (L.d .house) (houseF (L.a .founded))) := R.reg.at_ .house _ rfl
theorem HouseOk.founded (R : HouseOk A H L m) : H (L.a .founded) = some (.lst ((List.range m.length).map fun f => .ref (L.a (.row f)))) := R.reg.at_ .founded _ rfl
theorem HouseOk.row (R : HouseOk A H L m) {f : Nat} {row : List Kcs8.Room} (h : m[f]? = some row) : H (L.a (.row f)) = some (.lst ((List.range row.length).map fun k => .ref (L.a (.rm f k .room)))) := R.reg.at_ (.row f) _ (by show (m[f]?).map _ = _; rw [h]; rfl)
theorem HouseOk.room (R : HouseOk A H L m) {f k : Nat} {r : Kcs8.Room} (h : rmAt m f k = some r) : RoomOk A H (L.rm f k) r := by
  have e : ∀ x, houseC A L m (.rm f k x) = roomC A (L.rm f k) r x := fun x => by
    show (rmAt m f k).bind _ = _
    rw [h]
    rfl
  exact ⟨⟨fun x o hx => R.reg.at_ (.rm f k x) o ((e x).trans hx), fun x y o o' hx hy q => by
    have := R.reg.inj (.rm f k x) (.rm f k y) o o' ((e x).trans hx) ((e y).trans hy) q
    injection this⟩, R.wf.rooms f k r h⟩
def HL.put (L : HL) (f k : Nat) (N : RL) : HL := ⟨fun y => match y with
  | .rm f' k' x => if f' = f ∧ k' = k then N.a x else L.a (.rm f' k' x)
  | y => L.a y, fun y => match y with
  | .rm f' k' x => if f' = f ∧ k' = k then N.d x else L.d (.rm f' k' x)
  | y => L.d y⟩
theorem HL.put_here {f k : Nat} {N : RL} : (L.put f k N).rm f k = N := by
  unfold HL.put HL.rm
  simp
theorem HL.put_else {f k f' k' : Nat} {N : RL} (h : ¬ (f' = f ∧ k' = k)) : (L.put f k N).rm f' k' = L.rm f' k' := by
  unfold HL.put HL.rm
  simp [h]
theorem WfH.set (W : WfH m) {f k : Nat} {r r' : Kcs8.Room} (h : rmAt m f k = some r) (hf : r'.founder = r.founder) (hk : r'.number = r.number) (w : WfR r') : WfH (setRm m f k r') := by
  have key := W.wf.key f k r h
  refine ⟨W.wf.set h (hf.trans key.1) (hk.trans key.2), fun f' k' z hz => ?_, fun f' row hrow => ?_⟩
  · rw [rmAt_set h] at hz
    by_cases c : f' = f ∧ k' = k
    · rw [if_pos c] at hz
      cases hz
      exact w
    · rw [if_neg c] at hz
      exact W.rooms f' k' z hz
  · unfold setRm at hrow
    rw [List.getElem?_modify] at hrow
    obtain ⟨row0, h1, h2⟩ := Option.map_eq_some_iff.mp hrow
    have := W.rows f' row0 h1
    rw [← h2]
    split
    · rw [List.length_set]
      exact this
    · exact this
/-- a room of the house goes -/
theorem HouseOk.lift {H' : Hp} {N : RL} {f k : Nat} {r r' : Kcs8.Room} (R : HouseOk A H L m) (h : rmAt m f k = some r) (G : RoomGoes A H (L.rm f k) r H' N r') (hf : r'.founder = r.founder) (hk : r'.number = r.number) :
    HouseGoes A H L m H' (L.put f k N) (setRm m f k r') := by
  have key := R.wf.wf.key f k r h
  have e0 : (fun x => houseC A L m (.rm f k x)) = roomC A (L.rm f k) r := funext fun x => by
    show (rmAt m f k).bind _ = _
    rw [h]
    rfl
  have C : Ch H L.a (houseC A L m) H' (L.put f k N).a (houseC A (L.put f k N) (setRm m f k r')) := by
    refine Reg.sub (S := RR) (fun x => .rm f k x) R.reg G.ok.reg (by rw [e0]; exact G.frm) (fun s => ?_) (fun s => ?_) fun y hy => ?_
    · show (if f = f ∧ k = k then N.a s else _) = _
      rw [if_pos ⟨rfl, rfl⟩]
    · show (rmAt (setRm m f k r') f k).bind (fun z => roomC A ((L.put f k N).rm f k) z s) = _
      rw [rmAt_set h, if_pos ⟨rfl, rfl⟩, HL.put_here]
      rfl
    · cases y with
      | house => exact ⟨rfl, rfl⟩
      | founded =>
        refine ⟨rfl, ?_⟩
        show some (HO.lst ((List.range (setRm m f k r').length).map _)) = some (HO.lst ((List.range m.length).map _))
        unfold setRm
        rw [List.length_modify]
        rfl
      | row f' =>
        refine ⟨rfl, ?_⟩
        show ((setRm m f k r')[f']?).map _ = (m[f']?).map _
        unfold setRm
        rw [List.getElem?_modify]
        have same : ∀ k', (L.put f k N).a (.rm f' k' .room) = L.a (.rm f' k' .room) := fun k' => by
          show (if f' = f ∧ k' = k then N.a .room else _) = _
          by_cases c : f' = f ∧ k' = k
          · rw [if_pos c, G.here, c.1, c.2]
            rfl
          · rw [if_neg c]
        cases m[f']? with
        | none => rfl
        | some row =>
          show some (HO.lst ((List.range (if f = f' then row.set k r' else row).length).map fun k' => V.ref ((L.put f k N).a (.rm f' k' .room)))) = some (HO.lst ((List.range row.length).map fun k' => V.ref (L.a (.rm f' k' .room))))
          have el : (if f = f' then row.set k r' else row).length = row.length := by
            split
            · rw [List.length_set]
            · rfl
          rw [el]
          simp only [same]
      | rm f' k' x =>
        have c : ¬ (f' = f ∧ k' = k) := fun c => hy x (by rw [c.1, c.2])
        refine ⟨?_, ?_⟩
        · show (if f' = f ∧ k' = k then N.a x else _) = _
          rw [if_neg c]
        · show (rmAt (setRm m f k r') f' k').bind (fun z => roomC A ((L.put f k N).rm f' k') z x) = (rmAt m f' k').bind _
          rw [rmAt_set h, if_neg c, HL.put_else c]
  exact ⟨rfl, ⟨C.reg, R.wf.set h hf hk G.ok.wf⟩, C.frm⟩
/-- one more room of p's -/
theorem HouseOk.add {H1 : Hp} {N : RL} {p : Nat} {r : Kcs8.Room} {row : List Kcs8.Room} (R : HouseOk A H L m) (h : m[p]? = some row) (hl : row.length < 4) (G : RoomOk A H1 N r) (S : ∀ b o, H b = some o → H1 b = some o ∧ ¬ Own N.a (roomC A N r) b) (hf : r.founder = p) (hk : r.number = row.length) :
    HouseGoes A H L m (upd H1 (L.a (.row p)) (.lst (((List.range row.length).map fun k => V.ref (L.a (.rm p k .room))) ++ [.ref (N.a .room)]))) (L.put p row.length N) (addRm m p r) := by
  have hr0 : ∀ x, houseC A L m (.rm p row.length x) = none := fun x => by
    show (rmAt m p row.length).bind _ = none
    have : rmAt m p row.length = none := by
      unfold rmAt
      rw [h]
      exact List.getElem?_eq_none_iff.mpr (Nat.le_refl _)
    rw [this]
    rfl
  -- the new room beside the house
  have C1 : Ch H L.a (houseC A L m) H1 (L.put p row.length N).a (fun y => match y with
      | .rm f k x => if f = p ∧ k = row.length then roomC A N r x else houseC A L m (.rm f k x)
      | y => houseC A L m y) := by
    refine Reg.sub (S := RR) (fun x => .rm p row.length x) R.reg G.reg ⟨fun b o e _ => (S b o e).1, fun b z => .inr ?_⟩ (fun s => ?_) (fun s => ?_) fun y hy => ?_
    · cases q : H b with
      | none => rfl
      | some o => exact absurd z (S b o q).2
    · show (if p = p ∧ row.length = row.length then N.a s else _) = _
      rw [if_pos ⟨rfl, rfl⟩]
    · show (if p = p ∧ row.length = row.length then roomC A N r s else _) = _
      rw [if_pos ⟨rfl, rfl⟩]
    · cases y with
      | rm f k x =>
        have c : ¬ (f = p ∧ k = row.length) := fun c => hy x (by rw [c.1, c.2])
        refine ⟨?_, ?_⟩
        · show (if f = p ∧ k = row.length then N.a x else _) = _
          rw [if_neg c]
        · show (if f = p ∧ k = row.length then _ else _) = _
          rw [if_neg c]
      | _ => exact ⟨rfl, rfl⟩
  have C2 := C1.alter (x := .row p) (p := L.a (.row p)) (o := .lst ((List.range row.length).map fun k => .ref (L.a (.rm p k .room)))) (o' := .lst (((List.range row.length).map fun k => V.ref (L.a (.rm p k .room))) ++ [.ref (N.a .room)])) (by show (m[p]?).map _ = _; rw [h]; rfl) rfl
  have C3 : Ch H L.a (houseC A L m) (upd H1 (L.a (.row p)) (.lst (((List.range row.length).map fun k => V.ref (L.a (.rm p k .room))) ++ [.ref (N.a .room)]))) (L.put p row.length N).a (houseC A (L.put p row.length N) (addRm m p r)) := by
    refine C2.tell fun y o e => ⟨?_, rfl⟩
    cases y with
    | house => exact e
    | founded =>
      have e' : some (HO.lst ((List.range (addRm m p r).length).map fun f => V.ref (L.a (.row f)))) = some o := e
      unfold addRm at e'
      rw [List.length_modify] at e'
      exact e'
    | row f =>
      have e' : ((addRm m p r)[f]?).map (fun row' => HO.lst ((List.range row'.length).map fun k' => V.ref ((L.put p row.length N).a (.rm f k' .room)))) = some o := e
      unfold addRm at e'
      rw [List.getElem?_modify] at e'
      by_cases c : f = p
      · subst c
        rw [setF_same]
        rw [h] at e'
        have e2 : some (HO.lst ((List.range (if f = f then row ++ [r] else row).length).map fun k' => V.ref ((L.put f row.length N).a (.rm f k' .room)))) = some o := e'
        rw [if_pos rfl, List.length_append, List.length_singleton, List.range_succ, List.map_append] at e2
        have e3 : (List.range row.length).map (fun k' => V.ref ((L.put f row.length N).a (.rm f k' .room))) = (List.range row.length).map fun k' => V.ref (L.a (.rm f k' .room)) := List.map_congr_left fun k' hk' => by
          show V.ref (if f = f ∧ k' = row.length then N.a .room else _) = _
          rw [if_neg (fun c => by have := List.mem_range.mp hk'; omega)]
        have e4 : [row.length].map (fun k' => V.ref ((L.put f row.length N).a (.rm f k' .room))) = [V.ref (N.a .room)] := by
          show [V.ref (if f = f ∧ row.length = row.length then N.a .room else _)] = _
          rw [if_pos ⟨rfl, rfl⟩]
        rw [e3, e4] at e2
        exact e2
      · rw [setF_ne (by intro z; injection z with z; exact c z)]
        show (m[f]?).map _ = _
        cases q : m[f]? with
        | none =>
          rw [q] at e'
          cases e'
        | some row' =>
          rw [q] at e'
          have e2 : some (HO.lst ((List.range (if p = f then row' ++ [r] else row').length).map fun k' => V.ref ((L.put p row.length N).a (.rm f k' .room)))) = some o := e'
          rw [if_neg (fun z => c z.symm)] at e2
          have e3 : (List.range row'.length).map (fun k' => V.ref ((L.put p row.length N).a (.rm f k' .room))) = (List.range row'.length).map fun k' => V.ref (L.a (.rm f k' .room)) := List.map_congr_left fun k' hk' => by
            show V.ref (if f = p ∧ k' = row.length then N.a .room else _) = _
            rw [if_neg (fun z => c z.1)]
          rw [e3] at e2
          exact e2
    | rm f k x =>
      rw [setF_ne (by intro z; cases z)]
      have e' : (rmAt (addRm m p r) f k).bind (fun z => roomC A ((L.put p row.length N).rm f k) z x) = some o := e
      rw [rmAt_add h] at e'
      show (if f = p ∧ k = row.length then roomC A N r x else houseC A L m (.rm f k x)) = some o
      by_cases c : f = p ∧ k = row.length
      · rw [if_pos c]
        rw [if_pos c, c.1, c.2, HL.put_here] at e'
        exact e'
      · rw [if_neg c]
        rw [if_neg c, HL.put_else c] at e'
        exact e'
  refine ⟨rfl, ⟨C3.reg, ⟨R.wf.wf.add h hf hk, fun f k z hz => ?_, fun f row' hrow => ?_⟩⟩, C3.frm⟩
  · rw [rmAt_add h] at hz
    by_cases c : f = p ∧ k = row.length
    · rw [if_pos c] at hz
      cases hz
      exact G.wf
    · rw [if_neg c] at hz
      exact R.wf.rooms f k z hz
  · unfold addRm at hrow
    rw [List.getElem?_modify] at hrow
    obtain ⟨row0, h1, h2⟩ := Option.map_eq_some_iff.mp hrow
    have := R.wf.rows f row0 h1
    rw [← h2]
    by_cases c : p = f
    · rw [if_pos c]
      subst c
      rw [h] at h1
      cases h1
      rw [List.length_append, List.length_singleton]
      omega
    · rw [if_neg c]
      exact this
end
theorem HouseGoes.del {A : Ad} {H H' : Hp} {L L' : HL} {m m' : M} (G : HouseGoes A H L m H' L' m') (t : Addr) : HouseGoes A (TR.del H t) L m H' L' m' := ⟨G.here, G.ok, G.frm.del t⟩
theorem HouseOk.del {A : Ad} {H : Hp} {L : HL} {m : M} {t : Addr} (R : HouseOk A H L m) (n : ¬ Own L.a (houseC A L m) t) : HouseOk A (TR.del H t) L m := ⟨R.reg.del n, R.wf⟩
theorem HouseOk.same {A : Ad} {H H' : Hp} {L : HL} {m : M} (R : HouseOk A H L m) (S : Same H H') : HouseOk A H' L m := ⟨R.reg.same fun x o _ h => S _ _ h, R.wf⟩
theorem HouseGoes.from {A : Ad} {H H1 H' : Hp} {L L' : HL} {m m' : M} (R : HouseOk A H L m) (S : Same H H1) (G : HouseGoes A H1 L m H' L' m') : HouseGoes A H L m H' L' m' :=
  HouseGoes.trans ⟨rfl, R.same S, Frm.same fun b o h _ => S b o h⟩ G
/-- what a room doesn't own, where the house doesn't -/
theorem HouseOk.out {A : Ad} {L : HL} {m : M} {t : Addr} {f k : Nat} {r : Kcs8.Room} (h : rmAt m f k = some r) (n : ¬ Own L.a (houseC A L m) t) : ¬ Own (L.rm f k).a (roomC A (L.rm f k) r) t := fun ⟨x, o, e, q⟩ =>
  n ⟨.rm f k x, o, by show (rmAt m f k).bind _ = _; rw [h]; exact e, q⟩
end TR
namespace TR
open PySem PySem.Spec PyProof.Rows L2
/-! ### places in the list of calls -/
theorem cut_mid {x y z : List V} {i j : Int} (hi : i = (x.length : Int)) (hj : j = ((x.length + y.length : Nat) : Int)) : cutV (x ++ (y ++ z)) (some i) (some j) = y := by
  subst hi hj
  unfold cutV
  rw [HT.sIx_nat, HT.sIx_nat]
  have h1 : min x.length (x ++ (y ++ z)).length = x.length := by
    rw [List.length_append]
    omega
  have h2 : min (x.length + y.length) (x ++ (y ++ z)).length = x.length + y.length := by
    rw [List.length_append, List.length_append]
    omega
  rw [h1, h2, List.drop_left, Nat.add_sub_cancel_left, List.take_left]
theorem at_mid {x z : List V} {v : V} {i : Int} (hi : i = (x.length : Int)) : atI (x ++ (v :: z)) i = some v :=
  at_of (j := x.length) hi (by rw [List.getElem?_append_right (Nat.le_refl _), Nat.sub_self]; rfl)
def vI (l : List Int) : List V := l.map V.int
def vN (l : List Nat) : List V := l.map fun b => V.int (b : Nat)
theorem vI_ofN (l : List Nat) : vI (ofN l) = vN l := by
  unfold vI vN ofN
  rw [List.map_map]
  rfl
theorem vN_length (l : List Nat) : (vN l).length = l.length := List.length_map _
def rowV : Option (List Nat) → List V
  | none => []
  | some t => V.int (t.length : Nat) :: vN t
/-- the flat list of one call, as values -/
def flatC (d : Kcs8.Call) : List V := V.int (numC d) :: (vN (argsC d) ++ rowV (rowC d))
theorem flat_enc (d : Kcs8.Call) : vI (PyFlat.put1 (encC d)) = flatC d := by
  unfold encC flatC PyFlat.put1
  cases rowC d with
  | none =>
    show vI (((numC d : Int) :: ofN (argsC d)) ++ []) = _
    unfold vI rowV
    rw [List.append_nil, List.append_nil, List.map_cons]
    exact congrArg _ (vI_ofN _)
  | some t =>
    show vI (((numC d : Int) :: ofN (argsC d)) ++ (((ofN t).length : Int) :: ofN t ++ [])) = _
    unfold vI
    rw [List.append_nil, List.map_append, List.map_cons, List.map_cons]
    have e : (ofN t).length = t.length := List.length_map _
    rw [e]
    show V.int (numC d) :: (vI (ofN (argsC d)) ++ V.int (t.length : Int) :: vI (ofN t)) = _
    rw [vI_ofN, vI_ofN]
    rfl
def flatCs : List Kcs8.Call → List V
  | [] => []
  | d :: ds => flatC d ++ flatCs ds
theorem flat_put : ∀ ds : List Kcs8.Call, (PyFlat.put (ds.map encC)).map V.int = flatCs ds
  | [] => rfl
  | d :: ds => by
    show (PyFlat.put1 (encC d) ++ PyFlat.put (ds.map encC)).map V.int = _
    rw [List.map_append, flat_put ds]
    exact congrArg (· ++ _) (flat_enc d)
theorem flatCs_append : ∀ ds es : List Kcs8.Call, flatCs (ds ++ es) = flatCs ds ++ flatCs es
  | [], _ => rfl
  | d :: ds, es => by
    show flatC d ++ flatCs (ds ++ es) = _
    rw [flatCs_append ds es, ← List.append_assoc]
    rfl
/-- the answers so far -/
theorem told_append (l k : List (List Int)) : PyFlat.told (l ++ k) = PyFlat.told l ++ PyFlat.told k := by
  unfold PyFlat.told
  rw [List.flatMap_append]
theorem runM_append : ∀ (ds es : List Kcs8.Call) (m : M), runM m (ds ++ es) = runM m ds ++ runM (endM m ds) es
  | [], _, _ => rfl
  | d :: ds, es, m => by
    show _ :: runM _ (ds ++ es) = _ :: (runM _ ds ++ _)
    rw [runM_append ds es]
    rfl
theorem endM_append : ∀ (ds es : List Kcs8.Call) (m : M), endM m (ds ++ es) = endM (endM m ds) es
  | [], _, _ => rfl
  | d :: ds, es, m => by
    show endM _ (ds ++ es) = _
    rw [endM_append ds es]
    rfl
end TR
namespace TR
open PySem PySem.Spec PyProof.Rows L2
theorem MsgGoes.msg {A : Ad} {H H1 : Hp} {L L1 : ML} {x x1 : Kcs8.Message} (G : MsgGoes A H L x H1 L1 x1) : H1 (L.a .msg) = some (msgO A L1 x1) := by
  rw [← G.here]
  exact G.ok.msg
/-- a test of two parts: what follows when it is false is shown once -/
theorem ite_both {c : Bool} {A B X : Prop} (hB : X → B) (hF : c = false → X) (hA : c = true → (X → B) → A) : if c = true then A else B := by
  cases c with
  | true =>
    rw [if_pos rfl]
    exact hA rfl hB
  | false =>
    rw [if_neg Bool.false_ne_true]
    exact hB (hF rfl)
theorem yes_of {σ : L2.St} {H : Hp} {X Y : Hp → Prop} (h : X H) : tYes σ H (fun b H3 => if b = true then X H3 else Y H3) := by
  show if true = true then X H else Y H
  rw [if_pos rfl]
  exact h
/-- [[] for k in range(16)] -/
theorem new_rows {i : Nat} {vs : List Nat} {σ : L2.St} {H : Hp} {D : Addr} {Qd : Hp → Prop} (nD : H D = none) (hw : ∀ v : V, wipe ((wipe σ vs).set i (some v)) vs = wipe σ vs) (hd : ∀ H1 as, Rows16 H H1 D as → Qd H1) :
    ∃ W : Nat → Nat → Hp → Prop, (∃ m, W 0 m (upd H D (.lst []))) ∧ ∀ j m H, W j m H →
      ((Itr 0 16).stop j H ∧ Qd H) ∨ ((Itr 0 16).go j H ∧ ∃ Nx : Hp → Prop, (∀ H', Nx H' → ∃ m', m' < m ∧ W (j + 1) m' H') ∧ ∀ x H', (Itr 0 16).yld j H x H' → gName i x (wipe σ vs) H' fun σ2 H2 => wipe σ2 vs = wipe σ vs ∧ tYes σ2 H2 fun b H3 =>
        if b = true then tLst tNil σ2 H3 fun y H4 => ∃ acc, H4 D = some (.lst acc) ∧ acc.length < sizeLine ∧ Nx (upd H4 D (.lst (acc ++ [y]))) else Nx H3) := by
  refine lc_range (lo := 0) (n := 16) (fun i H' => Same H H' ∧ ∃ as : List Addr, as.length = i ∧ as.Nodup ∧ (∀ b ∈ as, H b = none ∧ b ≠ D ∧ H' b = some (.lst [])) ∧ H' D = some (.lst (as.map V.ref)))
      ⟨Same.upd_new nD, [], rfl, List.nodup_nil, fun b hb => (by cases hb), upd_same⟩ ?_ ?_
  · rintro i H' hi ⟨S, as, hl, nd, hb, hD⟩
    refine ⟨hw _, yes_of ?_⟩
    refine ⟨Nat.zero_le _, fun q nq => ⟨as.map V.ref, ?_, ?_, ?_, as ++ [q], ?_, ?_, ?_, ?_⟩⟩
    · rw [upd_ne (ne_of_none hD nq)]
      exact hD
    · rw [List.length_map, hl]
      exact small1000 (by omega)
    · intro b o e
      rw [upd_ne (ne_of_none e nD), upd_ne (ne_of_none (S b o e) nq)]
      exact S b o e
    · rw [List.length_append, hl]
      rfl
    · rw [List.nodup_append]
      refine ⟨nd, by simp, fun b hb' c hc e => ?_⟩
      have : c = q := by simpa using hc
      rw [this] at e
      have := (hb b hb').2.2
      rw [e, nq] at this
      cases this
    · intro b hb'
      rcases List.mem_append.mp hb' with h | h
      · obtain ⟨h1, h2, h3⟩ := hb b h
        refine ⟨h1, h2, ?_⟩
        rw [upd_ne h2, upd_ne (ne_of_none h3 nq)]
        exact h3
      · have e : b = q := by simpa using h
        subst e
        have nbD : b ≠ D := (ne_of_none hD nq).symm
        refine ⟨S.free nq, nbD, ?_⟩
        rw [upd_ne nbD]
        exact upd_same
    · rw [upd_same, List.map_append]
      rfl
  · rintro H1 ⟨S, as, hl, nd, hb, hD⟩
    exact hd H1 as ⟨S, hl, nd, hb, nD, hD⟩
/-- a new list of these numbers is given -/
def Gives (H : Hp) (l : List Int) (Q : VK) : Prop := ∀ H' q, Same H H' → H q = none → H' q = some (.lst (vI l)) → Q (.ref q) H'
theorem HouseGoes.same {A : Ad} {H H1 H2 : Hp} {L L1 : HL} {m m1 : M} (G : HouseGoes A H L m H1 L1 m1) (S : Same H1 H2) : HouseGoes A H L m H2 L1 m1 := ⟨G.here, G.ok.same S, G.frm.trans (Frm.same fun b o h _ => S b o h)⟩
/-- the house goes, then a new list of these numbers is given -/
def GivesAt (A : Ad) (H : Hp) (L : HL) (m m' : M) (l : List Int) (Q : VK) : Prop := ∀ H1 H' L' q, HouseGoes A H L m H1 L' m' → H1 q = none → Same H1 H' → H' q = some (.lst (vI l)) → Q (.ref q) H'
theorem GivesAt.read {A : Ad} {H H0 : Hp} {L : HL} {m : M} {l : List Int} {Q : VK} (h : GivesAt A H0 L m m l Q) (G : HouseGoes A H0 L m H L m) : Gives H l Q := fun H' q S nq hq => h H H' L q G nq S hq
theorem GivesAt.one {A : Ad} {H H0 : Hp} {L L' : HL} {m m' : M} {v : Int} {Q : VK} (h : GivesAt A H0 L m m' [v] Q) (G : HouseGoes A H0 L m H L' m') {q : Addr} (nq : H q = none) : Q (.ref q) (upd H q (.lst [.int v])) :=
  h H _ L' q G nq (Same.upd_new nq) upd_same
theorem isText_len {t : List Nat} (h : Kcs8.isText t = true) : t.length ≤ 256 := by
  unfold Kcs8.isText at h
  simp only [Bool.and_eq_true, decide_eq_true_eq] at h
  exact h.1.2
theorem isWord_len {t : List Nat} (h : Kcs8.isWord t = true) : t.length ≤ 32 := by
  unfold Kcs8.isWord at h
  simp only [Bool.and_eq_true, decide_eq_true_eq] at h
  exact h.1.2
/-- the call in the room, as a function of it -/
def stepR (r : Kcs8.Room) (x : Kcs8.Member) : Kcs8.Call → Kcs8.Room × Int
  | .invite _ _ _ q => inviteR r x q
  | .leave p _ _ => (leaveR r p, 0)
  | .out p _ _ q => outR r x p q
  | .lift _ _ _ q => liftR r x q
  | .past _ _ _ b => pastR r x b
  | .say p _ _ n t => sayR r x p n t
  | .change p _ _ n t => changeR r x p n t
  | .remove p _ _ n => removeR r x p n
  | .mark p _ _ n j => markR r x p n j
  | .seen p _ _ n => seenR r x p n
  | _ => (r, 0)
theorem stepR_key (r : Kcs8.Room) (x : Kcs8.Member) : ∀ d : Kcs8.Call, (stepR r x d).1.founder = r.founder ∧ (stepR r x d).1.number = r.number
  | .invite _ _ _ q => inviteR_key r x q
  | .out p _ _ q => outR_key r x p q
  | .lift _ _ _ q => liftR_key r x q
  | .past _ _ _ b => pastR_key r x b
  | .say p _ _ n t => sayR_key r x p n t
  | .change p _ _ n t => changeR_key r x p n t
  | .remove p _ _ n => removeR_key r x p n
  | .mark p _ _ n j => markR_key r x p n j
  | .seen p _ _ n => seenR_key r x p n
  | .leave .. => ⟨rfl, rfl⟩
  | .begin_ | .found .. | .join .. | .read .. | .unread .. | .rooms .. | .people .. | .find .. => ⟨rfl, rfl⟩
theorem cut_drop {xs : List V} {n : Nat} : cutV xs (some (n : Int)) none = xs.drop n := by
  unfold cutV
  rw [HT.sIx_nat]
  have e : HT.sIx xs.length xs.length none = xs.length := rfl
  rw [e]
  by_cases c : n ≤ xs.length
  · rw [Nat.min_eq_left c, List.take_of_length_le (by rw [List.length_drop]; omega)]
  · rw [Nat.min_eq_right (by omega), List.drop_of_length_le (Nat.le_refl _), List.drop_of_length_le (show xs.length ≤ n by omega), List.take_nil]
theorem filterMap_if {α β : Type} (q : α → Bool) (g : α → β) : ∀ l : List α, l.filterMap (fun n => if q n = true then some (g n) else none) = (l.filter q).map g
  | [] => rfl
  | a :: l => by
    cases h : q a with
    | true => rw [List.filterMap_cons_some (by rw [h]; rfl), List.filter_cons_of_pos h, List.map_cons, filterMap_if q g l]
    | false => rw [List.filterMap_cons_none (by rw [h]; rfl), List.filter_cons_of_neg (by rw [h]; exact Bool.false_ne_true), filterMap_if q g l]
theorem filterMap_cong {α β : Type} {f g : α → Option β} : ∀ {l : List α}, (∀ a ∈ l, f a = g a) → l.filterMap f = l.filterMap g
  | [], _ => rfl
  | a :: l, h => by
    rw [List.filterMap_cons, List.filterMap_cons, h a List.mem_cons_self, filterMap_cong fun b hb => h b (List.mem_cons_of_mem _ hb)]
theorem filter_from {α : Type} (q : α → Bool) : ∀ (l : List α) (s : Nat), ((List.range l.length).filter fun n => decide (s ≤ n) && (l[n]?).any q).length = ((l.drop s).filter q).length
  | [], s => by simp
  | a :: l, s => by
    rw [List.length_cons, List.range_succ_eq_map]
    cases s with
    | zero =>
      have ih := filter_from q l 0
      rw [List.drop_zero] at ih ⊢
      have e : ((List.map Nat.succ (List.range l.length)).filter fun n => decide (0 ≤ n) && ((a :: l)[n]?).any q).length = ((List.range l.length).filter fun n => decide (0 ≤ n) && (l[n]?).any q).length := by
        rw [List.filter_map, List.length_map]
        rfl
      cases h : q a with
      | true => rw [List.filter_cons_of_pos (by simp [h]), List.length_cons, e, ih, List.filter_cons_of_pos h, List.length_cons]
      | false => rw [List.filter_cons_of_neg (by simp [h]), e, ih, List.filter_cons_of_neg (by rw [h]; exact Bool.false_ne_true)]
    | succ s =>
      have ih := filter_from q l s
      rw [List.filter_cons_of_neg (by simp), List.drop_succ_cons, ← ih, List.filter_map, List.length_map]
      congr 1
      apply List.filter_congr
      intro n _
      show (decide (s + 1 ≤ n + 1) && _) = (decide (s ≤ n) && _)
      rw [decide_eq_decide.mpr (show s + 1 ≤ n + 1 ↔ s ≤ n by omega)]
      rfl
/-! ### messages with a word -/
open Kcs8 (Room Member Message) in
def hitN (p : Nat) (w : List Nat) (r : Room) : List Nat := match Kcs8.memberOf r p with
  | none => []
  | some x => ((List.range (r.messages.length - x.since)).map (x.since + ·)).filter fun n => (r.messages[n]?).any fun y => (Kcs8.words y.text).contains w
theorem hitN_none {p : Nat} {w : List Nat} {r : Kcs8.Room} (h : Kcs8.memberOf r p = none) : hitN p w r = [] := by
  unfold hitN
  rw [h]
theorem hitN_some {p : Nat} {w : List Nat} {r : Kcs8.Room} {x : Kcs8.Member} (h : Kcs8.memberOf r p = some x) : hitN p w r = ((List.range (r.messages.length - x.since)).map (x.since + ·)).filter fun n => (r.messages[n]?).any fun y => (Kcs8.words y.text).contains w := by
  unfold hitN
  rw [h]
theorem hitsR_eq {p : Nat} {w : List Nat} {r : Kcs8.Room} (W : WfR r) : hitsR p w r = (hitN p (w.map Kcs8.small) r).map fun n => [r.founder, r.number, n] := by
  unfold hitsR
  cases h : Kcs8.memberOf r p with
  | none => rw [hitN_none h]; rfl
  | some x =>
    rw [hitN_some h]
    have hs := (W.sr x (memberOf_who h).1).2
    have e : List.range r.messages.length = List.range x.since ++ (List.range (r.messages.length - x.since)).map (x.since + ·) := by
      rw [← List.range_add, Nat.add_sub_cancel' hs]
    show (List.range r.messages.length).filterMap _ = _
    rw [e, List.filterMap_append]
    have e1 : (List.range x.since).filterMap (fun n => (Kcs8.sees r x n).bind fun y => if Kcs8.has w y then some [r.founder, r.number, n] else none) = [] := by
      rw [List.filterMap_eq_nil_iff]
      intro n hn
      have := List.mem_range.mp hn
      unfold Kcs8.sees
      rw [if_neg (by omega)]
      rfl
    rw [e1, List.nil_append, ← filterMap_if]
    refine filterMap_cong fun n hn => ?_
    obtain ⟨i, _, rfl⟩ := List.mem_map.mp hn
    unfold Kcs8.sees
    rw [if_pos (Nat.le_add_right _ _)]
    cases r.messages[x.since + i]? with
    | none => rfl
    | some y => rfl
/-! ### all rooms -/
def idxF (m : M) (n : Nat) : List (Nat × Nat) := (List.range n).flatMap fun f => (List.range (m.getD f []).length).map fun k => (f, k)
def idx (m : M) : List (Nat × Nat) := idxF m m.length
theorem idxF_succ (m : M) (n : Nat) : idxF m (n + 1) = idxF m n ++ (List.range (m.getD n []).length).map fun k => (n, k) := by
  unfold idxF
  rw [List.range_succ, List.flatMap_append]
  simp
theorem getD_row {m : M} {f : Nat} {row : List Kcs8.Room} (h : m[f]? = some row) : m.getD f [] = row := by
  rw [List.getD_eq_getElem?_getD, h]
  rfl
def atM (m : M) (fk : Nat × Nat) : Option Kcs8.Room := rmAt m fk.1 fk.2
theorem flat_idxF (m : M) : ∀ n, n ≤ m.length → (idxF m n).map (atM m) = (m.take n).flatten.map some
  | 0, _ => by simp [idxF]
  | n + 1, h => by
    have ih := flat_idxF m n (by omega)
    obtain ⟨row, hrow⟩ : ∃ row, m[n]? = some row := ⟨_, List.getElem?_eq_getElem h⟩
    rw [idxF_succ, List.map_append, ih, List.take_add_one, hrow, List.flatten_append, List.map_append, getD_row hrow]
    congr 1
    rw [List.map_map]
    show _ = ([row].flatten).map some
    rw [List.flatten_singleton]
    apply List.ext_getElem?
    intro i
    rw [List.getElem?_map, List.getElem?_map]
    by_cases c : i < row.length
    · rw [List.getElem?_range c, List.getElem?_eq_getElem c]
      show some (rmAt m n i) = _
      unfold rmAt
      rw [hrow]
      show some row[i]? = _
      rw [List.getElem?_eq_getElem c]
      rfl
    · rw [List.getElem?_eq_none_iff.mpr (by rw [List.length_range]; omega), List.getElem?_eq_none_iff.mpr (by omega)]
      rfl
theorem flat_idx (m : M) : (idx m).map (atM m) = m.flatten.map some := by
  have := flat_idxF m m.length (Nat.le_refl _)
  rw [List.take_length] at this
  exact this
theorem filter_some {α β : Type} {f : α → Option β} {q : β → Bool} : ∀ {l : List α} {l' : List β}, l.map f = l'.map some → (l.filter fun a => (f a).any q).map f = (l'.filter q).map some
  | [], [], _ => rfl
  | [], _ :: _, h => by simp at h
  | _ :: _, [], h => by simp at h
  | a :: l, b :: l', h => by
    rw [List.map_cons, List.map_cons] at h
    injection h with h1 h2
    have ih := filter_some (q := q) h2
    cases hq : q b with
    | true => rw [List.filter_cons_of_pos (by rw [h1]; exact hq), List.filter_cons_of_pos hq, List.map_cons, List.map_cons, ih, h1]
    | false => rw [List.filter_cons_of_neg (by rw [h1]; show ¬ q b = true; rw [hq]; exact Bool.false_ne_true), List.filter_cons_of_neg (by rw [hq]; exact Bool.false_ne_true), ih]
theorem flatMap_some {α β γ : Type} {f : α → Option β} {g : β → List γ} : ∀ {l : List α} {l' : List β}, l.map f = l'.map some → (l.flatMap fun a => ((f a).map g).getD []) = l'.flatMap g
  | [], [], _ => rfl
  | [], _ :: _, h => by simp at h
  | _ :: _, [], h => by simp at h
  | a :: l, b :: l', h => by
    rw [List.map_cons, List.map_cons] at h
    injection h with h1 h2
    rw [List.flatMap_cons, List.flatMap_cons, flatMap_some h2, h1]
    rfl
theorem mem_idx {m : M} {i f k : Nat} (h : (idx m)[i]? = some (f, k)) : ∃ r, rmAt m f k = some r ∧ m.flatten[i]? = some r := by
  have e : ((idx m).map (atM m))[i]? = (m.flatten.map some)[i]? := by rw [flat_idx]
  rw [List.getElem?_map, List.getElem?_map, h] at e
  have e' : some (rmAt m f k) = (m.flatten[i]?).map some := e
  cases h2 : m.flatten[i]? with
  | none =>
    rw [h2] at e'
    cases e'
  | some r =>
    rw [h2] at e'
    injection e' with e'
    exact ⟨r, e', rfl⟩
end TR
namespace TR
open PySem PySem.Spec PyProof.Rows L2
def m0 : M := List.replicate 16 []
theorem m0_row {f : Nat} (h : f < 16) : m0[f]? = some [] := by
  unfold m0
  rw [List.getElem?_replicate, if_pos h]
theorem m0_rm (f k : Nat) : rmAt m0 f k = none := by
  unfold rmAt
  by_cases h : f < 16
  · rw [m0_row h]
    rfl
  · have : m0[f]? = none := by
      unfold m0
      rw [List.getElem?_replicate, if_neg h]
    rw [this]
    rfl
theorem wf_m0 : WfH m0 := ⟨wf_first, fun f k r h => (by rw [m0_rm] at h; cases h), fun f row h => by
  have := List.eq_of_mem_replicate (List.mem_of_getElem? h)
  rw [this]
  exact Nat.zero_le _⟩
/-- begin: a House (whatever it was) has sixteen rows without rooms, all new -/
def sp_House_begin (K : PySem.W.Frag) (A : Ad) : Sp := fun vs H Q _ => ∃ (x dx a : Addr), vs = [.ref x] ∧ H x = some (.ins A.House dx (houseF a)) ∧
  ∀ H' L, L.a .house = x → HouseOk A H' L m0 → (∀ z o, H z = some o → z ≠ x → H' z = some o ∧ ¬ Own L.a (houseC A L m0) z) → Q .non H'
theorem ok_House_begin {P : Program} {w : World} {K : PySem.W.Frag} {mg : Str → Option Value} {base : Heap} {A : Ad} (T : Txt K mg A)  : Ok P w K mg base 1 A.House_begin ["self"] (sp_House_begin K A) := by
  obtain ⟨fd, F⟩ := T.d_House_begin
  refine ⟨⟨fd, F.ok sc_House_begin (fun vs H Q E h => ?_) (fun cdv Ar outer s H vs Q E hr h => ?_), F.binds fun _ _ _ _ _ _ us hl => match us, hl with | [_], _ => rfl⟩, F.kp⟩
  · obtain ⟨x, dx, a, rfl, hx, kk⟩ := h
    rfl
  · obtain ⟨x, dx, a, rfl, hx, kk⟩ := h
    refine ⟨_, (pss_one (ps_fld (pv 0) (pe_lc (own := [("founder", 1)]) (g := gName 1) (tt := tYes) (te := (tLst tNil)) rfl sc_House_begin.nd (pi_range1 (by rfl) T.b_range (pa_cons (pe_glob (v := .int (16)) (by rfl) T.g_PEOPLE ⟨_, rfl⟩) pa_nil)) (blkOk_by (N := N_House_begin) (sc := defScope s_House_begin) (by decide +kernel)) (fun _ _ _ _ _ => pg_name (i := 1) sc_House_begin.nd rfl (Or.inl rfl)) (fun _ _ _ _ _ => by exact pts_nil) (fun _ _ _ _ _ => by exact (pe_lst pa_nil))) rfl)), ?_⟩
    refine ⟨16, rfl, by decide, by decide, fun D nD => new_rows nD (fun _ => rfl) ?_⟩
    · rintro H1 as ⟨S, hl, nd, hb, _, hD⟩
      refine ⟨_, rfl, x, A.House, dx, _, rfl, S _ _ hx, T.cl_House, T.na_House_founded, (by show 1 < 1000; decide), ?_⟩
      rw [houseF_put]
      have xD : x ≠ D := ne_of_none hx nD
      have xa : ∀ b ∈ as, b ≠ x := fun b h e => by rw [e] at h; have := (hb x h).1; rw [hx] at this; cases this
      let L : HL := ⟨fun y => match y with
        | .house => x
        | .founded => D
        | .row f => as.getD f 0
        | .rm _ _ _ => 0, fun _ => dx⟩
      have hrow : ∀ f, f < 16 → as[f]? = some (L.a (.row f)) := fun f h => by
        show as[f]? = some (as.getD f 0)
        rw [List.getD_eq_getElem?_getD, List.getElem?_eq_getElem (by omega)]
        rfl
      have cN : ∀ y o, houseC A L m0 y = some o → y = .house ∨ y = .founded ∨ ∃ f, f < 16 ∧ y = .row f ∧ o = .lst [] := fun y o e => by
        cases y with
        | house => exact .inl rfl
        | founded => exact .inr (.inl rfl)
        | row f =>
          refine .inr (.inr ⟨f, ?_⟩)
          have e' : (m0[f]?).map _ = some o := e
          by_cases h : f < 16
          · rw [m0_row h] at e'
            cases e'
            exact ⟨h, rfl, rfl⟩
          · have : m0[f]? = none := by
              unfold m0
              rw [List.getElem?_replicate, if_neg h]
            rw [this] at e'
            cases e'
        | rm f k z =>
          have e' : (rmAt m0 f k).bind _ = some o := e
          rw [m0_rm] at e'
          cases e'
      refine kk _ L rfl ⟨⟨fun y o e => ?_, fun y z o u e e' q => ?_⟩, wf_m0⟩ fun z o e hz => ⟨?_, ?_⟩
      · rcases cN y o e with rfl | rfl | ⟨f, hf, rfl, rfl⟩
        · cases e
          exact upd_same
        · have e' : some (HO.lst ((List.range m0.length).map fun f => V.ref (L.a (.row f)))) = some o := e
          show upd H1 x _ D = some o
          rw [upd_ne xD.symm, hD, ← e']
          have : as.map V.ref = (List.range m0.length).map fun f => V.ref (L.a (.row f)) := by
            apply List.ext_getElem?
            intro i
            rw [List.getElem?_map, List.getElem?_map]
            by_cases h : i < 16
            · rw [hrow i h, List.getElem?_range (show i < m0.length from h)]
              rfl
            · rw [List.getElem?_eq_none_iff.mpr (by omega), List.getElem?_eq_none_iff.mpr (by rw [List.length_range]; show 16 ≤ i; omega)]
              rfl
          rw [this]
        · have h1 := List.mem_of_getElem? (hrow f hf)
          rw [upd_ne (xa _ h1)]
          exact (hb _ h1).2.2
      · rcases cN y o e with rfl | rfl | ⟨f, hf, rfl, _⟩ <;> rcases cN z u e' with rfl | rfl | ⟨g, hg, rfl, _⟩
        · rfl
        · exact absurd q xD
        · exact absurd q.symm (xa _ (List.mem_of_getElem? (hrow g hg)))
        · exact absurd q.symm xD
        · rfl
        · exact absurd q.symm (hb _ (List.mem_of_getElem? (hrow g hg))).2.1
        · exact absurd q (xa _ (List.mem_of_getElem? (hrow f hf)))
        · exact absurd q (hb _ (List.mem_of_getElem? (hrow f hf))).2.1
        · have h1 := hrow f hf
          rw [q] at h1
          rw [nd_ix nd h1 (hrow g hg)]
      · rw [upd_ne hz]
        exact S z o e
      · rintro ⟨y, u, hy, q⟩
        rcases cN y u hy with rfl | rfl | ⟨f, hf, rfl, _⟩
        · exact hz q.symm
        · exact ne_of_none e nD q.symm
        · have h1 := (hb _ (List.mem_of_getElem? (hrow f hf))).1
          rw [q, e] at h1
          cases h1
end TR
namespace TR
open PySem PySem.Spec PyProof.Rows L2
theorem all_snoc_bl {l : List Nat} {i b : Nat} {g : Nat → Bool} (h : l[i]? = some b) : (((l.take (i + 1)).map g).map V.bl) = (((l.take i).map g).map V.bl) ++ [V.bl (g b)] := by
  rw [List.take_add_one, h, List.map_append, List.map_append]
  rfl
def sp_is_text (K : PySem.W.Frag) (A : Ad) : Sp := fun vs H Q _ => ∃ (a : Addr) (t : List Nat), vs = [.ref a] ∧ SqL K H a (t.map fun b => .int (b : Nat)) ∧ ∀ H', Same H H' → Q (.bl (Kcs8.isText t)) H'
theorem ok_is_text {P : Program} {w : World} {K : PySem.W.Frag} {mg : Str → Option Value} {base : Heap} {A : Ad} (T : Txt K mg A)  : Ok P w K mg base 1 A.is_text ["text"] (sp_is_text K A) := by
  obtain ⟨fd, F⟩ := T.d_is_text
  refine ⟨⟨fd, F.ok sc_is_text (fun vs H Q E h => ?_) (fun cdv Ar outer s H vs Q E hr h => ?_), F.binds fun _ _ _ _ _ _ us hl => match us, hl with | [_], _ => rfl⟩, F.kp⟩
  · obtain ⟨a, t, rfl, hS, k⟩ := h
    rfl
  · obtain ⟨a, t, rfl, hS, k⟩ := h
    refine ⟨_, (pss_cons (ps_if (PW.pt (pw_or (pt_cmpR op_lt (pe_callB call_len_seq (by rfl) T.b_len (by decide +kernel) (pa_cons (pv 0) pa_nil)) pe_int (nomark _)) (pw_or1 (pt_cmpR op_gt (pe_callB call_len_seq (by rfl) T.b_len (by decide +kernel) (pa_cons (pv 0) pa_nil)) (pe_glob (v := .int (256)) (by rfl) T.g_LONGEST_TEXT ⟨_, rfl⟩) (nomark _))))) (pss_one (ps_ret pe_bl)) pss_nil)
      (pss_one (ps_ret (pe_callB (cr_all rfl) (by rfl) T.b_all (by decide +kernel) (pa_cons (pe_lc (own := [("byte", 1)]) (g := gName 1) (tt := tYes) (te := (tAndV (tOp (rI0 fun i j => .bl (decide (i ≤ j))) (tC (.int (32))) (tVar 1)) (tOp (rI0 fun i j => .bl (decide (i ≤ j))) (tVar 1) (tC (.int (126)))))) rfl sc_is_text.nd (pi_list (pv 0)) (blkOk_by (N := N_is_text) (sc := defScope s_is_text) (by decide +kernel)) (fun _ _ _ _ _ => pg_name (i := 1) sc_is_text.nd rfl (Or.inl rfl)) (fun _ _ _ _ _ => by exact pts_nil) (fun _ _ _ _ _ => by exact (pe_and (pe_cmpR op_le (pe_glob (v := .int (32)) (by rfl) T.g_FIRST_BYTE ⟨_, rfl⟩) (pv 1) (nomark _)) (pe_one (pe_cmpR op_le (pv 1) (pe_glob (v := .int (126)) (by rfl) T.g_LAST_BYTE ⟨_, rfl⟩) (nomark _)))))) pa_nil))))), ?_⟩
    refine ⟨_, rfl, _, _, rfl, .inl hS, _, _, rfl, rfl, _, rfl, ?_⟩
    rw [List.length_map]
    unfold Kcs8.isText at k
    by_cases c1 : t.length < 1
    · refine if_true_of (decide_eq_true (by omega)) (if_true_of rfl ?_)
      have k1 := k H (Same.refl H)
      rw [decide_eq_false (show ¬ 1 ≤ t.length by omega), Bool.false_and, Bool.false_and] at k1
      exact k1
    refine if_false_of (decide_eq_false (by omega)) ?_
    refine ⟨_, rfl, _, _, rfl, .inl hS, _, _, rfl, rfl, _, rfl, ?_⟩
    rw [List.length_map]
    by_cases c2 : 256 < t.length
    · refine if_true_of (decide_eq_true (by omega)) ?_
      have k1 := k H (Same.refl H)
      rw [decide_eq_false (show ¬ t.length ≤ Kcs8.TEXT from by show ¬ t.length ≤ 256; omega), Bool.and_false, Bool.false_and] at k1
      exact k1
    refine if_false_of (decide_eq_false (by omega)) ?_
    rw [decide_eq_true (show 1 ≤ t.length by omega), decide_eq_true (show t.length ≤ Kcs8.TEXT from by show t.length ≤ 256; omega), Bool.true_and, Bool.true_and] at k
    refine ⟨_, rfl, a, rfl, ⟨_, hS⟩, fun D nD => lc_list (K := K) (a := a) (xs := t.map fun b => .int (b : Nat))
      (fun i H' => Same H H' ∧ H' D = some (.lst (((t.take i).map fun b => decide (32 ≤ b) && decide (b ≤ 126)).map V.bl))) ⟨Same.upd_new nD, upd_same⟩ (fun i H' _ ⟨S, _⟩ => S.seq hS) ?_ ?_⟩
    · rintro i y H' hi ⟨S, hD⟩
      obtain ⟨z, hz, rfl⟩ := map_at hi
      have fin : ∀ v : Bool, v = (decide (32 ≤ z) && decide (z ≤ 126)) → ∃ acc, H' D = some (.lst acc) ∧ acc.length < sizeLine ∧ Same H (upd H' D (.lst (acc ++ [.bl v]))) ∧ upd H' D (.lst (acc ++ [.bl v])) D = some (.lst (((t.take (i + 1)).map fun b => decide (32 ≤ b) && decide (b ≤ 126)).map V.bl)) := fun v e => by
        refine ⟨_, hD, ?_, fun b o e => by rw [upd_ne (ne_of_none e nD)]; exact S b o e, ?_⟩
        · rw [List.length_map, List.length_map, List.length_take]
          exact small1000 (by omega)
        · rw [upd_same, all_snoc_bl hz, e]
      refine ⟨rfl, yes_of ⟨_, rfl, _, _, rfl, rfl, _, rfl, ?_⟩⟩
      by_cases c3 : 32 ≤ z
      · refine if_true_of (decide_eq_true (by omega)) ⟨_, rfl, _, _, rfl, rfl, ?_⟩
        refine fin _ ?_
        rw [decide_eq_true c3, Bool.true_and]
        exact decide_eq_decide.mpr (by omega)
      · refine if_false_of (decide_eq_false (by omega)) ?_
        refine fin _ ?_
        rw [decide_eq_false c3, Bool.false_and]
    · rintro H2 ⟨S, hD⟩
      rw [List.length_map, List.take_length] at hD
      refine ⟨D, _, rfl, SqL.of hD, ?_⟩
      rw [List.all_map]
      exact k H2 S
end TR
namespace TR
open PySem PySem.Spec PyProof.Rows L2

def sp_is_of_words (K : PySem.W.Frag) (A : Ad) : Sp := fun vs H Q _ => ∃ b : Nat, vs = [.int b] ∧ Q (.bl (decide (97 ≤ b ∧ b ≤ 122) || decide (48 ≤ b ∧ b ≤ 57))) H
theorem ok_is_of_words {P : Program} {w : World} {K : PySem.W.Frag} {mg : Str → Option Value} {base : Heap} {A : Ad} (T : Txt K mg A)  : Ok P w K mg base 1 A.is_of_words ["byte"] (sp_is_of_words K A) := by
  obtain ⟨fd, F⟩ := T.d_is_of_words
  refine ⟨⟨fd, F.ok sc_is_of_words (fun vs H Q E h => ?_) (fun cdv Ar outer s H vs Q E hr h => ?_), F.binds fun _ _ _ _ _ _ us hl => match us, hl with | [_], _ => rfl⟩, F.kp⟩
  · obtain ⟨b, rfl, k⟩ := h
    rfl
  · obtain ⟨b, rfl, k⟩ := h
    refine ⟨_, (pss_one (ps_ret (pe_or (pe_and (pe_cmpR op_le (pe_glob (v := .int (97)) (by rfl) T.g_SMALL_A ⟨_, rfl⟩) (pv 0) (nomark _)) (pe_one (pe_cmpR op_le (pv 0) (pe_glob (v := .int (122)) (by rfl) T.g_SMALL_Z ⟨_, rfl⟩) (nomark _)))) (pe_one (pe_and (pe_cmpR op_le (pe_glob (v := .int (48)) (by rfl) T.g_DIGIT_0 ⟨_, rfl⟩) (pv 0) (nomark _)) (pe_one (pe_cmpR op_le (pv 0) (pe_glob (v := .int (57)) (by rfl) T.g_DIGIT_9 ⟨_, rfl⟩) (nomark _)))))))), ?_⟩
    refine ⟨_, rfl, _, _, rfl, rfl, _, rfl, ?_⟩
    have dig : ¬ (97 ≤ b ∧ b ≤ 122) → Q (.bl (decide (48 ≤ b ∧ b ≤ 57))) H := fun c => by
      rw [decide_eq_false c, Bool.false_or] at k
      exact k
    have second : ¬ (97 ≤ b ∧ b ≤ 122) → ∃ v, [some (V.int (b : Int))][0]? = some (some v) ∧ ∃ i j, V.int 48 = V.int i ∧ v = V.int j ∧ ∃ c, V.bl (decide (i ≤ j)) = V.bl c ∧ if c = true then ∃ v, [some (V.int (b : Int))][0]? = some (some v) ∧ ∃ i j, v = V.int i ∧ V.int 57 = V.int j ∧ Q (.bl (decide (i ≤ j))) H else Q (.bl false) H := fun c => by
      refine ⟨_, rfl, _, _, rfl, rfl, _, rfl, ?_⟩
      by_cases c3 : 48 ≤ b
      · refine if_true_of (decide_eq_true (by omega)) ⟨_, rfl, _, _, rfl, rfl, ?_⟩
        have := dig c
        rw [decide_eq_decide.mpr (show (48 ≤ b ∧ b ≤ 57) ↔ ((b : Int) ≤ 57) by omega)] at this
        exact this
      · refine if_false_of (decide_eq_false (by omega)) ?_
        have := dig c
        rw [decide_eq_false (fun z => c3 z.1)] at this
        exact this
    by_cases c1 : 97 ≤ b
    · refine if_true_of (decide_eq_true (by omega)) ⟨_, rfl, _, _, rfl, rfl, _, rfl, ?_⟩
      by_cases c2 : b ≤ 122
      · refine if_true_of (decide_eq_true (by omega)) ?_
        rw [decide_eq_true (show 97 ≤ b ∧ b ≤ 122 from ⟨c1, c2⟩), Bool.true_or] at k
        exact k
      · exact if_false_of (decide_eq_false (by omega)) (second fun z => c2 z.2)
    · refine if_false_of (decide_eq_false (by omega)) ⟨_, rfl, if_false_of rfl (second fun z => c1 z.1)⟩
end TR
namespace TR
open PySem PySem.Spec PyProof.Rows L2

def sp_small (K : PySem.W.Frag) (A : Ad) : Sp := fun vs H Q _ => ∃ b : Nat, vs = [.int b] ∧ Q (.int (Kcs8.small b)) H
theorem ok_small {P : Program} {w : World} {K : PySem.W.Frag} {mg : Str → Option Value} {base : Heap} {A : Ad} (T : Txt K mg A)  : Ok P w K mg base 1 A.small ["byte"] (sp_small K A) := by
  obtain ⟨fd, F⟩ := T.d_small
  refine ⟨⟨fd, F.ok sc_small (fun vs H Q E h => ?_) (fun cdv Ar outer s H vs Q E hr h => ?_), F.binds fun _ _ _ _ _ _ us hl => match us, hl with | [_], _ => rfl⟩, F.kp⟩
  · obtain ⟨b, rfl, k⟩ := h
    rfl
  · obtain ⟨b, rfl, k⟩ := h
    refine ⟨_, (pss_cons (ps_if (PW.pt (pw_and (pt_cmpR op_le (pe_glob (v := .int (65)) (by rfl) T.g_CAPITAL_A ⟨_, rfl⟩) (pv 0) (nomark _)) (pw_and1 (pt_cmpR op_le (pv 0) (pe_glob (v := .int (90)) (by rfl) T.g_CAPITAL_Z ⟨_, rfl⟩) (nomark _))))) (pss_one (ps_ret (pe_op op_add (pe_op op_sub (pv 0) (pe_glob (v := .int (65)) (by rfl) T.g_CAPITAL_A ⟨_, rfl⟩)) (pe_glob (v := .int (97)) (by rfl) T.g_SMALL_A ⟨_, rfl⟩)))) pss_nil)
      (pss_one (ps_ret (pv 0)))), ?_⟩
    unfold Kcs8.small at k
    refine ⟨_, rfl, _, _, rfl, rfl, _, rfl, ?_⟩
    by_cases c1 : 65 ≤ b
    · refine if_true_of (decide_eq_true (by omega)) ⟨_, rfl, _, _, rfl, rfl, _, rfl, ?_⟩
      by_cases c2 : b ≤ 90
      · refine if_true_of (decide_eq_true (by omega)) ⟨_, rfl, _, _, rfl, rfl, _, _, rfl, rfl, ?_⟩
        rw [if_pos ⟨c1, c2⟩] at k
        have e : (b : Int) - 65 + 97 = ((b + 32 : Nat) : Int) := by omega
        show Q (.int ((b : Int) - 65 + 97)) H
        rw [e]
        exact k
      · refine if_false_of (decide_eq_false (by omega)) ⟨_, rfl, ?_⟩
        rw [if_neg (fun z => c2 z.2)] at k
        exact k
    · refine if_false_of (decide_eq_false (by omega)) (if_false_of rfl ⟨_, rfl, ?_⟩)
      rw [if_neg (fun z => c1 z.1)] at k
      exact k
end TR
namespace TR
open PySem PySem.Spec PyProof.Rows L2

def sp_is_word (K : PySem.W.Frag) (A : Ad) : Sp := fun vs H Q _ => ∃ (a : Addr) (t : List Nat), vs = [.ref a] ∧ SqL K H a (vN t) ∧ ∀ H', Same H H' → Q (.bl (Kcs8.isWord t)) H'
theorem ok_is_word {P : Program} {w : World} {K : PySem.W.Frag} {mg : Str → Option Value} {base : Heap} {A : Ad} (T : Txt K mg A) (O_is_of_words : Ok P w K mg base 1 A.is_of_words ["byte"] (sp_is_of_words K A)) (O_small : Ok P w K mg base 1 A.small ["byte"] (sp_small K A)) : Ok P w K mg base 2 A.is_word ["word"] (sp_is_word K A) := by
  obtain ⟨fd, F⟩ := T.d_is_word
  obtain ⟨fd_is_of_words, G_is_of_words, B_is_of_words⟩ := O_is_of_words.ex
  obtain ⟨fd_small, G_small, B_small⟩ := O_small.ex
  refine ⟨⟨fd, F.ok sc_is_word (fun vs H Q E h => ?_) (fun cdv Ar outer s H vs Q E hr h => ?_), F.binds fun _ _ _ _ _ _ us hl => match us, hl with | [_], _ => rfl⟩, F.kp⟩
  · obtain ⟨a, t, rfl, hS, k⟩ := h
    rfl
  · obtain ⟨a, t, rfl, hS, k⟩ := h
    refine ⟨_, (pss_cons (ps_if (PW.pt (pw_or (pt_cmpR op_lt (pe_callB call_len_seq (by rfl) T.b_len (by decide +kernel) (pa_cons (pv 0) pa_nil)) pe_int (nomark _)) (pw_or1 (pt_cmpR op_gt (pe_callB call_len_seq (by rfl) T.b_len (by decide +kernel) (pa_cons (pv 0) pa_nil)) (pe_glob (v := .int (32)) (by rfl) T.g_LONGEST_WORD ⟨_, rfl⟩) (nomark _))))) (pss_one (ps_ret pe_bl)) pss_nil)
      (pss_one (ps_ret (pe_callB (cr_all rfl) (by rfl) T.b_all (by decide +kernel) (pa_cons (pe_lc (own := [("byte", 1)]) (g := gName 1) (tt := tYes) (te := (tCall (sp_is_of_words K A) [] E0 (tCons (tCall (sp_small K A) [] E0 (tCons (tVar 1) tNil)) tNil))) rfl sc_is_word.nd (pi_list (pv 0)) (blkOk_by (N := N_is_word) (sc := defScope s_is_word) (by decide +kernel)) (fun _ _ _ _ _ => pg_name (i := 1) sc_is_word.nd rfl (Or.inl rfl)) (fun _ _ _ _ _ => by exact pts_nil) (fun _ _ _ _ _ => by exact (pe_call G_is_of_words (hr.mono (by decide)) (by rfl) T.g_is_of_words O_is_of_words.kp B_is_of_words .nil pass0 (pa_cons (pe_call G_small (hr.mono (by decide)) (by rfl) T.g_small O_small.kp B_small .nil pass0 (pa_cons (pv 1) pa_nil)) pa_nil)))) pa_nil))))), ?_⟩
    refine ⟨_, rfl, _, _, rfl, .inl hS, _, _, rfl, rfl, _, rfl, ?_⟩
    rw [vN_length]
    unfold Kcs8.isWord at k
    by_cases c1 : t.length < 1
    · refine if_true_of (decide_eq_true (by omega)) (if_true_of rfl ?_)
      have k1 := k H (Same.refl H)
      rw [decide_eq_false (show ¬ 1 ≤ t.length by omega), Bool.false_and, Bool.false_and] at k1
      exact k1
    refine if_false_of (decide_eq_false (by omega)) ?_
    refine ⟨_, rfl, _, _, rfl, .inl hS, _, _, rfl, rfl, _, rfl, ?_⟩
    rw [vN_length]
    by_cases c2 : 32 < t.length
    · refine if_true_of (decide_eq_true (by omega)) ?_
      have k1 := k H (Same.refl H)
      rw [decide_eq_false (show ¬ t.length ≤ Kcs8.WORD from by show ¬ t.length ≤ 32; omega), Bool.and_false, Bool.false_and] at k1
      exact k1
    refine if_false_of (decide_eq_false (by omega)) ?_
    rw [decide_eq_true (show 1 ≤ t.length by omega), decide_eq_true (show t.length ≤ Kcs8.WORD from by show t.length ≤ 32; omega), Bool.true_and, Bool.true_and] at k
    refine ⟨_, rfl, a, rfl, ⟨_, hS⟩, fun D nD => lc_list (K := K) (a := a) (xs := vN t)
      (fun i H' => Same H H' ∧ H' D = some (.lst (((t.take i).map Kcs8.wordByte).map V.bl))) ⟨Same.upd_new nD, upd_same⟩ (fun i H' _ ⟨S, _⟩ => S.seq hS) ?_ ?_⟩
    · rintro i y H' hi ⟨S, hD⟩
      obtain ⟨z, hz, rfl⟩ := map_at hi
      refine ⟨rfl, yes_of ⟨_, rfl, z, rfl, Kcs8.small z, rfl, _, hD, ?_, fun b o e => by rw [upd_ne (ne_of_none e nD)]; exact S b o e, ?_⟩⟩
      · rw [List.length_map, List.length_map, List.length_take]
        exact small1000 (by omega)
      · rw [upd_same, all_snoc_bl hz, wordByte_small]
    · rintro H2 ⟨S, hD⟩
      rw [vN_length, List.take_length] at hD
      refine ⟨D, _, rfl, SqL.of hD, ?_⟩
      rw [List.all_map]
      exact k H2 S
end TR
namespace TR
open PySem PySem.Spec PyProof.Rows L2
theorem vN_snoc {l : List Nat} {g : Nat → Nat} {i b : Nat} (h : l[i]? = some b) : vN ((l.take (i + 1)).map g) = vN ((l.take i).map g) ++ [V.int (g b : Nat)] := by
  unfold vN
  rw [List.take_add_one, h, List.map_append, List.map_append]
  rfl
def sp_word_key (K : PySem.W.Frag) (A : Ad) : Sp := fun vs H Q _ => ∃ (a : Addr) (w : List Nat), vs = [.ref a] ∧ SqL K H a (vN w) ∧ w.length ≤ 400 ∧ ∀ H' t, Same H H' → H' t = some (.tup ((keyN (w.map Kcs8.small)).map kV)) → Q (.ref t) H'
theorem ok_word_key {P : Program} {w : World} {K : PySem.W.Frag} {mg : Str → Option Value} {base : Heap} {A : Ad} (T : Txt K mg A) (O_small : Ok P w K mg base 1 A.small ["byte"] (sp_small K A)) : Ok P w K mg base 2 A.word_key ["word"] (sp_word_key K A) := by
  obtain ⟨fd, F⟩ := T.d_word_key
  obtain ⟨fd_small, G_small, B_small⟩ := O_small.ex
  refine ⟨⟨fd, F.ok sc_word_key (fun vs H Q E h => ?_) (fun cdv Ar outer s H vs Q E hr h => ?_), F.binds fun _ _ _ _ _ _ us hl => match us, hl with | [_], _ => rfl⟩, F.kp⟩
  · obtain ⟨a, w, rfl, hS, hl, k⟩ := h
    rfl
  · obtain ⟨a, w, rfl, hS, hl, k⟩ := h
    refine ⟨_, (pss_one (ps_ret (pe_callTy call_tuple_of (by rfl) T.b_tuple (by decide +kernel) (pa_cons (pe_lc (own := [("byte", 1)]) (g := gName 1) (tt := tYes) (te := (tCall (sp_small K A) [] E0 (tCons (tVar 1) tNil))) rfl sc_word_key.nd (pi_list (pv 0)) (blkOk_by (N := N_word_key) (sc := defScope s_word_key) (by decide +kernel)) (fun _ _ _ _ _ => pg_name (i := 1) sc_word_key.nd rfl (Or.inl rfl)) (fun _ _ _ _ _ => by exact pts_nil) (fun _ _ _ _ _ => by exact (pe_call G_small (hr.mono (by decide)) (by rfl) T.g_small O_small.kp B_small .nil pass0 (pa_cons (pv 1) pa_nil)))) pa_nil)))), ?_⟩
    refine ⟨_, rfl, a, rfl, ⟨_, hS⟩, fun D nD => lc_list (K := K) (a := a) (xs := vN w)
      (fun i H' => Same H H' ∧ H' D = some (.lst (vN ((w.take i).map Kcs8.small)))) ⟨Same.upd_new nD, upd_same⟩ (fun i H' _ ⟨S, _⟩ => S.seq hS) ?_ ?_⟩
    · rintro i y H' hi ⟨S, hD⟩
      obtain ⟨z, hz, rfl⟩ := map_at hi
      refine ⟨rfl, yes_of ⟨_, rfl, z, rfl, _, hD, ?_, fun b o e => by rw [upd_ne (ne_of_none e nD)]; exact S b o e, ?_⟩⟩
      · rw [vN_length, List.length_map, List.length_take]
        exact small1000 (by omega)
      · rw [upd_same, vN_snoc hz]
    · rintro H2 ⟨S, hD⟩
      rw [vN_length, List.take_length] at hD
      refine ⟨D, _, rfl, .inl ⟨SqL.of hD, fun l hl => k _ l (fun b o e => ?_) ?_⟩⟩
      · rw [upd_ne (ne_of_none (S b o e) hl)]
        exact S b o e
      · rw [upd_same, keyN_kV]
        rfl
end TR
namespace TR
open PySem PySem.Spec PyProof.Rows L2
theorem vN_append (a b : List Nat) : vN (a ++ b) = vN a ++ vN b := by
  unfold vN
  rw [List.map_append]
theorem take_snoc {l : List Nat} {i b : Nat} (h : l[i]? = some b) : l.take (i + 1) = l.take i ++ [b] := by
  rw [List.take_add_one, h]
  rfl
/-- words_of: a new dict with each word of the text as a key -/
def sp_words_of (K : PySem.W.Frag) (A : Ad) : Sp := fun vs H Q _ => ∃ (a : Addr) (t : List Nat), vs = [.ref a] ∧ H a = some (nats t) ∧ t.length ≤ 256 ∧ ∀ H' w, Same H H' → H w = none → H' w = some (.dT (wordsKV t)) → Q (.ref w) H'
theorem ok_words_of {P : Program} {w : World} {K : PySem.W.Frag} {mg : Str → Option Value} {base : Heap} {A : Ad} (T : Txt K mg A) (O_is_of_words : Ok P w K mg base 1 A.is_of_words ["byte"] (sp_is_of_words K A)) (O_small : Ok P w K mg base 1 A.small ["byte"] (sp_small K A)) : Ok P w K mg base 2 A.words_of ["text"] (sp_words_of K A) := by
  obtain ⟨fd, F⟩ := T.d_words_of
  obtain ⟨fd_is_of_words, G_is_of_words, B_is_of_words⟩ := O_is_of_words.ex
  obtain ⟨fd_small, G_small, B_small⟩ := O_small.ex
  refine ⟨⟨fd, F.ok sc_words_of (fun vs H Q E h => ?_) (fun cdv Ar outer s H vs Q E hr h => ?_), F.binds fun _ _ _ _ _ _ us hl => match us, hl with | [_], _ => rfl⟩, F.kp⟩
  · obtain ⟨a, t, rfl, ha, hl, k⟩ := h
    rfl
  · obtain ⟨a, t, rfl, ha, hl, k⟩ := h
    refine ⟨_, (pss_cons (ps_set (i := 1) sc_words_of.nd rfl (by first | exact Or.inl rfl | exact Or.inr rfl) pe_dnewT)
      (pss_cons (ps_set (i := 2) sc_words_of.nd rfl (by first | exact Or.inl rfl | exact Or.inr rfl) (pe_lst pa_nil))
      (pss_cons (ps_for PassesOwn.never rfl (pi_list (pe_op op_cat (pv 0) (pe_lst (pa_cons (pe_glob (v := .int (32)) (by rfl) T.g_BLANK ⟨_, rfl⟩) pa_nil)))) (pg_name (i := 3) sc_words_of.nd rfl (by first | exact Or.inl rfl | exact Or.inr rfl))
        (pss_cons (ps_set (i := 4) sc_words_of.nd rfl (by first | exact Or.inl rfl | exact Or.inr rfl) (pe_call G_small (hr.mono (by decide)) (by rfl) T.g_small O_small.kp B_small .nil pass0 (pa_cons (pv 3) pa_nil)))
      (pss_one (ps_if (pt_val (pe_call G_is_of_words (hr.mono (by decide)) (by rfl) T.g_is_of_words O_is_of_words.kp B_is_of_words .nil pass0 (pa_cons (pv 4) pa_nil))) (pss_one (ps_expr (pe_bm PySem.F.plainAttrs_list PySem.F.slot_list_append PySem.F.type_list_append mt_append (pv 2) (pa_cons (pv 4) pa_nil)))) (pss_one (ps_if (pt_cmpR op_gt (pe_callB call_len_seq (by rfl) T.b_len (by decide +kernel) (pa_cons (pv 2) pa_nil)) pe_int (nomark _)) (pss_cons (ps_dput (hu_of hr) (pv 1) (pe_callTy call_tuple_of (by rfl) T.b_tuple (by decide +kernel) (pa_cons (pv 2) pa_nil)) pe_bl rfl)
      (pss_one (ps_set (i := 2) sc_words_of.nd rfl (by first | exact Or.inl rfl | exact Or.inr rfl) (pe_lst pa_nil)))) pss_nil))))))
      (pss_one (ps_ret (pv 1)))))), ?_⟩
    intro d nd
    refine ⟨Nat.zero_le _, fun ra nra => ?_⟩
    have nra0 : H ra = none := (Same.upd_new nd).free nra
    refine ⟨_, rfl, (by show 1 ≤ sizeLine; decide), fun b1 nb1 => ?_⟩
    have ha2 : upd (upd (upd H d (.dT [])) ra (.lst [])) b1 (.lst [.int 32]) a = some (nats t) := by
      have h1 : upd H d (.dT []) a = some (nats t) := Same.upd_new nd _ _ ha
      have h2 := Same.upd_new (o := .lst []) nra _ _ h1
      exact Same.upd_new nb1 _ _ h2
    refine ⟨a, b1, vN t, [.int 32], rfl, rfl, ha2, upd_same, ?_, fun p np => ?_⟩
    · rw [vN_length]
      exact Nat.le_of_lt (small1000 (by show t.length + 1 ≤ 1000; omega))
    have ev : vN t ++ [V.int 32] = vN (t ++ [32]) := by rw [vN_append]; rfl
    rw [ev]
    refine ⟨p, rfl, ⟨_, SqL.of upd_same⟩, for_list (K := K) (a := p) (xs := vN (t ++ [32]))
      (fun i σ H' => ∃ (r : Addr) (v3 v4 : Option V), σ = [some (.ref a), some (.ref d), some (.ref r), v3, v4] ∧ Same H H' ∧ H' d = some (.dT (wRun ([], []) ((t ++ [32]).take i)).1) ∧ H' r = some (nats (wRun ([], []) ((t ++ [32]).take i)).2) ∧
        H' p = some (.lst (vN (t ++ [32]))) ∧ H r = none ∧ p ≠ r) ?_ (fun i σ H' _ ⟨_, _, _, _, _, _, _, hp, _, _⟩ => SqL.of hp) ?_ ?_⟩
    · have S1 : Same H (upd H d (.dT [])) := Same.upd_new nd
      have S2 := Same.upd_new (o := .lst []) nra
      have S3 := Same.upd_new (o := .lst [.int 32]) nb1
      have S4 := Same.upd_new (o := .lst (vN (t ++ [32]))) np
      refine ⟨ra, none, none, rfl, fun b o e => S4 b o (S3 b o (S2 b o (S1 b o e))), S4 _ _ (S3 _ _ (S2 _ _ upd_same)), S4 _ _ (S3 _ _ upd_same), upd_same, nra0, ?_⟩
      exact (ne_of_none (S3 _ _ upd_same) np).symm
    · rintro i y σ H' hi ⟨r, v3, v4, rfl, S, hd, hr0, hp, nr, pr⟩
      obtain ⟨z, hz, rfl⟩ := map_at hi
      have hlen := wRun_len ((t ++ [32]).take i) ([], [])
      have hlt : ((t ++ [32]).take i).length ≤ 257 := by rw [List.length_take, List.length_append]; show min i (t.length + 1) ≤ 257; omega
      have dr : d ≠ r := ne_of hd hr0 (by intro z; cases z)
      have dp : d ≠ p := ne_of hd hp (by intro z; cases z)
      have hb : (t ++ [32]).take (i + 1) = (t ++ [32]).take i ++ [z] := take_snoc hz
      have hs := wRun_snoc ([], []) ((t ++ [32]).take i) z
      rw [← hb] at hs
      generalize hw : wRun ([], []) ((t ++ [32]).take i) = s at hd hr0 hlen hs
      refine ⟨_, rfl, z, rfl, _, rfl, Kcs8.small z, rfl, _, rfl, ?_⟩
      rw [wordByte_small]
      cases c : Kcs8.wordByte z with
      | true =>
        refine if_true_of rfl ⟨_, rfl, .inl ⟨rfl, _, SqL.of hr0⟩, _, rfl, r, _, _, rfl, rfl, hr0, ?_, ?_⟩
        · rw [List.length_map]
          exact small1000 (by have := hlen.2; simp at this; omega)
        · have e : wRun ([], []) ((t ++ [32]).take (i + 1)) = (s.1, s.2 ++ [Kcs8.small z]) := by
            rw [hs]
            unfold wStep
            rw [c, if_pos rfl]
          rw [e]
          refine ⟨r, _, _, rfl, Same.upd_after nr S, ?_, ?_, ?_, nr, pr⟩
          · rw [upd_ne dr]
            exact hd
          · rw [upd_same]
            show some (HO.lst _) = some (HO.lst (vN (s.2 ++ [Kcs8.small z])))
            rw [vN_append]
            rfl
          · rw [upd_ne pr]
            exact hp
      | false =>
        refine if_false_of rfl ⟨_, rfl, _, _, rfl, .inl (SqL.of hr0), _, _, rfl, rfl, _, rfl, ?_⟩
        rw [List.length_map]
        by_cases c2 : s.2 = []
        · refine if_false_of (decide_eq_false (by rw [c2]; show ¬ (0 : Int) < 0; omega)) ?_
          have e : wRun ([], []) ((t ++ [32]).take (i + 1)) = s := by
            rw [hs]
            unfold wStep
            rw [c, c2]
            rfl
          rw [e]
          exact ⟨r, _, _, rfl, S, hd, hr0, hp, nr, pr⟩
        · have hpos : 0 < s.2.length := List.length_pos_iff.mpr c2
          refine if_true_of (decide_eq_true (by omega)) ?_
          have e : wRun ([], []) ((t ++ [32]).take (i + 1)) = (putK s.1 (keyN s.2) (.bl true), []) := by
            rw [hs]
            unfold wStep
            rw [c, if_neg Bool.false_ne_true, if_neg (by rw [List.isEmpty_iff]; exact c2)]
          rw [e]
          refine ⟨_, rfl, _, rfl, r, _, rfl, .inl ⟨SqL.of hr0, fun q nq => ?_⟩⟩
          have Sq := Same.upd_new (o := .tup (s.2.map fun b => .int (b : Nat))) nq
          refine ⟨d, _, rfl, DPut.t (k := keyN s.2) (Sq _ _ hd) (by rw [upd_same, keyN_kV]) ?_, ?_⟩
          · exact small1000 (by have := hlen.1; simp at this; omega)
          refine ⟨Nat.zero_le _, fun r2 nr2 => ?_⟩
          have dq : d ≠ q := ne_of_none hd nq
          have S3 : Same H (upd (upd H' q (.tup (s.2.map fun b => .int (b : Nat)))) d (.dT (putK s.1 (keyN s.2) (.bl true)))) := fun b o e => by
            rw [upd_ne (ne_of_none e nd)]
            exact Sq b o (S b o e)
          have S4 := Same.upd_new (o := .lst []) nr2
          refine ⟨r2, _, _, rfl, fun b o e => S4 b o (S3 b o e), S4 _ _ upd_same, upd_same, S4 _ _ ?_, S3.free nr2, ?_⟩
          · rw [upd_ne dp.symm]
            exact Sq _ _ hp
          · exact ne_of_none (show upd (upd H' q _) d _ p = some _ by rw [upd_ne dp.symm]; exact Sq _ _ hp) nr2
    · rintro σ H' ⟨r, v3, v4, rfl, S, hd, _, _, _, _⟩
      rw [vN_length, List.take_length] at hd
      exact ⟨_, rfl, k _ d S nd hd⟩
end TR
namespace TR
open PySem PySem.Spec PyProof.Rows L2

/-- find_member: the one who is p in the room, or None -/
def sp_Room_find_member (K : PySem.W.Frag) (A : Ad) : Sp := fun vs H Q _ => ∃ (L : RL) (r : Kcs8.Room) (p : Nat), vs = [.ref (L.a .room), .int p] ∧ RoomOk A H L r ∧
  (Kcs8.memberOf r p = none → Q .non H) ∧ (∀ m, Kcs8.memberOf r p = some m → Q (.ref (L.a (.mem p))) H)
theorem ok_Room_find_member {P : Program} {w : World} {K : PySem.W.Frag} {mg : Str → Option Value} {base : Heap} {A : Ad} (T : Txt K mg A)  : Ok P w K mg base 1 A.Room_find_member ["self", "p"] (sp_Room_find_member K A) := by
  obtain ⟨fd, F⟩ := T.d_Room_find_member
  refine ⟨⟨fd, F.ok sc_Room_find_member (fun vs H Q E h => ?_) (fun cdv Ar outer s H vs Q E hr h => ?_), F.binds fun _ _ _ _ _ _ us hl => match us, hl with | [_, _], _ => rfl⟩, F.kp⟩
  · obtain ⟨L, r, p, rfl, R, kN, kS⟩ := h
    rfl
  · obtain ⟨L, r, p, rfl, R, kN, kS⟩ := h
    refine ⟨_, (pss_cons (ps_for PassesOwn.never rfl (pi_list (pe_fld (pv 0) rfl)) (pg_name (i := 2) sc_Room_find_member.nd rfl (by first | exact Or.inl rfl | exact Or.inr rfl))
        (pss_one (ps_if (pt_cmpR op_eq (pe_fld (pv 2) rfl) (pv 1) (nomark _)) (pss_one (ps_ret (pv 2))) pss_nil)))
      (pss_one (ps_ret pe_non))), ?_⟩
    refine ⟨_, rfl, _, A.Room, _, _, _, rfl, R.room, T.cl_Room, T.na_Room_members, roomF_members, _, rfl, ⟨_, SqL.of R.mems⟩, for_list (K := K) (a := L.a .mems) (xs := r.members.map fun m => .ref (L.a (.mem m.who)))
      (fun i σ H' => ∃ v : Option V, σ = [some (.ref (L.a .room)), some (.int p), v] ∧ H' = H ∧ ∀ m ∈ r.members.take i, m.who ≠ p) ⟨none, rfl, rfl, fun m hm => by simp at hm⟩ (fun i σ H' _ ⟨_, _, e, _⟩ => by rw [e]; exact SqL.of R.mems) ?_ ?_⟩
    · rintro i y σ H' hi ⟨v, rfl, rfl, hne⟩
      obtain ⟨m, hm, rfl⟩ := map_at hi
      have hw := R.wf.mem (List.mem_of_getElem? hm)
      refine ⟨_, rfl, _, A.Member, _, _, _, rfl, R.mem hw, T.cl_Member, T.na_Member_who, memF_who, _, rfl, rfl, _, rfl, ?_⟩
      by_cases c : m.who = p
      · subst c
        exact if_true_of (decide_eq_true rfl) ⟨_, rfl, kS m hw⟩
      · refine if_false_of (decide_eq_false fun z => c (by injection z with z; exact Int.ofNat.inj z)) ⟨_, rfl, rfl, fun m' hm' => ?_⟩
        rw [List.take_add_one, hm] at hm'
        rcases List.mem_append.mp hm' with h1 | h1
        · exact hne m' h1
        · have : m' = m := by simpa using h1
          rw [this]
          exact c
    · rintro σ H' ⟨v, rfl, rfl, hne⟩
      rw [List.length_map, List.take_length] at hne
      exact kN (memberOf_none hne)
end TR
namespace TR
open PySem PySem.Spec PyProof.Rows L2

def sp_Room_is_keeper (K : PySem.W.Frag) (A : Ad) : Sp := fun vs H Q _ => ∃ (L : RL) (r : Kcs8.Room) (p : Nat), vs = [.ref (L.a .room), .int p] ∧ RoomOk A H L r ∧ Q (.bl (Kcs8.keeps r p)) H
theorem ok_Room_is_keeper {P : Program} {w : World} {K : PySem.W.Frag} {mg : Str → Option Value} {base : Heap} {A : Ad} (T : Txt K mg A) (O_Room_find_member : Ok P w K mg base 1 A.Room_find_member ["self", "p"] (sp_Room_find_member K A)) : Ok P w K mg base 2 A.Room_is_keeper ["self", "p"] (sp_Room_is_keeper K A) := by
  obtain ⟨fd, F⟩ := T.d_Room_is_keeper
  obtain ⟨fd_Room_find_member, G_Room_find_member, B_Room_find_member⟩ := O_Room_find_member.ex
  refine ⟨⟨fd, F.ok sc_Room_is_keeper (fun vs H Q E h => ?_) (fun cdv Ar outer s H vs Q E hr h => ?_), F.binds fun _ _ _ _ _ _ us hl => match us, hl with | [_, _], _ => rfl⟩, F.kp⟩
  · obtain ⟨L, r, p, rfl, R, k⟩ := h
    rfl
  · obtain ⟨L, r, p, rfl, R, k⟩ := h
    refine ⟨_, (pss_cons (ps_set (i := 2) sc_Room_is_keeper.nd rfl (by first | exact Or.inl rfl | exact Or.inr rfl) (pe_meth (pv 0) T.cl_Room T.me_Room_find_member G_Room_find_member (hr.mono (by decide)) B_Room_find_member .nil pass0 (pa_cons (pv 1) pa_nil)))
      (pss_one (ps_ret (pe_and (pe_cmpR op_notN (pv 2) pe_non (nomark _)) (pe_one (pe_fld (pv 2) rfl)))))), ?_⟩
    refine ⟨_, rfl, _, _, _, rfl, R.room, roomF_no (by decide +kernel) (by decide +kernel) (by decide +kernel) (by decide +kernel), _, rfl, L, r, p, rfl, R, fun e => ?_, fun m e => ?_⟩
    · refine ⟨_, rfl, rfl, _, rfl, if_false_of rfl ?_⟩
      have q : Kcs8.keeps r p = false := by unfold Kcs8.keeps; rw [e]; rfl
      rw [q] at k
      exact k
    · refine ⟨_, rfl, rfl, _, rfl, if_true_of rfl ?_⟩
      refine ⟨_, rfl, _, A.Member, _, _, _, rfl, R.mem e, T.cl_Member, T.na_Member_keeper, memF_keeper, ?_⟩
      have q : Kcs8.keeps r p = m.keeper := by unfold Kcs8.keeps; rw [e]; rfl
      rw [q] at k
      exact k
end TR
namespace TR
open PySem PySem.Spec PyProof.Rows L2
theorem inV_ints {l : List Nat} {p : Nat} : inV (.int (p : Int)) (l.map fun q => V.int (q : Nat)) = l.contains p := by
  unfold inV
  rw [List.any_map]
  rw [Bool.eq_iff_iff, List.any_eq_true, List.contains_iff_mem]
  constructor
  · rintro ⟨x, hx, e⟩
    have e' : ((x : Int) == (p : Int)) = true := e
    have : x = p := Int.ofNat.inj (eq_of_beq e')
    rw [← this]
    exact hx
  · intro h
    exact ⟨p, h, beq_self_eq_true (p : Int)⟩
theorem flat_ints {l : List Nat} : (l.map fun q => V.int (q : Nat)).all flatV = true := by
  rw [List.all_map, List.all_eq_true]
  intro x _
  rfl
def sp_Room_is_invited (K : PySem.W.Frag) (A : Ad) : Sp := fun vs H Q _ => ∃ (L : RL) (r : Kcs8.Room) (p : Nat), vs = [.ref (L.a .room), .int p] ∧ RoomOk A H L r ∧ Q (.bl (r.invited.contains p)) H
theorem ok_Room_is_invited {P : Program} {w : World} {K : PySem.W.Frag} {mg : Str → Option Value} {base : Heap} {A : Ad} (T : Txt K mg A)  : Ok P w K mg base 1 A.Room_is_invited ["self", "p"] (sp_Room_is_invited K A) := by
  obtain ⟨fd, F⟩ := T.d_Room_is_invited
  refine ⟨⟨fd, F.ok sc_Room_is_invited (fun vs H Q E h => ?_) (fun cdv Ar outer s H vs Q E hr h => ?_), F.binds fun _ _ _ _ _ _ us hl => match us, hl with | [_, _], _ => rfl⟩, F.kp⟩
  · obtain ⟨L, r, p, rfl, R, k⟩ := h
    rfl
  · obtain ⟨L, r, p, rfl, R, k⟩ := h
    refine ⟨_, (pss_one (ps_ret (pe_cmpR op_in_seq (pv 1) (pe_fld (pv 0) rfl) (by rfl)))), ?_⟩
    refine ⟨_, rfl, _, rfl, _, A.Room, _, _, _, rfl, R.room, T.cl_Room, T.na_Room_invited, roomF_invited, _, _, rfl, .inl (SqL.of R.invs), rfl, ?_, ?_⟩
    · exact flat_ints
    · show Q (.bl (inV _ _)) H
      rw [inV_ints]
      exact k
end TR
namespace TR
open PySem PySem.Spec PyProof.Rows L2
theorem vI_nil : vI [] = [] := rfl
theorem vI_cons (a : Int) (l : List Int) : vI (a :: l) = V.int a :: vI l := rfl
theorem vI_append (a b : List Int) : vI (a ++ b) = vI a ++ vI b := by
  unfold vI
  rw [List.map_append]
def stand (p : Nat) (r : Kcs8.Room) : List Nat := [if Kcs8.keeps r p then 2 else if Kcs8.isIn r p then 1 else 0, if Kcs8.isIn r p then r.messages.length else 0]
def sp_standing_in (K : PySem.W.Frag) (A : Ad) : Sp := fun vs H Q _ => ∃ (L : RL) (r : Kcs8.Room) (p : Nat), vs = [.ref (L.a .room), .int p] ∧ RoomOk A H L r ∧ (r.invited.contains p || Kcs8.isIn r p) = true ∧ Gives H (ofN (stand p r)) Q
theorem ok_standing_in {P : Program} {w : World} {K : PySem.W.Frag} {mg : Str → Option Value} {base : Heap} {A : Ad} (T : Txt K mg A) (O_Room_is_keeper : Ok P w K mg base 2 A.Room_is_keeper ["self", "p"] (sp_Room_is_keeper K A)) (O_Room_is_invited : Ok P w K mg base 1 A.Room_is_invited ["self", "p"] (sp_Room_is_invited K A)) : Ok P w K mg base 3 A.standing_in ["room", "p"] (sp_standing_in K A) := by
  obtain ⟨fd, F⟩ := T.d_standing_in
  obtain ⟨fd_Room_is_keeper, G_Room_is_keeper, B_Room_is_keeper⟩ := O_Room_is_keeper.ex
  obtain ⟨fd_Room_is_invited, G_Room_is_invited, B_Room_is_invited⟩ := O_Room_is_invited.ex
  refine ⟨⟨fd, F.ok sc_standing_in (fun vs H Q E h => ?_) (fun cdv Ar outer s H vs Q E hr h => ?_), F.binds fun _ _ _ _ _ _ us hl => match us, hl with | [_, _], _ => rfl⟩, F.kp⟩
  · obtain ⟨L, r, p, rfl, R, hin, k⟩ := h
    rfl
  · obtain ⟨L, r, p, rfl, R, hin, k⟩ := h
    refine ⟨_, (pss_cons (ps_if (pt_val (pe_meth (pv 0) T.cl_Room T.me_Room_is_invited G_Room_is_invited (hr.mono (by decide)) B_Room_is_invited .nil pass0 (pa_cons (pv 1) pa_nil))) (pss_one (ps_ret (pe_lst (pa_cons pe_int (pa_cons pe_int pa_nil))))) pss_nil)
      (pss_one (ps_ret (pe_lst (pa_cons (pe_ifExp (pt_val (pe_meth (pv 0) T.cl_Room T.me_Room_is_keeper G_Room_is_keeper (hr.mono (by decide)) B_Room_is_keeper .nil pass0 (pa_cons (pv 1) pa_nil))) pe_int pe_int) (pa_cons (pe_callB call_len_seq (by rfl) T.b_len (by decide +kernel) (pa_cons (pe_fld (pv 0) rfl) pa_nil)) pa_nil)))))), ?_⟩
    refine ⟨_, rfl, _, _, _, rfl, R.room, noM (by decide +kernel), _, rfl, L, r, p, rfl, R, _, rfl, ?_⟩
    unfold stand at k
    cases c : r.invited.contains p with
    | true =>
      have hi := R.wf.apart p c
      have hk : Kcs8.keeps r p = false := by
        unfold Kcs8.keeps
        rw [isIn_none.mp hi]
        rfl
      rw [hi, hk] at k
      refine if_true_of rfl ⟨(by show 2 ≤ sizeLine; decide), fun q nq => k _ q (Same.upd_new nq) nq upd_same⟩
    | false =>
      rw [c, Bool.false_or] at hin
      rw [hin] at k
      refine if_false_of rfl ⟨_, rfl, _, _, _, rfl, R.room, noM (by decide +kernel), _, rfl, L, r, p, rfl, R, _, rfl, ?_⟩
      cases ck : Kcs8.keeps r p with
      | true =>
        rw [ck] at k
        refine if_true_of rfl ⟨_, rfl, _, A.Room, _, _, _, rfl, R.room, T.cl_Room, T.na_Room_messages, roomF_messages, _, _, rfl, .inl (SqL.of R.msgs), (by show 2 ≤ sizeLine; decide), fun q nq => k _ q (Same.upd_new nq) nq ?_⟩
        rw [upd_same, List.length_map, List.length_range]
        rfl
      | false =>
        rw [ck] at k
        refine if_false_of rfl ⟨_, rfl, _, A.Room, _, _, _, rfl, R.room, T.cl_Room, T.na_Room_messages, roomF_messages, _, _, rfl, .inl (SqL.of R.msgs), (by show 2 ≤ sizeLine; decide), fun q nq => k _ q (Same.upd_new nq) nq ?_⟩
        rw [upd_same, List.length_map, List.length_range]
        rfl
end TR
namespace TR
open PySem PySem.Spec PyProof.Rows L2

def sp_Room_has_or_awaits (K : PySem.W.Frag) (A : Ad) : Sp := fun vs H Q _ => ∃ (L : RL) (r : Kcs8.Room) (p : Nat), vs = [.ref (L.a .room), .int p] ∧ RoomOk A H L r ∧ Q (.bl (r.invited.contains p || Kcs8.isIn r p)) H
theorem ok_Room_has_or_awaits {P : Program} {w : World} {K : PySem.W.Frag} {mg : Str → Option Value} {base : Heap} {A : Ad} (T : Txt K mg A) (O_Room_find_member : Ok P w K mg base 1 A.Room_find_member ["self", "p"] (sp_Room_find_member K A)) (O_Room_is_invited : Ok P w K mg base 1 A.Room_is_invited ["self", "p"] (sp_Room_is_invited K A)) : Ok P w K mg base 2 A.Room_has_or_awaits ["self", "p"] (sp_Room_has_or_awaits K A) := by
  obtain ⟨fd, F⟩ := T.d_Room_has_or_awaits
  obtain ⟨fd_Room_find_member, G_Room_find_member, B_Room_find_member⟩ := O_Room_find_member.ex
  obtain ⟨fd_Room_is_invited, G_Room_is_invited, B_Room_is_invited⟩ := O_Room_is_invited.ex
  refine ⟨⟨fd, F.ok sc_Room_has_or_awaits (fun vs H Q E h => ?_) (fun cdv Ar outer s H vs Q E hr h => ?_), F.binds fun _ _ _ _ _ _ us hl => match us, hl with | [_, _], _ => rfl⟩, F.kp⟩
  · obtain ⟨L, r, p, rfl, R, k⟩ := h
    rfl
  · obtain ⟨L, r, p, rfl, R, k⟩ := h
    refine ⟨_, (pss_one (ps_ret (pe_or (pe_meth (pv 0) T.cl_Room T.me_Room_is_invited G_Room_is_invited (hr.mono (by decide)) B_Room_is_invited .nil pass0 (pa_cons (pv 1) pa_nil)) (pe_one (pe_cmpR op_notN (pe_meth (pv 0) T.cl_Room T.me_Room_find_member G_Room_find_member (hr.mono (by decide)) B_Room_find_member .nil pass0 (pa_cons (pv 1) pa_nil)) pe_non (nomark _)))))), ?_⟩
    refine ⟨_, rfl, _, _, _, rfl, R.room, roomF_no (by decide +kernel) (by decide +kernel) (by decide +kernel) (by decide +kernel), _, rfl, L, r, p, rfl, R, _, rfl, ?_⟩
    cases c : r.invited.contains p with
    | true =>
      rw [c] at k
      exact if_true_of rfl k
    | false =>
      rw [c, Bool.false_or] at k
      refine if_false_of rfl ?_
      refine ⟨_, rfl, _, _, _, rfl, R.room, roomF_no (by decide +kernel) (by decide +kernel) (by decide +kernel) (by decide +kernel), _, rfl, L, r, p, rfl, R, fun e => ⟨rfl, ?_⟩, fun m e => ⟨rfl, ?_⟩⟩
      · have q : Kcs8.isIn r p = false := by unfold Kcs8.isIn; rw [e]; rfl
        rw [q] at k
        exact k
      · have q : Kcs8.isIn r p = true := by unfold Kcs8.isIn; rw [e]; rfl
        rw [q] at k
        exact k
end TR
namespace TR
open PySem PySem.Spec PyProof.Rows L2
theorem idxF_len {m : M} (W : WfH m) : ∀ n, (idxF m n).length ≤ 4 * n
  | 0 => Nat.le_refl _
  | n + 1 => by
    rw [idxF_succ, List.length_append, List.length_map, List.length_range]
    have ih := idxF_len W n
    have : (m.getD n []).length ≤ 4 := by
      cases h : m[n]? with
      | none =>
        rw [List.getD_eq_getElem?_getD, h]
        exact Nat.zero_le _
      | some row =>
        rw [getD_row h]
        exact W.rows n row h
    omega
/-- tuples of founder, number and room -/
structure Trip (L : HL) (H : Hp) (ts : List Addr) (l : List (Nat × Nat)) : Prop where
  len : ts.length = l.length
  at_ : ∀ (i : Nat) t f k, ts[i]? = some t → l[i]? = some (f, k) → H t = some (.tup [.int (f : Nat), .int (k : Nat), .ref (L.a (.rm f k .room))])
theorem Trip.same {L : HL} {H H' : Hp} {ts : List Addr} {l : List (Nat × Nat)} (T : Trip L H ts l) (S : ∀ b xs, H b = some (.tup xs) → H' b = some (.tup xs)) : Trip L H' ts l := ⟨T.len, fun i t f k h1 h2 => S _ _ (T.at_ i t f k h1 h2)⟩
theorem Trip.snoc {L : HL} {H : Hp} {ts : List Addr} {l : List (Nat × Nat)} {t : Addr} {f k : Nat} (T : Trip L H ts l) (h : H t = some (.tup [.int (f : Nat), .int (k : Nat), .ref (L.a (.rm f k .room))])) : Trip L H (ts ++ [t]) (l ++ [(f, k)]) := by
  refine ⟨by rw [List.length_append, List.length_append, T.len]; rfl, fun i t' f' k' h1 h2 => ?_⟩
  rw [List.getElem?_append] at h1 h2
  rw [T.len] at h1
  by_cases c : i < l.length
  · rw [if_pos c] at h1 h2
    exact T.at_ i t' f' k' h1 h2
  · rw [if_neg c] at h1 h2
    have c0 : i - l.length = 0 := by
      have := (List.getElem?_eq_some_iff.mp h1).1
      simp at this
      omega
    rw [c0] at h1 h2
    cases h1
    cases h2
    exact h
def sp_House_all_rooms (K : PySem.W.Frag) (A : Ad) : Sp := fun vs H Q _ => ∃ (L : HL) (m : M), vs = [.ref (L.a .house)] ∧ HouseOk A H L m ∧
  ∀ H' D ts, Same H H' → H D = none → H' D = some (.lst (ts.map V.ref)) → Trip L H' ts (idx m) → Q (.ref D) H'
theorem ok_House_all_rooms {P : Program} {w : World} {K : PySem.W.Frag} {mg : Str → Option Value} {base : Heap} {A : Ad} (T : Txt K mg A)  : Ok P w K mg base 1 A.House_all_rooms ["self"] (sp_House_all_rooms K A) := by
  obtain ⟨fd, F⟩ := T.d_House_all_rooms
  refine ⟨⟨fd, F.ok sc_House_all_rooms (fun vs H Q E h => ?_) (fun cdv Ar outer s H vs Q E hr h => ?_), F.binds fun _ _ _ _ _ _ us hl => match us, hl with | [_], _ => rfl⟩, F.kp⟩
  · obtain ⟨L, m, rfl, R, kk⟩ := h
    rfl
  · obtain ⟨L, m, rfl, R, kk⟩ := h
    refine ⟨_, (pss_cons (ps_set (i := 1) sc_House_all_rooms.nd rfl (by first | exact Or.inl rfl | exact Or.inr rfl) (pe_lst pa_nil))
      (pss_cons (ps_for PassesOwn.never rfl (pi_enum (by rfl) T.b_enumerate (pa_cons (pe_fld (pv 0) rfl) pa_nil)) (pg_tup (by rfl) (pgs_cons (pg_name (i := 2) sc_House_all_rooms.nd rfl (Or.inl rfl)) (pgs_cons (pg_name (i := 3) sc_House_all_rooms.nd rfl (Or.inl rfl)) pgs_nil)))
        (pss_one (ps_for PassesOwn.never rfl (pi_enum (by rfl) T.b_enumerate (pa_cons (pv 3) pa_nil)) (pg_tup (by rfl) (pgs_cons (pg_name (i := 4) sc_House_all_rooms.nd rfl (Or.inl rfl)) (pgs_cons (pg_name (i := 5) sc_House_all_rooms.nd rfl (Or.inl rfl)) pgs_nil)))
        (pss_one (ps_expr (pe_bm PySem.F.plainAttrs_list PySem.F.slot_list_append PySem.F.type_list_append mt_append (pv 1) (pa_cons (pe_tup (pa_cons (pv 2) (pa_cons (pv 4) (pa_cons (pv 5) pa_nil)))) pa_nil)))))))
      (pss_one (ps_ret (pv 1))))), ?_⟩
    refine ⟨Nat.zero_le _, fun D nD => ?_⟩
    have hD0 : upd H D (.lst []) D = some (.lst []) := upd_same
    have S0 : Same H (upd H D (.lst [])) := Same.upd_new nD
    have hmlen := R.wf.wf.len
    refine ⟨_, rfl, _, A.House, _, _, _, rfl, S0 _ _ R.house, T.cl_House, T.na_House_founded, houseF_founded, _, _, rfl, SqL.of (S0 _ _ R.founded), for_it (walk_enum (K := K) (a := L.a .founded) (xs := (List.range m.length).map fun f => V.ref (L.a (.row f))))
      (fun f σ H' => ∃ (v2 v3 v4 v5 : Option V) (ts : List Addr), σ = [some (.ref (L.a .house)), some (.ref D), v2, v3, v4, v5] ∧ Same H H' ∧ H' D = some (.lst (ts.map V.ref)) ∧ Trip L H' ts (idxF m f))
      ⟨none, none, none, none, [], rfl, S0, hD0, ⟨rfl, fun i t f k h => by simp at h⟩⟩ (fun f σ H' _ ⟨_, _, _, _, _, _, S, _, _⟩ => SqL.of (S _ _ R.founded)) ?_ ?_⟩
    · rintro f x σ H1 H2 hf ⟨v2, v3, v4, v5, ts, rfl, S, hD, Tr⟩ ⟨t1, a, b, rfl, nt1, rfl, ea, eb⟩
      cases ea
      rw [List.length_map, List.length_range] at hf
      dsimp only at eb
      rw [List.getElem?_map, List.getElem?_range hf] at eb
      cases eb
      obtain ⟨row, hrow⟩ : ∃ row, m[f]? = some row := ⟨_, List.getElem?_eq_getElem hf⟩
      have St1 := Same.upd_new (o := .tup [.int (f : Nat), .ref (L.a (.row f))]) nt1
      refine ⟨t1, _, rfl, SqT.of upd_same, rfl, _, _, rfl, _, _, rfl, rfl, ?_⟩
      have hr2 := St1 _ _ (S _ _ (R.row hrow))
      refine ⟨_, rfl, _, _, rfl, SqL.of hr2, for_it (walk_enum (K := K) (a := L.a (.row f)) (xs := (List.range row.length).map fun k => V.ref (L.a (.rm f k .room))))
        (fun k σ H' => ∃ (v4 v5 : Option V) (ts : List Addr), σ = [some (.ref (L.a .house)), some (.ref D), some (.int (f : Nat)), some (.ref (L.a (.row f))), v4, v5] ∧ Same H H' ∧ H' D = some (.lst (ts.map V.ref)) ∧ Trip L H' ts (idxF m f ++ (List.range k).map fun k => (f, k)))
        ⟨v4, v5, ts, rfl, S.trans St1, St1 _ _ hD, by rw [show (List.range 0).map (fun k => (f, k)) = [] from rfl, List.append_nil]; exact Tr.same fun b xs e => St1 _ _ e⟩ (fun k σ H' _ ⟨_, _, _, _, S, _, _⟩ => SqL.of (S _ _ (R.row hrow))) ?_ ?_⟩
      · rintro k x σ H3 H4 hk ⟨v4, v5, ts, rfl, S3, hD3, Tr3⟩ ⟨t2, a, b, rfl, nt2, rfl, ea, eb⟩
        cases ea
        rw [List.length_map, List.length_range] at hk
        dsimp only at eb
        rw [List.getElem?_map, List.getElem?_range hk] at eb
        cases eb
        have St2 := Same.upd_new (o := .tup [.int (k : Nat), .ref (L.a (.rm f k .room))]) nt2
        refine ⟨t2, _, rfl, SqT.of upd_same, rfl, _, _, rfl, _, _, rfl, rfl, ?_⟩
        have hD4 := St2 _ _ hD3
        refine ⟨_, rfl, .inl ⟨rfl, _, SqL.of hD4⟩, _, rfl, _, rfl, _, rfl, (by show 3 ≤ sizeLine; decide), fun t3 nt3 => ?_⟩
        have St3 := Same.upd_new (o := .tup [.int (f : Nat), .int (k : Nat), .ref (L.a (.rm f k .room))]) nt3
        refine ⟨D, _, _, rfl, rfl, St3 _ _ hD4, ?_, ?_⟩
        · rw [List.length_map, Tr3.len, List.length_append, List.length_map, List.length_range]
          have h1 := idxF_len R.wf f
          have h2 := R.wf.rows f row hrow
          exact small1000 (by omega)
        · have tD : t3 ≠ D := (ne_of_none hD4 nt3).symm
          refine ⟨_, _, ts ++ [t3], rfl, fun b o e => ?_, ?_, ?_⟩
          · rw [upd_ne (ne_of_none e nD)]
            exact St3 _ _ (St2 _ _ (S3 _ _ e))
          · rw [upd_same, List.map_append]
            rfl
          · rw [List.range_succ, List.map_append, ← List.append_assoc]
            refine Trip.snoc (Tr3.same fun b xs e => ?_) ?_
            · rw [upd_ne (ne_of e hD3 (by intro z; cases z))]
              exact St3 _ _ (St2 _ _ e)
            · rw [upd_ne tD]
              exact upd_same
      · rintro σ H3 ⟨v4, v5, ts, rfl, S3, hD3, Tr3⟩
        rw [List.length_map, List.length_range] at Tr3
        refine ⟨_, _, _, _, ts, rfl, S3, hD3, ?_⟩
        rw [idxF_succ, getD_row hrow]
        exact Tr3
    · rintro σ H1 ⟨v2, v3, v4, v5, ts, rfl, S, hD, Tr⟩
      rw [List.length_map, List.length_range] at Tr
      exact ⟨_, rfl, kk _ _ ts S nD hD Tr⟩
end TR
namespace TR
open PySem PySem.Spec PyProof.Rows L2
theorem Trip.pick {L : HL} {H H' : Hp} {ts ts' : List Addr} {l : List (Nat × Nat)} {q : Nat × Nat → Bool} {i : Nat} {t : Addr} {fk : Nat × Nat} (Tr : Trip L H ts l) (h1 : ts[i]? = some t) (h2 : l[i]? = some fk) (hq : q fk = true) (S : ∀ b xs, H b = some (.tup xs) → H' b = some (.tup xs)) (T' : Trip L H' ts' ((l.take i).filter q)) : Trip L H' (ts' ++ [t]) ((l.take (i + 1)).filter q) := by
  rw [List.take_add_one, h2, List.filter_append]
  show Trip L H' (ts' ++ [t]) ((l.take i).filter q ++ [fk].filter q)
  rw [List.filter_cons_of_pos hq]
  exact T'.snoc (S _ _ (Tr.at_ i t fk.1 fk.2 h1 h2))
theorem filter_skip {l : List (Nat × Nat)} {q : Nat × Nat → Bool} {i : Nat} {fk : Nat × Nat} (h2 : l[i]? = some fk) (hq : q fk = false) : (l.take (i + 1)).filter q = (l.take i).filter q := by
  rw [List.take_add_one, h2, List.filter_append]
  show _ ++ [fk].filter q = _
  rw [List.filter_cons_of_neg (by rw [hq]; exact Bool.false_ne_true)]
  exact List.append_nil _
def sel (m : M) (p : Nat) (fk : Nat × Nat) : Bool := (atM m fk).any fun r => Kcs8.isIn r p || r.invited.contains p
theorem sel_mine {m : M} {p j : Nat} : (((idx m).filter (sel m p))[j]?).map (atM m) = ((mineM m p)[j]?).map some := by
  have e := filter_some (q := fun r => Kcs8.isIn r p || r.invited.contains p) (flat_idx m)
  have e2 : ((idx m).filter (sel m p)).map (atM m) = (mineM m p).map some := e
  rw [← List.getElem?_map, e2, List.getElem?_map]
theorem roomLine_eq {m : M} (W : WfM m) {p f k : Nat} {r : Kcs8.Room} (h : rmAt m f k = some r) : roomLine p r = [f, k] ++ stand p r := by
  have := W.key f k r h
  unfold roomLine stand
  rw [this.1, this.2]
  rfl
def sp_kth_room (K : PySem.W.Frag) (A : Ad) : Sp := fun vs H Q _ => ∃ (L : HL) (m : M) (p j : Nat), vs = [.ref (L.a .house), .int p, .int j] ∧ HouseOk A H L m ∧ Gives H (Kcs8Neutral.told (Kcs8.told (((mineM m p)[j]?).map (roomLine p)))) Q
theorem ok_kth_room {P : Program} {w : World} {K : PySem.W.Frag} {mg : Str → Option Value} {base : Heap} {A : Ad} (T : Txt K mg A) (O_standing_in : Ok P w K mg base 3 A.standing_in ["room", "p"] (sp_standing_in K A)) (O_Room_has_or_awaits : Ok P w K mg base 2 A.Room_has_or_awaits ["self", "p"] (sp_Room_has_or_awaits K A)) (O_House_all_rooms : Ok P w K mg base 1 A.House_all_rooms ["self"] (sp_House_all_rooms K A)) : Ok P w K mg base 4 A.kth_room ["house", "p", "k"] (sp_kth_room K A) := by
  obtain ⟨fd, F⟩ := T.d_kth_room
  obtain ⟨fd_standing_in, G_standing_in, B_standing_in⟩ := O_standing_in.ex
  obtain ⟨fd_Room_has_or_awaits, G_Room_has_or_awaits, B_Room_has_or_awaits⟩ := O_Room_has_or_awaits.ex
  obtain ⟨fd_House_all_rooms, G_House_all_rooms, B_House_all_rooms⟩ := O_House_all_rooms.ex
  refine ⟨⟨fd, F.ok sc_kth_room (fun vs H Q E h => ?_) (fun cdv Ar outer s H vs Q E hr h => ?_), F.binds fun _ _ _ _ _ _ us hl => match us, hl with | [_, _, _], _ => rfl⟩, F.kp⟩
  · obtain ⟨L, m, p, j, rfl, R, kk⟩ := h
    rfl
  · obtain ⟨L, m, p, j, rfl, R, kk⟩ := h
    refine ⟨_, (pss_cons (ps_setLc (i := 3) (own := [("row", 4)]) (g := gName 4) (tt := (tB (tMeth A.Room "has_or_awaits" (sp_Room_has_or_awaits K A) [] E0 (tOp (rIxT K) (tVar 4) (tC (.int 2))) (tCons (tVar 1) tNil)))) (te := (tVar 4)) rfl sc_kth_room.nd rfl rfl (sw_true rfl rfl rfl (by decide +kernel)) (pi_list (pe_meth0 (pv 0) T.cl_House T.me_House_all_rooms G_House_all_rooms (hr.mono (by decide)) B_House_all_rooms .nil pass0)) (blkOk_by (N := N_kth_room) (sc := defScope s_kth_room) (by decide +kernel)) (fun _ _ _ _ _ => pg_name (i := 4) sc_kth_room.nd rfl (Or.inl rfl)) (fun _ _ _ _ _ => by exact (pts_one (pt_val (pe_meth (pe_ix ix_tup (pv 4) pe_int (fun _ _ => rfl)) T.cl_Room T.me_Room_has_or_awaits G_Room_has_or_awaits (hr.mono (by decide)) B_Room_has_or_awaits .nil pass0 (pa_cons (pv 1) pa_nil))))) (fun _ _ _ _ _ => by exact (pv 4)))
      (pss_cons (ps_if (pt_cmpR op_ge (pv 2) (pe_callB call_len_seq (by rfl) T.b_len (by decide +kernel) (pa_cons (pv 3) pa_nil)) (nomark _)) (pss_one (ps_ret (pe_lst (pa_cons pe_int pa_nil)))) pss_nil)
      (pss_cons (ps_set (i := 4) sc_kth_room.nd rfl (by first | exact Or.inl rfl | exact Or.inr rfl) (pe_ix ix_list (pv 3) (pv 2) (fun _ _ => rfl)))
      (pss_one (ps_ret (pe_op op_cat (pe_lst (pa_cons pe_int (pa_cons (pe_ix ix_tup (pv 4) pe_int (fun _ _ => rfl)) (pa_cons (pe_ix ix_tup (pv 4) pe_int (fun _ _ => rfl)) pa_nil)))) (pe_call G_standing_in (hr.mono (by decide)) (by rfl) T.g_standing_in O_standing_in.kp B_standing_in .nil pass0 (pa_cons (pe_ix ix_tup (pv 4) pe_int (fun _ _ => rfl)) (pa_cons (pv 1) pa_nil))))))))), ?_⟩
    refine ⟨_, rfl, _, _, _, rfl, R.house, houseF_no (by decide +kernel), L, m, rfl, R, fun H1 D0 ts S1 nD0 hD0 Tr => ?_⟩
    have R1 := R.same S1
    have hle : (idx m).length ≤ 64 := by
      have := idxF_len R.wf m.length
      rw [R.wf.wf.len] at this
      have e : idx m = idxF m 16 := by unfold idx; rw [R.wf.wf.len]
      rw [e]
      exact this
    refine ⟨D0, rfl, ⟨_, SqL.of hD0⟩, fun D nD => lc_list (K := K) (a := D0) (xs := ts.map V.ref)
      (fun i H' => Same H1 H' ∧ ∃ ts', H' D = some (.lst (ts'.map V.ref)) ∧ Trip L H' ts' (((idx m).take i).filter (sel m p))) ⟨Same.upd_new nD, [], upd_same, ⟨rfl, fun i t f k h => by simp at h⟩⟩ (fun i H' _ ⟨S, _⟩ => SqL.of (S _ _ hD0)) ?_ ?_⟩
    · rintro i z H' hi ⟨S, ts', hD, T'⟩
      obtain ⟨t, ht, rfl⟩ := map_at hi
      have hlt : i < (idx m).length := by
        rw [← Tr.len]
        exact (List.getElem?_eq_some_iff.mp ht).1
      obtain ⟨⟨f, k⟩, hfk⟩ : ∃ fk, (idx m)[i]? = some fk := ⟨_, List.getElem?_eq_getElem hlt⟩
      obtain ⟨r, hr, _⟩ := mem_idx hfk
      have htup := S _ _ (Tr.at_ i t f k ht hfk)
      have Rr := (R1.same S).room hr
      refine ⟨rfl, _, rfl, t, _, _, _, rfl, rfl, SqT.of htup, rfl, _, _, _, rfl, Rr.room, noM (by decide +kernel), _, rfl, L.rm f k, r, p, rfl, Rr, _, rfl, ?_⟩
      have hs : sel m p (f, k) = (r.invited.contains p || Kcs8.isIn r p) := by
        unfold sel atM
        rw [hr]
        exact Bool.or_comm _ _
      cases c : (r.invited.contains p || Kcs8.isIn r p) with
      | true =>
        refine if_true_of rfl ⟨_, rfl, _, hD, ?_, fun b o e => by rw [upd_ne (ne_of_none e nD)]; exact S b o e, ts' ++ [t], ?_, ?_⟩
        · rw [List.length_map, T'.len]
          have h1 := List.length_filter_le (sel m p) ((idx m).take i)
          rw [List.length_take] at h1
          exact small1000 (by omega)
        · rw [upd_same, List.map_append]
          rfl
        · have St : ∀ b xs, H' b = some (.tup xs) → upd H' D (.lst (ts'.map V.ref ++ [.ref t])) b = some (.tup xs) := fun b xs e => by
            rw [upd_ne (ne_of e hD (by intro z; cases z))]
            exact e
          exact Tr.pick (q := sel m p) ht hfk (hs.trans c) (fun b xs e => St _ _ (S _ _ e)) (T'.same St)
      | false =>
        refine if_false_of rfl ⟨S, ts', hD, ?_⟩
        rw [filter_skip hfk (hs.trans c)]
        exact T'
    · rintro H2 ⟨S, ts', hD, T'⟩
      rw [List.length_map, Tr.len, List.take_length] at T'
      have hm := sel_mine (m := m) (p := p) (j := j)
      refine ⟨_, rfl, _, rfl, _, _, rfl, .inl (SqL.of hD), _, _, rfl, rfl, _, rfl, ?_⟩
      rw [List.length_map, T'.len]
      by_cases c : ((idx m).filter (sel m p)).length ≤ j
      · rw [List.getElem?_eq_none_iff.mpr c] at hm
        have hn : (mineM m p)[j]? = none := by
          cases h : (mineM m p)[j]? with
          | none => rfl
          | some r =>
            rw [h] at hm
            cases hm
        rw [hn] at kk
        exact if_true_of (decide_eq_true (by omega)) ⟨(by show 1 ≤ sizeLine; decide), fun q nq => kk _ q (S1.trans (S.trans (Same.upd_new nq))) ((S1.trans S).free nq) upd_same⟩
      · have hlt : j < ((idx m).filter (sel m p)).length := by omega
        obtain ⟨⟨f, k⟩, hfk⟩ : ∃ fk, ((idx m).filter (sel m p))[j]? = some fk := ⟨_, List.getElem?_eq_getElem hlt⟩
        obtain ⟨t, ht⟩ : ∃ t, ts'[j]? = some t := ⟨_, List.getElem?_eq_getElem (by rw [T'.len]; exact hlt)⟩
        have htup := T'.at_ j t f k ht hfk
        have hsel : sel m p (f, k) = true := (List.mem_filter.mp (List.mem_of_getElem? hfk)).2
        obtain ⟨r, hr⟩ : ∃ r, rmAt m f k = some r := by
          unfold sel atM at hsel
          cases h : rmAt m f k with
          | none =>
            rw [h] at hsel
            cases hsel
          | some r => exact ⟨r, rfl⟩
        have hin : (r.invited.contains p || Kcs8.isIn r p) = true := by
          unfold sel atM at hsel
          rw [hr] at hsel
          rw [Bool.or_comm]
          exact hsel
        have hn : (mineM m p)[j]? = some r := by
          rw [hfk] at hm
          have hm' : some (rmAt m f k) = ((mineM m p)[j]?).map some := hm
          rw [hr] at hm'
          cases h : (mineM m p)[j]? with
          | none =>
            rw [h] at hm'
            cases hm'
          | some r' =>
            rw [h] at hm'
            injection hm' with hm'
            exact hm'.symm
        rw [hn] at kk
        refine if_false_of (decide_eq_false (by omega)) ?_
        refine ⟨_, rfl, _, rfl, _, _, _, _, rfl, rfl, SqL.of hD, at_of (j := j) (v := .ref t) rfl (by rw [List.getElem?_map, ht]; rfl), ?_⟩
        refine ⟨_, rfl, t, _, _, _, rfl, rfl, SqT.of htup, rfl, _, rfl, t, _, _, _, rfl, rfl, SqT.of htup, rfl, (by show 3 ≤ sizeLine; decide), fun q1 n1 => ?_⟩
        have Sq1 := Same.upd_new (o := .lst [.int 1, .int (f : Nat), .int (k : Nat)]) n1
        have Rr := ((R1.same S).same Sq1).room hr
        refine ⟨_, rfl, t, _, _, _, rfl, rfl, SqT.of (Sq1 _ _ htup), rfl, _, rfl, L.rm f k, r, p, rfl, Rr, hin, fun H3 q2 S3 n2 h2 => ?_⟩
        refine ⟨q1, q2, _, _, rfl, rfl, S3 _ _ upd_same, h2, ?_, fun q3 n3 => ?_⟩
        · show 3 + 2 ≤ sizeLine
          decide
        · refine kk _ q3 (S1.trans (S.trans (Sq1.trans (S3.trans (Same.upd_new n3))))) ((S1.trans (S.trans (Sq1.trans S3))).free n3) ?_
          rw [upd_same]
          show _ = some (HO.lst (vI (1 :: Kcs8Neutral.nums (roomLine p r))))
          rw [roomLine_eq R.wf.wf hr]
          rfl
end TR
namespace TR
open PySem PySem.Spec PyProof.Rows L2

def sp_kth_person (K : PySem.W.Frag) (A : Ad) : Sp := fun vs H Q _ => ∃ (L : RL) (r : Kcs8.Room) (j : Nat), vs = [.ref (L.a .room), .int j] ∧ RoomOk A H L r ∧ Gives H (Kcs8Neutral.told (peopleR r j)) Q
theorem ok_kth_person {P : Program} {w : World} {K : PySem.W.Frag} {mg : Str → Option Value} {base : Heap} {A : Ad} (T : Txt K mg A)  : Ok P w K mg base 1 A.kth_person ["room", "k"] (sp_kth_person K A) := by
  obtain ⟨fd, F⟩ := T.d_kth_person
  refine ⟨⟨fd, F.ok sc_kth_person (fun vs H Q E h => ?_) (fun cdv Ar outer s H vs Q E hr h => ?_), F.binds fun _ _ _ _ _ _ us hl => match us, hl with | [_, _], _ => rfl⟩, F.kp⟩
  · obtain ⟨L, r, j, rfl, R, k⟩ := h
    rfl
  · obtain ⟨L, r, j, rfl, R, k⟩ := h
    refine ⟨_, (pss_cons (ps_if (pt_cmpR op_ge (pv 1) (pe_callB call_len_seq (by rfl) T.b_len (by decide +kernel) (pa_cons (pe_fld (pv 0) rfl) pa_nil)) (nomark _)) (pss_one (ps_ret (pe_lst (pa_cons pe_int pa_nil)))) pss_nil)
      (pss_cons (ps_set (i := 2) sc_kth_person.nd rfl (by first | exact Or.inl rfl | exact Or.inr rfl) (pe_ix ix_list (pe_fld (pv 0) rfl) (pv 1) (fun _ _ => rfl)))
      (pss_one (ps_ret (pe_lst (pa_cons pe_int (pa_cons (pe_fld (pv 2) rfl) (pa_cons (pe_ifExp (pt_val (pe_fld (pv 2) rfl)) pe_int pe_int) pa_nil)))))))), ?_⟩
    refine ⟨_, rfl, _, rfl, _, A.Room, _, _, _, rfl, R.room, T.cl_Room, T.na_Room_members, roomF_members, _, _, rfl, .inl (SqL.of R.mems), _, _, rfl, rfl, _, rfl, ?_⟩
    rw [List.length_map]
    unfold peopleR at k
    by_cases c : r.members.length ≤ j
    · rw [List.getElem?_eq_none_iff.mpr c] at k
      exact if_true_of (decide_eq_true (by omega)) ⟨(by show 1 ≤ sizeLine; decide), fun q nq => k _ q (Same.upd_new nq) nq upd_same⟩
    · have hlt : j < r.members.length := by omega
      obtain ⟨x, hx⟩ : ∃ x, r.members[j]? = some x := ⟨_, List.getElem?_eq_getElem hlt⟩
      rw [hx] at k
      have hw := R.wf.mem (List.mem_of_getElem? hx)
      refine if_false_of (decide_eq_false (by omega)) ?_
      refine ⟨_, rfl, _, A.Room, _, _, _, rfl, R.room, T.cl_Room, T.na_Room_members, roomF_members, _, rfl, _, _, _, _, rfl, rfl, SqL.of R.mems, at_of (j := j) (v := .ref (L.a (.mem x.who))) rfl (by rw [List.getElem?_map, hx]; rfl), ?_⟩
      refine ⟨_, rfl, _, A.Member, _, _, _, rfl, R.mem hw, T.cl_Member, T.na_Member_who, memF_who, ?_⟩
      refine ⟨_, rfl, _, A.Member, _, _, _, rfl, R.mem hw, T.cl_Member, T.na_Member_keeper, memF_keeper, _, rfl, ?_⟩
      cases ck : x.keeper with
      | true =>
        refine if_true_of rfl ⟨(by show 3 ≤ sizeLine; decide), fun q nq => k _ q (Same.upd_new nq) nq ?_⟩
        rw [upd_same]
        show _ = some (HO.lst (vI (1 :: Kcs8Neutral.nums [x.who, if x.keeper then 1 else 0])))
        rw [ck]
        rfl
      | false =>
        refine if_false_of rfl ⟨(by show 3 ≤ sizeLine; decide), fun q nq => k _ q (Same.upd_new nq) nq ?_⟩
        rw [upd_same]
        show _ = some (HO.lst (vI (1 :: Kcs8Neutral.nums [x.who, if x.keeper then 1 else 0])))
        rw [ck]
        rfl
end TR
namespace TR
open PySem PySem.Spec PyProof.Rows L2
theorem filter_snocN {l : List Nat} {q : Nat → Bool} {i a : Nat} (h : l[i]? = some a) : vN ((l.take (i + 1)).filter q) = vN ((l.take i).filter q) ++ (if q a = true then [V.int (a : Nat)] else []) := by
  rw [List.take_add_one, h, List.filter_append, vN_append]
  congr 1
  show vN ([a].filter q) = _
  cases hq : q a with
  | true => rw [List.filter_cons_of_pos hq]; rfl
  | false => rw [List.filter_cons_of_neg (by rw [hq]; exact Bool.false_ne_true)]; rfl
def sp_seen_with_word (K : PySem.W.Frag) (A : Ad) : Sp := fun vs H Q _ => ∃ (L : RL) (r : Kcs8.Room) (p : Nat) (t : Addr) (w : List Nat), vs = [.ref (L.a .room), .int p, .ref t] ∧ RoomOk A H L r ∧ H t = some (.tup ((keyN w).map kV)) ∧
  ∀ H' q, Same H H' → H q = none → H' q = some (.lst (vN (hitN p w r))) → Q (.ref q) H'
theorem ok_seen_with_word {P : Program} {w : World} {K : PySem.W.Frag} {mg : Str → Option Value} {base : Heap} {A : Ad} (T : Txt K mg A) (O_Room_find_member : Ok P w K mg base 1 A.Room_find_member ["self", "p"] (sp_Room_find_member K A)) : Ok P w K mg base 2 A.seen_with_word ["room", "p", "key"] (sp_seen_with_word K A) := by
  obtain ⟨fd, F⟩ := T.d_seen_with_word
  obtain ⟨fd_Room_find_member, G_Room_find_member, B_Room_find_member⟩ := O_Room_find_member.ex
  refine ⟨⟨fd, F.ok sc_seen_with_word (fun vs H Q E h => ?_) (fun cdv Ar outer s H vs Q E hr h => ?_), F.binds fun _ _ _ _ _ _ us hl => match us, hl with | [_, _, _], _ => rfl⟩, F.kp⟩
  · obtain ⟨L, r, p, t, w, rfl, R, ht, k⟩ := h
    rfl
  · obtain ⟨L, r, p, t, w, rfl, R, ht, k⟩ := h
    refine ⟨_, (pss_cons (ps_set (i := 3) sc_seen_with_word.nd rfl (by first | exact Or.inl rfl | exact Or.inr rfl) (pe_meth (pv 0) T.cl_Room T.me_Room_find_member G_Room_find_member (hr.mono (by decide)) B_Room_find_member .nil pass0 (pa_cons (pv 1) pa_nil)))
      (pss_cons (ps_if (pt_cmpR op_isN (pv 3) pe_non (nomark _)) (pss_one (ps_ret (pe_lst pa_nil))) pss_nil)
      (pss_cons (ps_set (i := 4) sc_seen_with_word.nd rfl (by first | exact Or.inl rfl | exact Or.inr rfl) (pe_fld (pv 0) rfl))
      (pss_one (ps_ret (pe_lc (own := [("m", 5)]) (g := gName 5) (tt := (tB (tDIn (tVar 2) (tFld K (tOp (rIxL K) (tVar 4) (tVar 5)) "words")))) (te := (tVar 5)) rfl sc_seen_with_word.nd (pi_range2 (by rfl) T.b_range (pa_cons (pe_fld (pv 3) rfl) (pa_cons (pe_callB call_len_seq (by rfl) T.b_len (by decide +kernel) (pa_cons (pv 4) pa_nil)) pa_nil))) (blkOk_by (N := N_seen_with_word) (sc := defScope s_seen_with_word) (by decide +kernel)) (fun _ _ _ _ _ => pg_name (i := 5) sc_seen_with_word.nd rfl (Or.inl rfl)) (fun _ _ _ _ _ => by exact (pts_one (pt_cmp (pc_din (hu_of hr) (pv 2) (pe_fld (pe_ix ix_list (pv 4) (pv 5) (fun _ _ => rfl)) rfl))))) (fun _ _ _ _ _ => by exact (pv 5)))))))), ?_⟩
    refine ⟨_, rfl, _, _, _, rfl, R.room, noM (by decide +kernel), _, rfl, L, r, p, rfl, R, fun e => ?_, fun x e => ?_⟩
    · rw [hitN_none e] at k
      exact ⟨_, rfl, rfl, _, rfl, if_true_of rfl ⟨Nat.zero_le _, fun q nq => k _ q (Same.upd_new nq) nq upd_same⟩⟩
    · rw [hitN_some e] at k
      refine ⟨_, rfl, rfl, _, rfl, if_false_of rfl ?_⟩
      have hs := (R.wf.sr x (memberOf_who e).1).2
      have h128 := R.wf.msgs
      refine ⟨_, rfl, _, A.Room, _, _, _, rfl, R.room, T.cl_Room, T.na_Room_messages, roomF_messages, ?_⟩
      refine ⟨_, rfl, _, A.Member, _, _, _, rfl, R.mem e, T.cl_Member, T.na_Member_first, memF_first, _, rfl, _, _, rfl, .inl (SqL.of R.msgs), ?_⟩
      rw [List.length_map, List.length_range]
      refine ⟨_, _, rfl, ⟨by omega, by omega, by omega, by omega⟩, fun D nD => ?_⟩
      have en : ((r.messages.length : Int) - (x.since : Int)).toNat = r.messages.length - x.since := by omega
      rw [en]
      refine lc_range (lo := (x.since : Int)) (n := r.messages.length - x.since)
        (fun i H' => Same H H' ∧ H' D = some (.lst (vN ((((List.range (r.messages.length - x.since)).map (x.since + ·)).take i).filter fun n => (r.messages[n]?).any fun y => (Kcs8.words y.text).contains w)))) ⟨Same.upd_new nD, upd_same⟩ ?_ ?_
      · rintro i H' hi ⟨S, hD⟩
        have hlt : x.since + i < r.messages.length := by omega
        obtain ⟨y, hy⟩ : ∃ y, r.messages[x.since + i]? = some y := ⟨_, List.getElem?_eq_getElem hlt⟩
        have M := (R.msg hy).same S
        have hat : ((List.range (r.messages.length - x.since)).map (x.since + ·))[i]? = some (x.since + i) := by rw [List.getElem?_map, List.getElem?_range hi]; rfl
        have hq : ((r.messages[x.since + i]?).any fun y => (Kcs8.words y.text).contains w) = (Kcs8.words y.text).contains w := by rw [hy]; rfl
        have ei : ((x.since : Nat) : Int) + (i : Nat) = ((x.since + i : Nat) : Int) := by omega
        refine ⟨rfl, _, rfl, _, rfl, _, rfl, _, _, _, _, rfl, rfl, SqL.of (S _ _ R.msgs), at_of (j := x.since + i) (v := .ref (L.a (.msg (x.since + i) .msg))) ei (by rw [List.getElem?_map, List.getElem?_range hlt]; rfl), _, A.Message, _, _, _, rfl, M.msg, T.cl_Message, T.na_Message_words, msgF_words, _, _, rfl, DGet.t (k := keyN w) M.wds (S _ _ ht), _, rfl, ?_⟩
        rw [wordsKV_has]
        have hl : ((((List.range (r.messages.length - x.since)).map (x.since + ·)).take i).filter fun n => (r.messages[n]?).any fun y => (Kcs8.words y.text).contains w).length ≤ 128 := by
          have h1 := List.length_filter_le (fun n => (r.messages[n]?).any fun y => (Kcs8.words y.text).contains w) (((List.range (r.messages.length - x.since)).map (x.since + ·)).take i)
          rw [List.length_take, List.length_map, List.length_range] at h1
          omega
        cases c : (Kcs8.words y.text).contains w with
        | true =>
          refine if_true_of rfl ⟨_, rfl, _, hD, ?_, fun b o e => by rw [upd_ne (ne_of_none e nD)]; exact S b o e, ?_⟩
          · rw [vN_length]
            exact small1000 (by omega)
          · rw [upd_same, filter_snocN hat, if_pos (by rw [hq]; exact c), ei]
        | false =>
          refine if_false_of rfl ⟨S, ?_⟩
          rw [filter_snocN hat, if_neg (by rw [hq, c]; exact Bool.false_ne_true), List.append_nil]
          exact hD
      · rintro H1 ⟨S, hD⟩
        rw [List.take_of_length_le (by rw [List.length_map, List.length_range]; exact Nat.le_refl _)] at hD
        exact k _ D S nD hD
end TR
namespace TR
open PySem PySem.Spec PyProof.Rows L2
theorem fm_split {α β : Type} {l : List α} {F : α → List β} {i : Nat} {x : α} (h : l[i]? = some x) : l.flatMap F = (l.take i).flatMap F ++ (F x ++ (l.drop (i + 1)).flatMap F) := by
  obtain ⟨hlt, e⟩ := List.getElem?_eq_some_iff.mp h
  have e2 : l = l.take i ++ x :: l.drop (i + 1) := by
    rw [← e, List.getElem_cons_drop, List.take_append_drop]
  rw [← List.flatMap_cons, ← List.flatMap_append, ← e2]
theorem fm_at {α β : Type} {l : List α} {F : α → List β} {i left : Nat} {x : α} (h : l[i]? = some x) (hl : left < (F x).length) : (l.flatMap F)[left + ((l.take i).flatMap F).length]? = (F x)[left]? := by
  rw [fm_split h, List.getElem?_append_right (by omega), Nat.add_sub_cancel, List.getElem?_append_left hl]
theorem fm_len {α β : Type} {l : List α} {F : α → List β} {i : Nat} {x : α} (h : l[i]? = some x) : ((l.take (i + 1)).flatMap F).length = ((l.take i).flatMap F).length + (F x).length := by
  rw [List.take_add_one, h, List.flatMap_append, List.length_append]
  congr 1
  show ([x].flatMap F).length = _
  rw [List.flatMap_cons, List.flatMap_nil, List.append_nil]
/-- what p sees with the word, of one room told by its founder and number -/
def hitsF (m : M) (p : Nat) (w : List Nat) (fk : Nat × Nat) : List (List Nat) := (((atM m fk).map (hitN p (w.map Kcs8.small))).getD []).map fun n => [fk.1, fk.2, n]
theorem hits_all {m : M} (W : WfH m) (p : Nat) (w : List Nat) : m.flatten.flatMap (hitsR p w) = (idx m).flatMap (hitsF m p w) := by
  rw [← flatMap_some (flat_idx m)]
  have key : ∀ fk ∈ idx m, ((atM m fk).map (hitsR p w)).getD [] = hitsF m p w fk := fun fk h => by
    obtain ⟨i, hi⟩ := List.mem_iff_getElem?.mp h
    obtain ⟨r, hr, _⟩ := mem_idx (f := fk.1) (k := fk.2) hi
    have e : atM m fk = some r := hr
    unfold hitsF
    rw [e]
    show hitsR p w r = (hitN p (w.map Kcs8.small) r).map _
    have k := W.wf.key _ _ _ hr
    rw [hitsR_eq (W.rooms _ _ _ hr), k.1, k.2]
  generalize idx m = l at key
  induction l with
  | nil => rfl
  | cons a l ih =>
    rw [List.flatMap_cons, List.flatMap_cons, key a List.mem_cons_self, ih fun b hb => key b (List.mem_cons_of_mem _ hb)]
def sp_kth_found (K : PySem.W.Frag) (A : Ad) : Sp := fun vs H Q _ => ∃ (L : HL) (m : M) (p j : Nat) (a : Addr) (w : List Nat), vs = [.ref (L.a .house), .int p, .ref a, .int j] ∧ HouseOk A H L m ∧ SqL K H a (vN w) ∧ w.length ≤ 400 ∧
  Gives H (Kcs8Neutral.told (Kcs8.told ((m.flatten.flatMap (hitsR p w))[j]?))) Q
theorem ok_kth_found {P : Program} {w : World} {K : PySem.W.Frag} {mg : Str → Option Value} {base : Heap} {A : Ad} (T : Txt K mg A) (O_House_all_rooms : Ok P w K mg base 1 A.House_all_rooms ["self"] (sp_House_all_rooms K A)) (O_seen_with_word : Ok P w K mg base 2 A.seen_with_word ["room", "p", "key"] (sp_seen_with_word K A)) (O_word_key : Ok P w K mg base 2 A.word_key ["word"] (sp_word_key K A)) : Ok P w K mg base 3 A.kth_found ["house", "p", "word", "k"] (sp_kth_found K A) := by
  obtain ⟨fd, F⟩ := T.d_kth_found
  obtain ⟨fd_House_all_rooms, G_House_all_rooms, B_House_all_rooms⟩ := O_House_all_rooms.ex
  obtain ⟨fd_seen_with_word, G_seen_with_word, B_seen_with_word⟩ := O_seen_with_word.ex
  obtain ⟨fd_word_key, G_word_key, B_word_key⟩ := O_word_key.ex
  refine ⟨⟨fd, F.ok sc_kth_found (fun vs H Q E h => ?_) (fun cdv Ar outer s H vs Q E hr h => ?_), F.binds fun _ _ _ _ _ _ us hl => match us, hl with | [_, _, _, _], _ => rfl⟩, F.kp⟩
  · obtain ⟨L, m, p, j, a, w, rfl, R, hS, hw, kk⟩ := h
    rfl
  · obtain ⟨L, m, p, j, a, w, rfl, R, hS, hw, kk⟩ := h
    refine ⟨_, (pss_cons (ps_set (i := 4) sc_kth_found.nd rfl (by first | exact Or.inl rfl | exact Or.inr rfl) (pe_call G_word_key (hr.mono (by decide)) (by rfl) T.g_word_key O_word_key.kp B_word_key .nil pass0 (pa_cons (pv 2) pa_nil)))
      (pss_cons (ps_set (i := 5) sc_kth_found.nd rfl (by first | exact Or.inl rfl | exact Or.inr rfl) (pv 3))
      (pss_cons (ps_for PassesOwn.never rfl (pi_list (pe_meth0 (pv 0) T.cl_House T.me_House_all_rooms G_House_all_rooms (hr.mono (by decide)) B_House_all_rooms .nil pass0)) (pg_tup (by rfl) (pgs_cons (pg_name (i := 6) sc_kth_found.nd rfl (Or.inl rfl)) (pgs_cons (pg_name (i := 7) sc_kth_found.nd rfl (Or.inl rfl)) (pgs_cons (pg_name (i := 8) sc_kth_found.nd rfl (Or.inl rfl)) pgs_nil))))
        (pss_cons (ps_set (i := 9) sc_kth_found.nd rfl (by first | exact Or.inl rfl | exact Or.inr rfl) (pe_call G_seen_with_word (hr.mono (by decide)) (by rfl) T.g_seen_with_word O_seen_with_word.kp B_seen_with_word .nil pass0 (pa_cons (pv 8) (pa_cons (pv 1) (pa_cons (pv 4) pa_nil)))))
      (pss_cons (ps_if (pt_cmpR op_lt (pv 5) (pe_callB call_len_seq (by rfl) T.b_len (by decide +kernel) (pa_cons (pv 9) pa_nil)) (nomark _)) (pss_one (ps_ret (pe_lst (pa_cons pe_int (pa_cons (pv 6) (pa_cons (pv 7) (pa_cons (pe_ix ix_list (pv 9) (pv 5) (fun _ _ => rfl)) pa_nil))))))) pss_nil)
      (pss_one (ps_set (i := 5) sc_kth_found.nd rfl (by first | exact Or.inl rfl | exact Or.inr rfl) (pe_op op_sub (pv 5) (pe_callB call_len_seq (by rfl) T.b_len (by decide +kernel) (pa_cons (pv 9) pa_nil))))))))
      (pss_one (ps_ret (pe_lst (pa_cons pe_int pa_nil))))))), ?_⟩
    rw [hits_all R.wf] at kk
    refine ⟨_, rfl, a, w, rfl, hS, hw, fun H0 kt S0 hkt => ?_⟩
    have R0 := R.same S0
    refine ⟨_, rfl, ?_⟩
    refine ⟨_, rfl, _, _, _, rfl, R0.house, houseF_no (by decide +kernel), L, m, rfl, R0, fun H1 D0 ts S1 nD0 hD0 Tr => ?_⟩
    have R1 := R0.same S1
    refine ⟨D0, rfl, ⟨_, SqL.of hD0⟩, for_list (K := K) (a := D0) (xs := ts.map V.ref)
      (fun i σ H' => ∃ (left : Nat) (v6 v7 v8 v9 : Option V), σ = [some (.ref (L.a .house)), some (.int p), some (.ref a), some (.int j), some (.ref kt), some (.int (left : Nat)), v6, v7, v8, v9] ∧ Same H1 H' ∧ j = left + (((idx m).take i).flatMap (hitsF m p w)).length)
      ⟨j, none, none, none, none, rfl, Same.refl _, rfl⟩ (fun i σ H' _ ⟨_, _, _, _, _, _, S, _⟩ => SqL.of (S _ _ hD0)) ?_ ?_⟩
    · rintro i z σ H' hi ⟨left, v6, v7, v8, v9, rfl, S, hj⟩
      obtain ⟨t, ht, rfl⟩ := map_at hi
      have hlt : i < (idx m).length := by
        rw [← Tr.len]
        exact (List.getElem?_eq_some_iff.mp ht).1
      obtain ⟨⟨f, k⟩, hfk⟩ : ∃ fk, (idx m)[i]? = some fk := ⟨_, List.getElem?_eq_getElem hlt⟩
      obtain ⟨r, hr, _⟩ := mem_idx hfk
      have htup := S _ _ (Tr.at_ i t f k ht hfk)
      have Rr := (R1.same S).room hr
      have hF : hitsF m p w (f, k) = (hitN p (w.map Kcs8.small) r).map fun n => [f, k, n] := by
        unfold hitsF atM
        rw [hr]
        rfl
      refine ⟨t, _, rfl, SqT.of htup, rfl, _, _, rfl, _, _, rfl, _, _, rfl, rfl, ?_⟩
      refine ⟨_, rfl, _, rfl, _, rfl, L.rm f k, r, p, kt, _, rfl, Rr, S _ _ (S1 _ _ hkt), fun H3 q S3 nq hq => ?_⟩
      refine ⟨_, rfl, _, rfl, _, _, rfl, .inl (SqL.of hq), _, _, rfl, rfl, _, rfl, ?_⟩
      rw [vN_length]
      by_cases c : left < (hitN p (w.map Kcs8.small) r).length
      · refine if_true_of (decide_eq_true (by omega)) ?_
        obtain ⟨n, hn⟩ : ∃ n, (hitN p (w.map Kcs8.small) r)[left]? = some n := ⟨_, List.getElem?_eq_getElem c⟩
        refine ⟨_, rfl, _, rfl, _, rfl, _, rfl, _, _, _, _, rfl, rfl, SqL.of hq, at_of (j := left) (v := .int (n : Nat)) rfl (by unfold vN; rw [List.getElem?_map, hn]; rfl), (by show 4 ≤ sizeLine; decide), fun q4 n4 => ?_⟩
        refine kk _ q4 (S0.trans (S1.trans (S.trans (S3.trans (Same.upd_new n4))))) ((S0.trans (S1.trans (S.trans S3))).free n4) ?_
        rw [upd_same]
        have e := fm_at (F := hitsF m p w) (left := left) hfk (by rw [hF, List.length_map]; exact c)
        rw [← hj, hF, List.getElem?_map, hn] at e
        rw [e]
        rfl
      · refine if_false_of (decide_eq_false (by omega)) ?_
        refine ⟨_, rfl, _, rfl, _, _, rfl, .inl (SqL.of hq), _, _, rfl, rfl, ?_⟩
        have e : ((left : Nat) : Int) - ((vN (hitN p (w.map Kcs8.small) r)).length : Int) = ((left - (hitN p (w.map Kcs8.small) r).length : Nat) : Int) := by
          rw [vN_length]
          omega
        refine ⟨left - (hitN p (w.map Kcs8.small) r).length, some (.int (f : Nat)), some (.int (k : Nat)), some (.ref (L.a (.rm f k .room))), some (.ref q), ?_, S.trans S3, ?_⟩
        · rw [← e]
          rfl
        · have e2 := fm_len (F := hitsF m p w) hfk
          rw [e2, hF, List.length_map]
          omega
    · rintro σ H' ⟨left, v6, v7, v8, v9, rfl, S, hj⟩
      rw [List.length_map, Tr.len, List.take_length] at hj
      rw [List.getElem?_eq_none_iff.mpr (by omega)] at kk
      exact ⟨(by show 1 ≤ sizeLine; decide), fun q nq => kk _ q (S0.trans (S1.trans (S.trans (Same.upd_new nq)))) ((S0.trans (S1.trans S)).free nq) upd_same⟩
end TR
namespace TR
open PySem PySem.Spec PyProof.Rows L2
theorem msgF_new {w a c : Int} {t d m : Addr} {g : Bool} : putF "marks" (.ref m) (putF "words" (.ref d) (putF "text" (.ref t) (putF "gone" (.bl g) (putF "changes" (.int c) (putF "answered" (.int a) (putF "who" (.int w) [])))))) = msgF w a c g t d m := by
  repeat first | rw [put_nil] | rw [put_past (by decide +kernel)]
  rfl
def ansO (n : Nat) : Option Nat := if n = 0 then none else some (n - 1)
theorem ansI_ansO (n : Nat) : ansI (ansO n) = (n : Int) := by
  unfold ansO
  by_cases c : n = 0
  · rw [if_pos c, c]
    rfl
  · rw [if_neg c]
    show ((n - 1 : Nat) : Int) + 1 = (n : Int)
    omega
/-- a new message: the text at t is handed over -/
def sp_Message_init (K : PySem.W.Frag) (A : Ad) : Sp := fun vs H Q _ => ∃ (x dx t : Addr) (w n : Nat) (l : List Nat), vs = [.ref x, .int w, .ref t, .int n] ∧ H x = some (.ins A.Message dx []) ∧ H t = some (nats l) ∧ l.length ≤ 256 ∧
  ∀ H' L, L.a .msg = x → MsgOk A H' L ⟨w, l, ansO n, 0, false, []⟩ → Frm (del (del H t) x) L.a (fun _ => none) H' L.a (msgC A L ⟨w, l, ansO n, 0, false, []⟩) → Q .non H'
theorem ok_Message_init {P : Program} {w : World} {K : PySem.W.Frag} {mg : Str → Option Value} {base : Heap} {A : Ad} (T : Txt K mg A) (O_words_of : Ok P w K mg base 2 A.words_of ["text"] (sp_words_of K A)) : Ok P w K mg base 3 A.Message_init ["self", "who", "text", "answered"] (sp_Message_init K A) := by
  obtain ⟨fd, F⟩ := T.d_Message_init
  obtain ⟨fd_words_of, G_words_of, B_words_of⟩ := O_words_of.ex
  refine ⟨⟨fd, F.ok sc_Message_init (fun vs H Q E h => ?_) (fun cdv Ar outer s H vs Q E hr h => ?_), F.binds fun _ _ _ _ _ _ us hl => match us, hl with | [_, _, _, _], _ => rfl⟩, F.kp⟩
  · obtain ⟨x, dx, t, w, n, l, rfl, hx, ht, hl, kk⟩ := h
    rfl
  · obtain ⟨x, dx, t, w, n, l, rfl, hx, ht, hl, kk⟩ := h
    refine ⟨_, (pss_cons (ps_fld (pv 0) (pv 1) rfl)
      (pss_cons (ps_fld (pv 0) (pv 3) rfl)
      (pss_cons (ps_fld (pv 0) pe_int rfl)
      (pss_cons (ps_fld (pv 0) pe_bl rfl)
      (pss_cons (ps_fld (pv 0) (pv 2) rfl)
      (pss_cons (ps_fld (pv 0) (pe_call G_words_of (hr.mono (by decide)) (by rfl) T.g_words_of O_words_of.kp B_words_of .nil pass0 (pa_cons (pv 2) pa_nil)) rfl)
      (pss_one (ps_fld (pv 0) (pe_lc (own := [("kind", 4)]) (g := gName 4) (tt := tYes) (te := (tLst tNil)) rfl sc_Message_init.nd (pi_range1 (by rfl) T.b_range (pa_cons (pe_glob (v := .int (16)) (by rfl) T.g_KINDS ⟨_, rfl⟩) pa_nil)) (blkOk_by (N := N_Message_init) (sc := defScope s_Message_init) (by decide +kernel)) (fun _ _ _ _ _ => pg_name (i := 4) sc_Message_init.nd rfl (Or.inl rfl)) (fun _ _ _ _ _ => by exact pts_nil) (fun _ _ _ _ _ => by exact (pe_lst pa_nil))) rfl)))))))), ?_⟩
    have tx : t ≠ x := ne_of ht hx (by intro z; cases z)
    refine ⟨_, rfl, _, rfl, x, A.Message, dx, _, rfl, hx, T.cl_Message, T.na_Message_who, (by show 0 < 1000; decide), ?_⟩
    refine ⟨_, rfl, _, rfl, x, A.Message, dx, _, rfl, upd_same, T.cl_Message, T.na_Message_answered, (by show 1 < 1000; decide), ?_⟩
    refine ⟨_, rfl, x, A.Message, dx, _, rfl, upd_same, T.cl_Message, T.na_Message_changes, (by (repeat first | rw [put_nil] | rw [put_past (by decide +kernel)]); show 2 < 1000; decide), ?_⟩
    refine ⟨_, rfl, x, A.Message, dx, _, rfl, upd_same, T.cl_Message, T.na_Message_gone, (by (repeat first | rw [put_nil] | rw [put_past (by decide +kernel)]); show 3 < 1000; decide), ?_⟩
    refine ⟨_, rfl, _, rfl, x, A.Message, dx, _, rfl, upd_same, T.cl_Message, T.na_Message_text, (by (repeat first | rw [put_nil] | rw [put_past (by decide +kernel)]); show 4 < 1000; decide), ?_⟩
    refine ⟨_, rfl, t, l, rfl, by rw [upd_ne tx, upd_ne tx, upd_ne tx, upd_ne tx, upd_ne tx]; exact ht, hl, fun H6 d S6 nd hd => ?_⟩
    refine ⟨_, rfl, x, A.Message, dx, _, rfl, S6 _ _ upd_same, T.cl_Message, T.na_Message_words, (by (repeat first | rw [put_nil] | rw [put_past (by decide +kernel)]); show 5 < 1000; decide), ?_⟩
    have xd : d ≠ x := (ne_of_none upd_same nd).symm
    refine ⟨16, rfl, by decide, by decide, fun D nD => new_rows nD (fun _ => rfl) fun H8 as W => ?_⟩
    refine ⟨_, rfl, x, A.Message, dx, _, rfl, W.same _ _ upd_same, T.cl_Message, T.na_Message_marks, (by (repeat first | rw [put_nil] | rw [put_past (by decide +kernel)]); show 6 < 1000; decide), ?_⟩
    rw [msgF_new]
    have ht7 : upd H6 x (.ins A.Message dx (putF "words" (.ref d) (putF "text" (.ref t) (putF "gone" (.bl false) (putF "changes" (.int 0) (putF "answered" (.int n) (putF "who" (.int w) []))))))) t = some (nats l) := by
      rw [upd_ne tx]
      exact S6 _ _ (by rw [upd_ne tx, upd_ne tx, upd_ne tx, upd_ne tx, upd_ne tx]; exact ht)
    have hd7 : upd H6 x (.ins A.Message dx (putF "words" (.ref d) (putF "text" (.ref t) (putF "gone" (.bl false) (putF "changes" (.int 0) (putF "answered" (.int n) (putF "who" (.int w) []))))))) d = some (.dT (wordsKV l)) := by
      rw [upd_ne xd]
      exact hd
    have hx7 : upd H6 x (.ins A.Message dx (putF "words" (.ref d) (putF "text" (.ref t) (putF "gone" (.bl false) (putF "changes" (.int 0) (putF "answered" (.int n) (putF "who" (.int w) []))))))) x = some (.ins A.Message dx (putF "words" (.ref d) (putF "text" (.ref t) (putF "gone" (.bl false) (putF "changes" (.int 0) (putF "answered" (.int n) (putF "who" (.int w) []))))))) := upd_same
    have Dx : D ≠ x := (ne_of_none hx7 W.fr).symm
    have Dt : D ≠ t := (ne_of_none ht7 W.fr).symm
    have Dd : D ≠ d := (ne_of_none hd7 W.fr).symm
    have ak : ∀ k, k < 16 → as.getD k 0 ≠ x ∧ as.getD k 0 ≠ t ∧ as.getD k 0 ≠ d ∧ as.getD k 0 ≠ D ∧ H8 (as.getD k 0) = some (.lst []) := fun k h => by
      have h1 := W.at_ _ (List.mem_of_getElem? (W.at' h))
      exact ⟨(ne_of_none hx7 h1.1).symm, (ne_of_none ht7 h1.1).symm, (ne_of_none hd7 h1.1).symm, h1.2.1, h1.2.2⟩
    have S7 : ∀ b o, H b = some o → b ≠ x → upd H6 x (.ins A.Message dx (putF "words" (.ref d) (putF "text" (.ref t) (putF "gone" (.bl false) (putF "changes" (.int 0) (putF "answered" (.int n) (putF "who" (.int w) []))))))) b = some o := fun b o e nb => by
      rw [upd_ne nb]
      exact S6 _ _ (by rw [upd_ne nb, upd_ne nb, upd_ne nb, upd_ne nb, upd_ne nb]; exact e)
    have nd0 : H d = none := by
      cases e : H d with
      | none => rfl
      | some o =>
        rw [upd_ne xd, upd_ne xd, upd_ne xd, upd_ne xd, upd_ne xd, e] at nd
        cases nd
    have back : ∀ b, b ≠ x → upd H6 x (.ins A.Message dx (putF "words" (.ref d) (putF "text" (.ref t) (putF "gone" (.bl false) (putF "changes" (.int 0) (putF "answered" (.int n) (putF "who" (.int w) []))))))) b = none → H b = none := fun b nb e => by
      cases e' : H b with
      | none => rfl
      | some o =>
        rw [S7 b o e' nb] at e
        cases e
    let L : ML := ⟨fun q => match q with
      | .msg => x
      | .txt => t
      | .wds => d
      | .mks => D
      | .mk k => as.getD k 0, dx⟩
    have lt : ∀ {k : Nat} {u : HO}, msgC A L ⟨w, l, ansO n, 0, false, []⟩ (.mk k) = some u → k < 16 ∧ u = .lst [] := fun {k u} h => by
      have h' : (if k < 16 then some (nats (marksOf ⟨w, l, ansO n, 0, false, []⟩ k)) else none) = some u := h
      by_cases c : k < 16
      · rw [if_pos c] at h'
        cases h'
        exact ⟨c, rfl⟩
      · rw [if_neg c] at h'
        cases h'
    have C : Ch (del (del H t) x) L.a (fun _ => none) (upd H8 x (.ins A.Message dx (msgF w n 0 false t d D))) L.a (msgC A L ⟨w, l, ansO n, 0, false, []⟩) := by
      refine Ch.newL (fun _ => True) (Ch.start ⟨fun q o e => (by cases e), fun q q' o o' e => (by cases e)⟩) (fun b o e => ?_) (fun q o _ e => ?_) (fun q q' o o' _ _ e e' z => ?_) fun q nq => absurd True.intro nq
      · have bx : b ≠ x := fun z => by rw [z, del_same] at e; cases e
        rw [upd_ne bx]
        exact W.same _ _ (S7 b o (Same.del _ _ (Same.del _ _ e)) bx)
      · cases q with
        | msg =>
          refine ⟨del_same, ?_⟩
          cases e
          show upd H8 x _ x = some (HO.ins A.Message dx (msgF w (ansI (ansO n)) 0 false t d D))
          rw [upd_same, ansI_ansO]
        | txt =>
          refine ⟨del_none del_same, ?_⟩
          cases e
          show upd H8 x _ t = _
          rw [upd_ne tx]
          exact W.same _ _ ht7
        | wds =>
          refine ⟨del_none (del_none nd0), ?_⟩
          cases e
          show upd H8 x _ d = _
          rw [upd_ne xd]
          exact W.same _ _ hd7
        | mks =>
          refine ⟨del_none (del_none (back D Dx W.fr)), ?_⟩
          cases e
          show upd H8 x _ D = _
          rw [upd_ne Dx, W.all, W.all']
        | mk k =>
          obtain ⟨c, rfl⟩ := lt e
          have h1 := ak k c
          refine ⟨del_none (del_none (back _ h1.1 (W.at_ _ (List.mem_of_getElem? (W.at' c))).1)), ?_⟩
          show upd H8 x _ (as.getD k 0) = _
          rw [upd_ne h1.1]
          exact h1.2.2.2.2
      · cases q with
        | msg => cases q' with
          | msg => rfl
          | txt => exact absurd z.symm tx
          | wds => exact absurd z.symm xd
          | mks => exact absurd z.symm Dx
          | mk k => exact absurd z.symm (ak k (lt e').1).1
        | txt => cases q' with
          | msg => exact absurd z tx
          | txt => rfl
          | wds => exact absurd z (ne_of_none ht nd0)
          | mks => exact absurd z.symm Dt
          | mk k => exact absurd z.symm (ak k (lt e').1).2.1
        | wds => cases q' with
          | msg => exact absurd z xd
          | txt => exact absurd z.symm (ne_of_none ht nd0)
          | wds => rfl
          | mks => exact absurd z.symm Dd
          | mk k => exact absurd z.symm (ak k (lt e').1).2.2.1
        | mks => cases q' with
          | msg => exact absurd z Dx
          | txt => exact absurd z Dt
          | wds => exact absurd z Dd
          | mks => rfl
          | mk k => exact absurd z.symm (ak k (lt e').1).2.2.2.1
        | mk k => cases q' with
          | msg => exact absurd z (ak k (lt e).1).1
          | txt => exact absurd z (ak k (lt e).1).2.1
          | wds => exact absurd z (ak k (lt e).1).2.2.1
          | mks => exact absurd z (ak k (lt e).1).2.2.2.1
          | mk k' =>
            have z' : as.getD k 0 = as.getD k' 0 := z
            have h1 := W.at' (lt e).1
            rw [z'] at h1
            rw [nd_at W.nd h1 (W.at' (lt e').1)]
    exact kk _ L rfl ⟨C.reg, List.nodup_nil, fun m hm => (by cases hm), hl⟩ C.frm
end TR
namespace TR
open PySem PySem.Spec PyProof.Rows L2

def sp_Message_put_text (K : PySem.W.Frag) (A : Ad) : Sp := fun vs H Q _ => ∃ (L : ML) (x : Kcs8.Message) (t : Addr) (l : List Nat), vs = [.ref (L.a .msg), .ref t] ∧ MsgOk A H L x ∧ H t = some (nats l) ∧ l.length ≤ 256 ∧ ¬ Own L.a (msgC A L x) t ∧
  ∀ H' L', MsgGoes A (del H t) L x H' L' { x with text := l } → Q .non H'
theorem ok_Message_put_text {P : Program} {w : World} {K : PySem.W.Frag} {mg : Str → Option Value} {base : Heap} {A : Ad} (T : Txt K mg A) (O_words_of : Ok P w K mg base 2 A.words_of ["text"] (sp_words_of K A)) : Ok P w K mg base 3 A.Message_put_text ["self", "text"] (sp_Message_put_text K A) := by
  obtain ⟨fd, F⟩ := T.d_Message_put_text
  obtain ⟨fd_words_of, G_words_of, B_words_of⟩ := O_words_of.ex
  refine ⟨⟨fd, F.ok sc_Message_put_text (fun vs H Q E h => ?_) (fun cdv Ar outer s H vs Q E hr h => ?_), F.binds fun _ _ _ _ _ _ us hl => match us, hl with | [_, _], _ => rfl⟩, F.kp⟩
  · obtain ⟨L, x, t, l, rfl, R, ht, hl, no, kk⟩ := h
    rfl
  · obtain ⟨L, x, t, l, rfl, R, ht, hl, no, kk⟩ := h
    refine ⟨_, (pss_cons (ps_fld (pv 0) (pv 1) rfl)
      (pss_one (ps_fld (pv 0) (pe_call G_words_of (hr.mono (by decide)) (by rfl) T.g_words_of O_words_of.kp B_words_of .nil pass0 (pa_cons (pv 1) pa_nil)) rfl))), ?_⟩
    have tx : t ≠ L.a .msg := ne_of ht R.msg (by intro z; cases z)
    refine ⟨_, rfl, _, rfl, _, A.Message, _, _, rfl, R.msg, T.cl_Message, T.na_Message_text, (by show 7 < 1000; decide), ?_⟩
    rw [msgF_put_text]
    refine ⟨_, rfl, t, l, rfl, by rw [upd_ne tx]; exact ht, hl, fun H1 w S nw hw => ?_⟩
    refine ⟨_, rfl, _, A.Message, _, _, rfl, S _ _ upd_same, T.cl_Message, T.na_Message_words, (by show 7 < 1000; decide), ?_⟩
    rw [msgF_put_words]
    exact kk _ _ (R.setText no ht hl nw S hw)
end TR
namespace TR
open PySem PySem.Spec PyProof.Rows L2

def sp_Message_take_away (K : PySem.W.Frag) (A : Ad) : Sp := fun vs H Q _ => ∃ (L : ML) (x : Kcs8.Message), vs = [.ref (L.a .msg)] ∧ MsgOk A H L x ∧
  ∀ H' L', MsgGoes A H L x H' L' { x with text := [], gone := true, marks := [] } → Q .non H'
theorem ok_Message_take_away {P : Program} {w : World} {K : PySem.W.Frag} {mg : Str → Option Value} {base : Heap} {A : Ad} (T : Txt K mg A) (O_Message_put_text : Ok P w K mg base 3 A.Message_put_text ["self", "text"] (sp_Message_put_text K A)) : Ok P w K mg base 4 A.Message_take_away ["self"] (sp_Message_take_away K A) := by
  obtain ⟨fd, F⟩ := T.d_Message_take_away
  obtain ⟨fd_Message_put_text, G_Message_put_text, B_Message_put_text⟩ := O_Message_put_text.ex
  refine ⟨⟨fd, F.ok sc_Message_take_away (fun vs H Q E h => ?_) (fun cdv Ar outer s H vs Q E hr h => ?_), F.binds fun _ _ _ _ _ _ us hl => match us, hl with | [_], _ => rfl⟩, F.kp⟩
  · obtain ⟨L, x, rfl, R, kk⟩ := h
    rfl
  · obtain ⟨L, x, rfl, R, kk⟩ := h
    refine ⟨_, (pss_cons (ps_fld (pv 0) pe_bl rfl)
      (pss_cons (ps_expr (pe_meth (pv 0) T.cl_Message T.me_Message_put_text G_Message_put_text (hr.mono (by decide)) B_Message_put_text .nil pass0 (pa_cons (pe_lst pa_nil) pa_nil)))
      (pss_one (ps_fld (pv 0) (pe_lc (own := [("kind", 1)]) (g := gName 1) (tt := tYes) (te := (tLst tNil)) rfl sc_Message_take_away.nd (pi_range1 (by rfl) T.b_range (pa_cons (pe_glob (v := .int (16)) (by rfl) T.g_KINDS ⟨_, rfl⟩) pa_nil)) (blkOk_by (N := N_Message_take_away) (sc := defScope s_Message_take_away) (by decide +kernel)) (fun _ _ _ _ _ => pg_name (i := 1) sc_Message_take_away.nd rfl (Or.inl rfl)) (fun _ _ _ _ _ => by exact pts_nil) (fun _ _ _ _ _ => by exact (pe_lst pa_nil))) rfl)))), ?_⟩
    refine ⟨_, rfl, _, A.Message, _, _, rfl, R.msg, T.cl_Message, T.na_Message_gone, (by show 7 < 1000; decide), ?_⟩
    rw [msgF_put_gone]
    have G1 := R.setGone
    have R1 := G1.ok
    refine ⟨_, rfl, _, _, _, rfl, R1.msg, msgF_no (by decide +kernel), Nat.zero_le _, fun e ne => ?_⟩
    have S1 := Same.upd_new (o := .lst []) ne
    refine ⟨L, { x with gone := true }, e, [], rfl, R1.same S1, upd_same, Nat.zero_le _, R1.reg.free ne, fun H2 L2 G2 => ?_⟩
    have G2' : MsgGoes A (upd H (L.a .msg) (msgO A L { x with gone := true })) L { x with gone := true } H2 L2 { x with gone := true, text := [] } := by
      have G3 := G2
      rw [del_new ne] at G3
      exact G3
    have R2 := G2'.ok
    have h2 := G2'.msg
    refine ⟨16, rfl, by decide, by decide, fun D nD => new_rows nD (fun _ => rfl) fun H8 as W => ?_⟩
    refine ⟨_, rfl, _, A.Message, _, _, rfl, W.same _ _ h2, T.cl_Message, T.na_Message_marks, (by show 7 < 1000; decide), ?_⟩
    rw [msgF_put_marks]
    have G3 := R2.setMarks W
    rw [G2'.here] at G3
    exact kk _ _ (G1.trans (G2'.trans G3))
end TR
namespace TR
open PySem PySem.Spec PyProof.Rows L2
theorem memF_new {w f g : Int} {k : Bool} : putF "read" (.int g) (putF "first" (.int f) (putF "keeper" (.bl k) (putF "who" (.int w) []))) = memF w k f g := by
  repeat first | rw [put_nil] | rw [put_past (by decide +kernel)]
  rfl
def sp_Member_init (K : PySem.W.Frag) (A : Ad) : Sp := fun vs H Q _ => ∃ (x dx : Addr) (w f : Int) (k : Bool), vs = [.ref x, .int w, .bl k, .int f] ∧ H x = some (.ins A.Member dx []) ∧
  ∀ H', H' x = some (.ins A.Member dx (memF w k f f)) → (∀ b o, H b = some o → b ≠ x → H' b = some o) → Q .non H'
theorem ok_Member_init {P : Program} {w : World} {K : PySem.W.Frag} {mg : Str → Option Value} {base : Heap} {A : Ad} (T : Txt K mg A)  : Ok P w K mg base 1 A.Member_init ["self", "who", "keeper", "first"] (sp_Member_init K A) := by
  obtain ⟨fd, F⟩ := T.d_Member_init
  refine ⟨⟨fd, F.ok sc_Member_init (fun vs H Q E h => ?_) (fun cdv Ar outer s H vs Q E hr h => ?_), F.binds fun _ _ _ _ _ _ us hl => match us, hl with | [_, _, _, _], _ => rfl⟩, F.kp⟩
  · obtain ⟨x, dx, w, f, k, rfl, hx, kk⟩ := h
    rfl
  · obtain ⟨x, dx, w, f, k, rfl, hx, kk⟩ := h
    refine ⟨_, (pss_cons (ps_fld (pv 0) (pv 1) rfl)
      (pss_cons (ps_fld (pv 0) (pv 2) rfl)
      (pss_cons (ps_fld (pv 0) (pv 3) rfl)
      (pss_one (ps_fld (pv 0) (pv 3) rfl))))), ?_⟩
    refine ⟨_, rfl, _, rfl, x, A.Member, dx, _, rfl, hx, T.cl_Member, T.na_Member_who, (by show 0 < 1000; decide), ?_⟩
    refine ⟨_, rfl, _, rfl, x, A.Member, dx, _, rfl, upd_same, T.cl_Member, T.na_Member_keeper, (by show 1 < 1000; decide), ?_⟩
    refine ⟨_, rfl, _, rfl, x, A.Member, dx, _, rfl, upd_same, T.cl_Member, T.na_Member_first, (by (repeat first | rw [put_nil] | rw [put_past (by decide +kernel)]); show 2 < 1000; decide), ?_⟩
    refine ⟨_, rfl, _, rfl, x, A.Member, dx, _, rfl, upd_same, T.cl_Member, T.na_Member_read, (by (repeat first | rw [put_nil] | rw [put_past (by decide +kernel)]); show 3 < 1000; decide), ?_⟩
    rw [memF_new]
    exact kk _ upd_same fun b o e hb => by
      rw [upd_ne hb, upd_ne hb, upd_ne hb, upd_ne hb]
      exact e
end TR
namespace TR
open PySem PySem.Spec PyProof.Rows L2
theorem roomF_new {p : Int} {a b c : Addr} : putF "messages" (.ref c) (putF "invited" (.ref b) (putF "members" (.ref a) (putF "past" (.int p) []))) = roomF p a b c := by
  repeat first | rw [put_nil] | rw [put_past (by decide +kernel)]
  rfl
def room0 (f k : Nat) (b : Bool) : Kcs8.Room := ⟨f, k, b, [], [], []⟩
theorem wf_room0 (f k : Nat) (b : Bool) : WfR (room0 f k b) := ⟨List.nodup_nil, fun q h => (by cases h), (by show 0 ≤ 12; decide), (by show 0 ≤ 128; decide), fun m hm => (by cases hm), fun m hm => (by cases hm)⟩
def sp_Room_init (K : PySem.W.Frag) (A : Ad) : Sp := fun vs H Q _ => ∃ (x dx : Addr) (f k : Nat) (b : Bool), vs = [.ref x, .int (b2i' b)] ∧ H x = some (.ins A.Room dx []) ∧
  ∀ H' L, L.a .room = x → RoomOk A H' L (room0 f k b) → (∀ z o, H z = some o → z ≠ x → H' z = some o ∧ ¬ Own L.a (roomC A L (room0 f k b)) z) → Q .non H'
theorem ok_Room_init {P : Program} {w : World} {K : PySem.W.Frag} {mg : Str → Option Value} {base : Heap} {A : Ad} (T : Txt K mg A)  : Ok P w K mg base 1 A.Room_init ["self", "past"] (sp_Room_init K A) := by
  obtain ⟨fd, F⟩ := T.d_Room_init
  refine ⟨⟨fd, F.ok sc_Room_init (fun vs H Q E h => ?_) (fun cdv Ar outer s H vs Q E hr h => ?_), F.binds fun _ _ _ _ _ _ us hl => match us, hl with | [_, _], _ => rfl⟩, F.kp⟩
  · obtain ⟨x, dx, f, k, b, rfl, hx, kk⟩ := h
    rfl
  · obtain ⟨x, dx, f, k, b, rfl, hx, kk⟩ := h
    refine ⟨_, (pss_cons (ps_fld (pv 0) (pv 1) rfl)
      (pss_cons (ps_fld (pv 0) (pe_lst pa_nil) rfl)
      (pss_cons (ps_fld (pv 0) (pe_lst pa_nil) rfl)
      (pss_one (ps_fld (pv 0) (pe_lst pa_nil) rfl))))), ?_⟩
    refine ⟨_, rfl, _, rfl, x, A.Room, dx, _, rfl, hx, T.cl_Room, T.na_Room_past, (by show 0 < 1000; decide), ?_⟩
    refine ⟨Nat.zero_le _, fun a na => ⟨_, rfl, x, A.Room, dx, _, rfl, (upd_ne (ne_of_none upd_same na)).trans upd_same, T.cl_Room, T.na_Room_members, (by show 1 < 1000; decide), ?_⟩⟩
    refine ⟨Nat.zero_le _, fun i ni => ⟨_, rfl, x, A.Room, dx, _, rfl, (upd_ne (ne_of_none upd_same ni)).trans upd_same, T.cl_Room, T.na_Room_invited, (by (repeat first | rw [put_nil] | rw [put_past (by decide +kernel)]); show 2 < 1000; decide), ?_⟩⟩
    refine ⟨Nat.zero_le _, fun g ng => ⟨_, rfl, x, A.Room, dx, _, rfl, (upd_ne (ne_of_none upd_same ng)).trans upd_same, T.cl_Room, T.na_Room_messages, (by (repeat first | rw [put_nil] | rw [put_past (by decide +kernel)]); show 3 < 1000; decide), ?_⟩⟩
    rw [roomF_new]
    have xa : x ≠ a := ne_of_none upd_same na
    have xi : x ≠ i := ne_of_none upd_same ni
    have xg : x ≠ g := ne_of_none upd_same ng
    have na' : H a = none := by rw [upd_ne xa.symm] at na; exact na
    have ai : a ≠ i := ne_of_none (o := .lst []) (by rw [upd_ne xa.symm]; exact upd_same) ni
    have ag : a ≠ g := ne_of_none (o := .lst []) (by rw [upd_ne xa.symm, upd_ne ai, upd_ne xa.symm]; exact upd_same) ng
    have ig : i ≠ g := ne_of_none (o := .lst []) (by rw [upd_ne xi.symm]; exact upd_same) ng
    have ni' : H i = none := by rw [upd_ne xi.symm, upd_ne ai.symm, upd_ne xi.symm] at ni; exact ni
    have ng' : H g = none := by rw [upd_ne xg.symm, upd_ne ig.symm, upd_ne xg.symm, upd_ne ag.symm, upd_ne xg.symm] at ng; exact ng
    let L : RL := ⟨fun q => match q with
      | .room => x
      | .mems => a
      | .invs => i
      | .msgs => g
      | _ => x, fun _ => dx⟩
    have cN : ∀ q o, roomC A L (room0 f k b) q = some o → q = .room ∨ q = .mems ∨ q = .invs ∨ q = .msgs := fun q o e => by
      cases q with
      | room => exact .inl rfl
      | mems => exact .inr (.inl rfl)
      | invs => exact .inr (.inr (.inl rfl))
      | msgs => exact .inr (.inr (.inr rfl))
      | mem p => cases e
      | msg n z => simp [roomC, room0] at e
    refine kk _ L rfl ⟨⟨fun q o e => ?_, fun q q' o o' e e' z => ?_⟩, wf_room0 f k b⟩ fun z o e hz => ⟨?_, ?_⟩
    · rcases cN q o e with rfl | rfl | rfl | rfl
      · cases e
        exact upd_same
      · cases e
        show upd _ x _ a = _
        rw [upd_ne xa.symm, upd_ne ag, upd_ne xa.symm, upd_ne ai, upd_ne xa.symm]
        exact upd_same
      · cases e
        show upd _ x _ i = _
        rw [upd_ne xi.symm, upd_ne ig, upd_ne xi.symm]
        exact upd_same
      · cases e
        show upd _ x _ g = _
        rw [upd_ne xg.symm]
        exact upd_same
    · rcases cN q o e with rfl | rfl | rfl | rfl <;> rcases cN q' o' e' with rfl | rfl | rfl | rfl <;> first | rfl | exact absurd z xa | exact absurd z xi | exact absurd z xg | exact absurd z xa.symm | exact absurd z xi.symm | exact absurd z xg.symm | exact absurd z ai | exact absurd z ai.symm | exact absurd z ag | exact absurd z ag.symm | exact absurd z ig | exact absurd z ig.symm
    · have za : z ≠ a := ne_of_none e na'
      have zi : z ≠ i := ne_of_none e ni'
      have zg : z ≠ g := ne_of_none e ng'
      rw [upd_ne hz, upd_ne zg, upd_ne hz, upd_ne zi, upd_ne hz, upd_ne za, upd_ne hz]
      exact e
    · rintro ⟨q, o', e', q2⟩
      rcases cN q o' e' with rfl | rfl | rfl | rfl
      · exact hz q2.symm
      · exact ne_of_none e na' q2.symm
      · exact ne_of_none e ni' q2.symm
      · exact ne_of_none e ng' q2.symm
end TR
namespace TR
open PySem PySem.Spec PyProof.Rows L2
theorem without_snoc {l : List Kcs8.Member} {i p : Nat} {m : Kcs8.Member} (h : l[i]? = some m) : Kcs8.without (l.take (i + 1)) p = Kcs8.without (l.take i) p ++ (if m.who = p then [] else [m]) := by
  unfold Kcs8.without
  rw [List.take_add_one, h, List.filter_append]
  by_cases c : m.who = p
  · simp [c]
  · simp [c]
theorem filter_snoc {l : List Nat} {i p q : Nat} (h : l[i]? = some q) : (l.take (i + 1)).filter (· != p) = (l.take i).filter (· != p) ++ (if q = p then [] else [q]) := by
  rw [List.take_add_one, h, List.filter_append]
  by_cases c : q = p
  · simp [c]
  · simp [c]
theorem dec_nat_true {a b : Nat} (h : a = b) : decide (V.int (a : Int) = V.int (b : Int)) = true := by rw [h]; exact decide_eq_true rfl
theorem dec_nat_false {a b : Nat} (h : ¬ a = b) : decide (V.int (a : Int) = V.int (b : Int)) = false := decide_eq_false fun z => h (by injection z with z; exact Int.ofNat.inj z)
/-- forget: afterwards p is neither in the room nor invited -/
def sp_Room_forget (K : PySem.W.Frag) (A : Ad) : Sp := fun vs H Q _ => ∃ (L : RL) (r : Kcs8.Room) (p : Nat), vs = [.ref (L.a .room), .int p] ∧ RoomOk A H L r ∧
  ∀ H' L', RoomGoes A H L r H' L' { r with members := Kcs8.without r.members p, invited := r.invited.filter (· != p) } → Q .non H'
theorem ok_Room_forget {P : Program} {w : World} {K : PySem.W.Frag} {mg : Str → Option Value} {base : Heap} {A : Ad} (T : Txt K mg A)  : Ok P w K mg base 1 A.Room_forget ["self", "p"] (sp_Room_forget K A) := by
  obtain ⟨fd, F⟩ := T.d_Room_forget
  refine ⟨⟨fd, F.ok sc_Room_forget (fun vs H Q E h => ?_) (fun cdv Ar outer s H vs Q E hr h => ?_), F.binds fun _ _ _ _ _ _ us hl => match us, hl with | [_, _], _ => rfl⟩, F.kp⟩
  · obtain ⟨L, r, p, rfl, R, k⟩ := h
    rfl
  · obtain ⟨L, r, p, rfl, R, k⟩ := h
    refine ⟨_, (pss_cons (ps_fld (pv 0) (pe_lc (own := [("member", 2)]) (g := gName 2) (tt := (tTest (tOp rNe (tFld K (tVar 2) "who") (tVar 1)))) (te := (tVar 2)) rfl sc_Room_forget.nd (pi_list (pe_fld (pv 0) rfl)) (blkOk_by (N := N_Room_forget) (sc := defScope s_Room_forget) (by decide +kernel)) (fun _ _ _ _ _ => pg_name (i := 2) sc_Room_forget.nd rfl (Or.inl rfl)) (fun _ _ _ _ _ => by exact (pts_one (pt_cmpR op_ne (pe_fld (pv 2) rfl) (pv 1) (nomark _)))) (fun _ _ _ _ _ => by exact (pv 2))) rfl)
      (pss_one (ps_fld (pv 0) (pe_lc (own := [("who", 3)]) (g := gName 3) (tt := (tTest (tOp rNe (tVar 3) (tVar 1)))) (te := (tVar 3)) rfl sc_Room_forget.nd (pi_list (pe_fld (pv 0) rfl)) (blkOk_by (N := N_Room_forget) (sc := defScope s_Room_forget) (by decide +kernel)) (fun _ _ _ _ _ => pg_name (i := 3) sc_Room_forget.nd rfl (Or.inl rfl)) (fun _ _ _ _ _ => by exact (pts_one (pt_cmpR op_ne (pv 3) (pv 1) (nomark _)))) (fun _ _ _ _ _ => by exact (pv 3))) rfl))), ?_⟩
    refine ⟨_, rfl, _, A.Room, _, _, _, rfl, R.room, T.cl_Room, T.na_Room_members, roomF_members, _, rfl, ⟨_, SqL.of R.mems⟩, fun D nD => lc_list (K := K) (a := L.a .mems) (xs := r.members.map fun m => .ref (L.a (.mem m.who)))
      (fun i H' => Same H H' ∧ H' D = some (.lst ((Kcs8.without (r.members.take i) p).map fun m => .ref (L.a (.mem m.who))))) ⟨Same.upd_new nD, upd_same⟩ (fun i H' _ ⟨S, _⟩ => SqL.of (S _ _ R.mems)) ?_ ?_⟩
    · rintro i y H' hi ⟨S, hD⟩
      obtain ⟨m, hm, rfl⟩ := map_at hi
      have hw := R.wf.mem (List.mem_of_getElem? hm)
      refine ⟨rfl, _, rfl, _, A.Member, _, _, _, rfl, S _ _ (R.mem hw), T.cl_Member, T.na_Member_who, memF_who, _, rfl, rfl, _, rfl, ?_⟩
      by_cases c : m.who = p
      · refine if_false_of (by rw [dec_nat_true c]; rfl) ⟨S, ?_⟩
        rw [without_snoc hm, if_pos c, List.append_nil]
        exact hD
      · refine if_true_of (by rw [dec_nat_false c]; rfl) ⟨_, rfl, _, hD, ?_, ?_, ?_⟩
        · rw [List.length_map]
          have h1 : (Kcs8.without (r.members.take i) p).length ≤ (r.members.take i).length := List.length_filter_le _ _
          have h2 : (r.members.take i).length ≤ r.members.length := by rw [List.length_take]; omega
          have h3 := R.wf.few
          exact small1000 (by omega)
        · exact fun b o e => by rw [upd_ne (ne_of_none e nD)]; exact S b o e
        · rw [upd_same, without_snoc hm, if_neg c, List.map_append]
          rfl
    · rintro H1 ⟨S, hD⟩
      rw [List.length_map, List.take_length] at hD
      refine ⟨_, rfl, _, A.Room, _, _, rfl, S _ _ R.room, T.cl_Room, T.na_Room_members, (by show 4 < 1000; decide), ?_⟩
      rw [roomF_put_members]
      have G1 := R.setMembers p nD S hD
      have R1 := G1.ok
      refine ⟨_, rfl, _, A.Room, _, _, _, rfl, R1.room, T.cl_Room, T.na_Room_invited, roomF_invited, _, rfl, ⟨_, SqL.of R1.invs⟩, fun D2 nD2 => lc_list (K := K) (a := L.a .invs) (xs := r.invited.map fun q => .int (q : Nat))
        (fun i H' => Same (upd H1 (L.a .room) (.ins A.Room (L.d .room) (roomF (b2i' r.past) D (L.a .invs) (L.a .msgs)))) H' ∧ H' D2 = some (.lst (((r.invited.take i).filter (· != p)).map fun q => .int (q : Nat)))) ⟨Same.upd_new nD2, upd_same⟩ (fun i H' _ ⟨S, _⟩ => SqL.of (S _ _ R1.invs)) ?_ ?_⟩
      · rintro i y H' hi ⟨S, hD⟩
        obtain ⟨q, hq, rfl⟩ := map_at hi
        refine ⟨rfl, _, rfl, _, rfl, rfl, _, rfl, ?_⟩
        by_cases c : q = p
        · refine if_false_of (by rw [dec_nat_true c]; rfl) ⟨S, ?_⟩
          rw [filter_snoc hq, if_pos c, List.append_nil]
          exact hD
        · refine if_true_of (by rw [dec_nat_false c]; rfl) ⟨_, rfl, _, hD, ?_, ?_, ?_⟩
          · rw [List.length_map]
            have h1 : ((r.invited.take i).filter (· != p)).length ≤ (r.invited.take i).length := List.length_filter_le _ _
            have h2 : (r.invited.take i).length ≤ r.invited.length := by rw [List.length_take]; omega
            have h3 := R.wf.few
            exact small1000 (by omega)
          · exact fun b o e => by rw [upd_ne (ne_of_none e nD2)]; exact S b o e
          · rw [upd_same, filter_snoc hq, if_neg c, List.map_append]
            rfl
      · rintro H2 ⟨S2, hD2⟩
        rw [List.length_map, List.take_length] at hD2
        refine ⟨_, rfl, _, A.Room, _, _, rfl, S2 _ _ R1.room, T.cl_Room, T.na_Room_invited, (by show 4 < 1000; decide), ?_⟩
        rw [roomF_put_invited]
        exact k _ _ (G1.trans (R1.setInvited p nD2 S2 hD2))
end TR
namespace TR
open PySem PySem.Spec PyProof.Rows L2
theorem without_none {l : List Kcs8.Member} {p : Nat} (h : ∀ m ∈ l, m.who ≠ p) : Kcs8.without l p = l := List.filter_eq_self.mpr fun m hm => by simp [h m hm]
theorem memberOf_all {r : Kcs8.Room} {p : Nat} (h : Kcs8.memberOf r p = none) : ∀ m ∈ r.members, m.who ≠ p := fun m hm => by simpa using List.find?_eq_none.mp h m hm
theorem not_invited {l : List Nat} {p : Nat} : (l.filter (· != p)).contains p = false := by
  rw [Bool.eq_false_iff]
  intro h
  have h' : p ∈ l.filter (· != p) := by simpa using h
  have := (List.mem_filter.mp h').2
  simp at this
/-- enter: p, who isn't in it, is in it, last, and invited no more -/
def sp_Room_enter (K : PySem.W.Frag) (A : Ad) : Sp := fun vs H Q _ => ∃ (L : RL) (r : Kcs8.Room) (p : Nat), vs = [.ref (L.a .room), .int p] ∧ RoomOk A H L r ∧ Kcs8.memberOf r p = none ∧ r.members.length + (r.invited.filter (· != p)).length < 12 ∧
  ∀ H' L', RoomGoes A H L r H' L' (enterR r p) → Q .non H'
theorem ok_Room_enter {P : Program} {w : World} {K : PySem.W.Frag} {mg : Str → Option Value} {base : Heap} {A : Ad} (T : Txt K mg A) (O_Member_init : Ok P w K mg base 1 A.Member_init ["self", "who", "keeper", "first"] (sp_Member_init K A)) (O_Room_forget : Ok P w K mg base 1 A.Room_forget ["self", "p"] (sp_Room_forget K A)) : Ok P w K mg base 3 A.Room_enter ["self", "p"] (sp_Room_enter K A) := by
  obtain ⟨fd, F⟩ := T.d_Room_enter
  obtain ⟨fd_Member_init, G_Member_init, B_Member_init⟩ := O_Member_init.ex
  obtain ⟨fd_Room_forget, G_Room_forget, B_Room_forget⟩ := O_Room_forget.ex
  refine ⟨⟨fd, F.ok sc_Room_enter (fun vs H Q E h => ?_) (fun cdv Ar outer s H vs Q E hr h => ?_), F.binds fun _ _ _ _ _ _ us hl => match us, hl with | [_, _], _ => rfl⟩, F.kp⟩
  · obtain ⟨L, r, p, rfl, R, h0, hf, k⟩ := h
    rfl
  · obtain ⟨L, r, p, rfl, R, h0, hf, k⟩ := h
    refine ⟨_, (pss_cons (ps_set (i := 2) sc_Room_enter.nd rfl (by first | exact Or.inl rfl | exact Or.inr rfl) (pe_ifExp (pt_cmpR op_eq (pe_fld (pv 0) rfl) pe_int (nomark _)) pe_int (pe_callB call_len_seq (by rfl) T.b_len (by decide +kernel) (pa_cons (pe_fld (pv 0) rfl) pa_nil))))
      (pss_cons (ps_set (i := 3) sc_Room_enter.nd rfl (by first | exact Or.inl rfl | exact Or.inr rfl) (pe_cmpR op_eq (pe_callB call_len_seq (by rfl) T.b_len (by decide +kernel) (pa_cons (pe_fld (pv 0) rfl) pa_nil)) pe_int (nomark _)))
      (pss_cons (ps_expr (pe_meth (pv 0) T.cl_Room T.me_Room_forget G_Room_forget (hr.mono (by decide)) B_Room_forget .nil pass0 (pa_cons (pv 1) pa_nil)))
      (pss_one (ps_expr (pe_bm PySem.F.plainAttrs_list PySem.F.slot_list_append PySem.F.type_list_append mt_append (pe_fld (pv 0) rfl) (pa_cons (pe_make T.mk_Member G_Member_init (hr.mono (by decide)) (by rfl) T.g_Member B_Member_init .nil pass0 (pa_cons (pv 1) (pa_cons (pv 3) (pa_cons (pv 2) pa_nil)))) pa_nil))))))), ?_⟩
    refine ⟨_, rfl, _, A.Room, _, _, _, rfl, R.room, T.cl_Room, T.na_Room_past, roomF_past, rfl, _, rfl, ?_⟩
    have ew : Kcs8.without r.members p = r.members := without_none (memberOf_all h0)
    cases hp : r.past
    · refine if_false_of rfl ⟨_, rfl, _, A.Room, _, _, _, rfl, R.room, T.cl_Room, T.na_Room_messages, roomF_messages, _, _, rfl, .inl (SqL.of R.msgs), ?_⟩
      rw [List.length_map, List.length_range]
      refine ⟨_, rfl, _, A.Room, _, _, _, rfl, R.room, T.cl_Room, T.na_Room_members, roomF_members, _, _, rfl, .inl (SqL.of R.mems), rfl, ?_⟩
      rw [List.length_map, len_zero]
      refine ⟨_, rfl, _, _, _, rfl, R.room, roomF_no (by decide +kernel) (by decide +kernel) (by decide +kernel) (by decide +kernel), _, rfl, L, r, p, rfl, R, fun H1 L1 G1 => ?_⟩
      rw [ew] at G1
      have R1 := G1.ok
      refine ⟨_, rfl, _, A.Room, _, _, _, rfl, G1.room, T.cl_Room, T.na_Room_members, roomF_members, .inl ⟨rfl, _, SqL.of R1.mems⟩, _, rfl, _, rfl, _, rfl, fun x dx nx nd ne => ?_⟩
      refine ⟨x, dx, p, _, _, rfl, upd_same, fun H2 hx kp => ⟨rfl, ?_⟩⟩
      have S : Same H1 H2 := Same.made nx nd kp
      have hx2 : H2 x = some (memO A dx ⟨p, r.members.isEmpty, if r.past = true then 0 else r.messages.length, if r.past = true then 0 else r.messages.length⟩) := by
        rw [hx, hp]
        rfl
      refine ⟨_, _, _, rfl, rfl, S _ _ R1.mems, ?_, ?_⟩
      · rw [List.length_map]
        exact small1000 (by have := R.wf.few; show r.members.length ≤ 1000; omega)
      · exact k _ _ (G1.trans (R1.addMember (m := ⟨p, r.members.isEmpty, if r.past = true then 0 else r.messages.length, if r.past = true then 0 else r.messages.length⟩) h0 not_invited hf ⟨Nat.le_refl _, (by show (if r.past = true then 0 else r.messages.length) ≤ r.messages.length; split <;> omega)⟩ nx S hx2))
    · refine if_true_of rfl ?_
      refine ⟨_, rfl, _, A.Room, _, _, _, rfl, R.room, T.cl_Room, T.na_Room_members, roomF_members, _, _, rfl, .inl (SqL.of R.mems), rfl, ?_⟩
      rw [List.length_map, len_zero]
      refine ⟨_, rfl, _, _, _, rfl, R.room, roomF_no (by decide +kernel) (by decide +kernel) (by decide +kernel) (by decide +kernel), _, rfl, L, r, p, rfl, R, fun H1 L1 G1 => ?_⟩
      rw [ew] at G1
      have R1 := G1.ok
      refine ⟨_, rfl, _, A.Room, _, _, _, rfl, G1.room, T.cl_Room, T.na_Room_members, roomF_members, .inl ⟨rfl, _, SqL.of R1.mems⟩, _, rfl, _, rfl, _, rfl, fun x dx nx nd ne => ?_⟩
      refine ⟨x, dx, p, _, _, rfl, upd_same, fun H2 hx kp => ⟨rfl, ?_⟩⟩
      have S : Same H1 H2 := Same.made nx nd kp
      have hx2 : H2 x = some (memO A dx ⟨p, r.members.isEmpty, if r.past = true then 0 else r.messages.length, if r.past = true then 0 else r.messages.length⟩) := by
        rw [hx, hp]
        rfl
      refine ⟨_, _, _, rfl, rfl, S _ _ R1.mems, ?_, ?_⟩
      · rw [List.length_map]
        exact small1000 (by have := R.wf.few; show r.members.length ≤ 1000; omega)
      · exact k _ _ (G1.trans (R1.addMember (m := ⟨p, r.members.isEmpty, if r.past = true then 0 else r.messages.length, if r.past = true then 0 else r.messages.length⟩) h0 not_invited hf ⟨Nat.le_refl _, (by show (if r.past = true then 0 else r.messages.length) ≤ r.messages.length; split <;> omega)⟩ nx S hx2))
end TR
namespace TR
open PySem PySem.Spec PyProof.Rows L2

def sp_Room_seen_message (K : PySem.W.Frag) (A : Ad) : Sp := fun vs H Q _ => ∃ (L : RL) (r : Kcs8.Room) (p n : Nat) (x : Kcs8.Member), vs = [.ref (L.a .room), .int p, .int n] ∧ RoomOk A H L r ∧ Kcs8.memberOf r p = some x ∧
  (Kcs8.sees r x n = none → Q .non H) ∧ (∀ y, Kcs8.sees r x n = some y → Q (.ref (L.a (.msg n .msg))) H)
theorem ok_Room_seen_message {P : Program} {w : World} {K : PySem.W.Frag} {mg : Str → Option Value} {base : Heap} {A : Ad} (T : Txt K mg A) (O_Room_find_member : Ok P w K mg base 1 A.Room_find_member ["self", "p"] (sp_Room_find_member K A)) : Ok P w K mg base 2 A.Room_seen_message ["self", "p", "m"] (sp_Room_seen_message K A) := by
  obtain ⟨fd, F⟩ := T.d_Room_seen_message
  obtain ⟨fd_Room_find_member, G_Room_find_member, B_Room_find_member⟩ := O_Room_find_member.ex
  refine ⟨⟨fd, F.ok sc_Room_seen_message (fun vs H Q E h => ?_) (fun cdv Ar outer s H vs Q E hr h => ?_), F.binds fun _ _ _ _ _ _ us hl => match us, hl with | [_, _, _], _ => rfl⟩, F.kp⟩
  · obtain ⟨L, r, p, n, x, rfl, R, hx, kN, kS⟩ := h
    rfl
  · obtain ⟨L, r, p, n, x, rfl, R, hx, kN, kS⟩ := h
    refine ⟨_, (pss_cons (ps_if (PW.pt (pw_or (pt_cmpR op_ge (pv 2) (pe_callB call_len_seq (by rfl) T.b_len (by decide +kernel) (pa_cons (pe_fld (pv 0) rfl) pa_nil)) (nomark _)) (pw_or1 (pt_cmpR op_lt (pv 2) (pe_fld (pe_meth (pv 0) T.cl_Room T.me_Room_find_member G_Room_find_member (hr.mono (by decide)) B_Room_find_member .nil pass0 (pa_cons (pv 1) pa_nil)) rfl) (nomark _))))) (pss_one (ps_ret pe_non)) pss_nil)
      (pss_one (ps_ret (pe_ix ix_list (pe_fld (pv 0) rfl) (pv 2) (fun _ _ => rfl))))), ?_⟩
    refine ⟨_, rfl, _, rfl, _, A.Room, _, _, _, rfl, R.room, T.cl_Room, T.na_Room_messages, roomF_messages, _, _, rfl, .inl (SqL.of R.msgs), _, _, rfl, rfl, _, rfl, ?_⟩
    rw [List.length_map, List.length_range]
    by_cases c : r.messages.length ≤ n
    · refine if_true_of (decide_eq_true (by omega)) (if_true_of rfl (kN ?_))
      unfold Kcs8.sees
      rw [List.getElem?_eq_none_iff.mpr c]
      split <;> rfl
    · refine if_false_of (decide_eq_false (by omega)) ?_
      refine ⟨_, rfl, _, rfl, _, _, _, rfl, R.room, roomF_no (by decide +kernel) (by decide +kernel) (by decide +kernel) (by decide +kernel), _, rfl, L, r, p, rfl, R, fun e => (by rw [hx] at e; cases e), fun m e => ?_⟩
      rw [hx] at e
      cases e
      refine ⟨_, A.Member, _, _, _, rfl, R.mem hx, T.cl_Member, T.na_Member_first, memF_first, _, _, rfl, rfl, _, rfl, ?_⟩
      by_cases c2 : n < x.since
      · refine if_true_of (decide_eq_true (by omega)) (kN ?_)
        unfold Kcs8.sees
        rw [if_neg (by omega)]
      · refine if_false_of (decide_eq_false (by omega)) ?_
        have hlt : n < r.messages.length := by omega
        refine ⟨_, rfl, _, A.Room, _, _, _, rfl, R.room, T.cl_Room, T.na_Room_messages, roomF_messages, _, rfl, _, _, _, _, rfl, rfl, SqL.of R.msgs, at_of (j := n) (v := .ref (L.a (.msg n .msg))) rfl (by rw [List.getElem?_map, List.getElem?_range hlt]; rfl), ?_⟩
        refine kS r.messages[n] ?_
        unfold Kcs8.sees
        rw [if_pos (by omega), List.getElem?_eq_getElem hlt]
end TR
namespace TR
open PySem PySem.Spec PyProof.Rows L2

def sp_Room_standing_message (K : PySem.W.Frag) (A : Ad) : Sp := fun vs H Q _ => ∃ (L : RL) (r : Kcs8.Room) (p n : Nat) (x : Kcs8.Member), vs = [.ref (L.a .room), .int p, .int n] ∧ RoomOk A H L r ∧ Kcs8.memberOf r p = some x ∧
  ((∀ y, Kcs8.sees r x n = some y → y.gone = true) → Q .non H) ∧ (∀ y, Kcs8.sees r x n = some y → y.gone = false → Q (.ref (L.a (.msg n .msg))) H)
theorem ok_Room_standing_message {P : Program} {w : World} {K : PySem.W.Frag} {mg : Str → Option Value} {base : Heap} {A : Ad} (T : Txt K mg A) (O_Room_seen_message : Ok P w K mg base 2 A.Room_seen_message ["self", "p", "m"] (sp_Room_seen_message K A)) : Ok P w K mg base 3 A.Room_standing_message ["self", "p", "m"] (sp_Room_standing_message K A) := by
  obtain ⟨fd, F⟩ := T.d_Room_standing_message
  obtain ⟨fd_Room_seen_message, G_Room_seen_message, B_Room_seen_message⟩ := O_Room_seen_message.ex
  refine ⟨⟨fd, F.ok sc_Room_standing_message (fun vs H Q E h => ?_) (fun cdv Ar outer s H vs Q E hr h => ?_), F.binds fun _ _ _ _ _ _ us hl => match us, hl with | [_, _, _], _ => rfl⟩, F.kp⟩
  · obtain ⟨L, r, p, n, x, rfl, R, hx, kN, kS⟩ := h
    rfl
  · obtain ⟨L, r, p, n, x, rfl, R, hx, kN, kS⟩ := h
    refine ⟨_, (pss_cons (ps_set (i := 3) sc_Room_standing_message.nd rfl (by first | exact Or.inl rfl | exact Or.inr rfl) (pe_meth (pv 0) T.cl_Room T.me_Room_seen_message G_Room_seen_message (hr.mono (by decide)) B_Room_seen_message .nil pass0 (pa_cons (pv 1) (pa_cons (pv 2) pa_nil))))
      (pss_cons (ps_if (PW.pt (pw_or (pt_cmpR op_isN (pv 3) pe_non (nomark _)) (pw_or1 (pt_val (pe_fld (pv 3) rfl))))) (pss_one (ps_ret pe_non)) pss_nil)
      (pss_one (ps_ret (pv 3))))), ?_⟩
    refine ⟨_, rfl, _, _, _, rfl, R.room, noM (by decide +kernel), _, rfl, _, rfl, L, r, p, n, x, rfl, R, hx, fun e => ?_, fun y e => ?_⟩
    · exact ⟨_, rfl, rfl, _, rfl, if_true_of rfl (if_true_of rfl (kN fun y e' => by rw [e] at e'; cases e'))⟩
    · have hm := (sees_at e).1
      refine ⟨_, rfl, rfl, _, rfl, if_false_of rfl ⟨_, rfl, _, A.Message, _, _, _, rfl, (R.msg hm).msg, T.cl_Message, T.na_Message_gone, msgF_gone, _, rfl, ?_⟩⟩
      cases c : y.gone with
      | true => exact if_true_of rfl (kN fun y' e' => by rw [e] at e'; cases e'; exact c)
      | false => exact if_false_of rfl ⟨_, rfl, kS y e c⟩
end TR
namespace TR
open PySem PySem.Spec PyProof.Rows L2

def sp_House_init (K : PySem.W.Frag) (A : Ad) : Sp := fun vs H Q _ => ∃ (x dx : Addr), vs = [.ref x] ∧ H x = some (.ins A.House dx []) ∧
  ∀ H' L, L.a .house = x → HouseOk A H' L m0 → (∀ z o, H z = some o → z ≠ x → H' z = some o ∧ ¬ Own L.a (houseC A L m0) z) → Q .non H'
theorem ok_House_init {P : Program} {w : World} {K : PySem.W.Frag} {mg : Str → Option Value} {base : Heap} {A : Ad} (T : Txt K mg A) (O_House_begin : Ok P w K mg base 1 A.House_begin ["self"] (sp_House_begin K A)) : Ok P w K mg base 2 A.House_init ["self"] (sp_House_init K A) := by
  obtain ⟨fd, F⟩ := T.d_House_init
  obtain ⟨fd_House_begin, G_House_begin, B_House_begin⟩ := O_House_begin.ex
  refine ⟨⟨fd, F.ok sc_House_init (fun vs H Q E h => ?_) (fun cdv Ar outer s H vs Q E hr h => ?_), F.binds fun _ _ _ _ _ _ us hl => match us, hl with | [_], _ => rfl⟩, F.kp⟩
  · obtain ⟨x, dx, rfl, hx, kk⟩ := h
    rfl
  · obtain ⟨x, dx, rfl, hx, kk⟩ := h
    refine ⟨_, (pss_cons (ps_fld (pv 0) (pe_lst pa_nil) rfl)
      (pss_one (ps_expr (pe_meth0 (pv 0) T.cl_House T.me_House_begin G_House_begin (hr.mono (by decide)) B_House_begin .nil pass0)))), ?_⟩
    refine ⟨Nat.zero_le _, fun a na => ⟨_, rfl, x, A.House, dx, _, rfl, (upd_ne (ne_of_none hx na)).trans hx, T.cl_House, T.na_House_founded, (by show 0 < 1000; decide), ?_⟩⟩
    refine ⟨_, rfl, x, dx, _, rfl, upd_same, houseF_no (a := a) (by decide +kernel), x, dx, a, rfl, upd_same, fun H' L e R h => kk H' L e R fun z o hz nz => h z o ?_ nz⟩
    rw [upd_ne nz, upd_ne (ne_of_none hz na)]
    exact hz
end TR
namespace TR
open PySem PySem.Spec PyProof.Rows L2
theorem rmAt_some {m : M} {f k : Nat} {row : List Kcs8.Room} (h : m[f]? = some row) : rmAt m f k = row[k]? := by
  unfold rmAt
  rw [h]
  rfl
def sp_House_find_room (K : PySem.W.Frag) (A : Ad) : Sp := fun vs H Q _ => ∃ (L : HL) (m : M) (f k : Nat), vs = [.ref (L.a .house), .int f, .int k] ∧ HouseOk A H L m ∧
  (rmAt m f k = none → Q .non H) ∧ (∀ r, rmAt m f k = some r → Q (.ref (L.a (.rm f k .room))) H)
theorem ok_House_find_room {P : Program} {w : World} {K : PySem.W.Frag} {mg : Str → Option Value} {base : Heap} {A : Ad} (T : Txt K mg A)  : Ok P w K mg base 1 A.House_find_room ["self", "founder", "number"] (sp_House_find_room K A) := by
  obtain ⟨fd, F⟩ := T.d_House_find_room
  refine ⟨⟨fd, F.ok sc_House_find_room (fun vs H Q E h => ?_) (fun cdv Ar outer s H vs Q E hr h => ?_), F.binds fun _ _ _ _ _ _ us hl => match us, hl with | [_, _, _], _ => rfl⟩, F.kp⟩
  · obtain ⟨L, m, f, k, rfl, R, kN, kS⟩ := h
    rfl
  · obtain ⟨L, m, f, k, rfl, R, kN, kS⟩ := h
    refine ⟨_, (pss_cons (ps_if (PW.pt (pw_or (pt_cmpR op_ge (pv 1) (pe_glob (v := .int (16)) (by rfl) T.g_PEOPLE ⟨_, rfl⟩) (nomark _)) (pw_or1 (pt_cmpR op_ge (pv 2) (pe_callB call_len_seq (by rfl) T.b_len (by decide +kernel) (pa_cons (pe_ix ix_list (pe_fld (pv 0) rfl) (pv 1) (fun _ _ => rfl)) pa_nil)) (nomark _))))) (pss_one (ps_ret pe_non)) pss_nil)
      (pss_one (ps_ret (pe_ix ix_list (pe_ix ix_list (pe_fld (pv 0) rfl) (pv 1) (fun _ _ => rfl)) (pv 2) (fun _ _ => rfl))))), ?_⟩
    refine ⟨_, rfl, _, _, rfl, rfl, _, rfl, ?_⟩
    have hlen := R.wf.wf.len
    by_cases c : 16 ≤ f
    · refine if_true_of (decide_eq_true (by omega)) (if_true_of rfl (kN ?_))
      unfold rmAt
      rw [List.getElem?_eq_none_iff.mpr (by omega)]
      rfl
    · refine if_false_of (decide_eq_false (by omega)) ?_
      obtain ⟨row, hrow⟩ : ∃ row, m[f]? = some row := ⟨_, List.getElem?_eq_getElem (by omega)⟩
      have e := rmAt_some (k := k) hrow
      have hat : atI ((List.range m.length).map fun f => V.ref (L.a (.row f))) (f : Int) = some (.ref (L.a (.row f))) := at_of (j := f) rfl (by rw [List.getElem?_map, List.getElem?_range (show f < m.length by omega)]; rfl)
      refine ⟨_, rfl, _, rfl, _, A.House, _, _, _, rfl, R.house, T.cl_House, T.na_House_founded, houseF_founded, _, rfl, _, _, _, _, rfl, rfl, SqL.of R.founded, hat, _, _, rfl, .inl (SqL.of (R.row hrow)), _, _, rfl, rfl, _, rfl, ?_⟩
      rw [List.length_map, List.length_range]
      by_cases c2 : row.length ≤ k
      · refine if_true_of (decide_eq_true (by omega)) (kN ?_)
        rw [e]
        exact List.getElem?_eq_none_iff.mpr c2
      · refine if_false_of (decide_eq_false (by omega)) ?_
        refine ⟨_, rfl, _, A.House, _, _, _, rfl, R.house, T.cl_House, T.na_House_founded, houseF_founded, _, rfl, _, _, _, _, rfl, rfl, SqL.of R.founded, hat, _, rfl, _, _, _, _, rfl, rfl, SqL.of (R.row hrow), at_of (j := k) rfl (by rw [List.getElem?_map, List.getElem?_range (show k < row.length by omega)]; rfl), ?_⟩
        exact kS _ (e.trans (List.getElem?_eq_getElem (by omega)))
end TR
namespace TR
open PySem PySem.Spec PyProof.Rows L2
theorem enter_first {p n : Nat} {b : Bool} : enterR (room0 p n b) p = ⟨p, n, b, [⟨p, true, 0, 0⟩], [], []⟩ := by cases b <;> rfl
def sp_found (K : PySem.W.Frag) (A : Ad) : Sp := fun vs H Q _ => ∃ (L : HL) (m : M) (p : Nat) (b : Bool) (row : List Kcs8.Room), vs = [.ref (L.a .house), .int p, .int (b2i' b)] ∧ HouseOk A H L m ∧ m[p]? = some row ∧
  (4 ≤ row.length → Q (.int (-28)) H) ∧ (row.length < 4 → ∀ H' L', HouseGoes A H L m H' L' (addRm m p ⟨p, row.length, b, [⟨p, true, 0, 0⟩], [], []⟩) → Q (.int row.length) H')
theorem ok_found {P : Program} {w : World} {K : PySem.W.Frag} {mg : Str → Option Value} {base : Heap} {A : Ad} (T : Txt K mg A) (O_Room_enter : Ok P w K mg base 3 A.Room_enter ["self", "p"] (sp_Room_enter K A)) (O_Room_init : Ok P w K mg base 1 A.Room_init ["self", "past"] (sp_Room_init K A)) : Ok P w K mg base 4 A.found ["house", "p", "past"] (sp_found K A) := by
  obtain ⟨fd, F⟩ := T.d_found
  obtain ⟨fd_Room_enter, G_Room_enter, B_Room_enter⟩ := O_Room_enter.ex
  obtain ⟨fd_Room_init, G_Room_init, B_Room_init⟩ := O_Room_init.ex
  refine ⟨⟨fd, F.ok sc_found (fun vs H Q E h => ?_) (fun cdv Ar outer s H vs Q E hr h => ?_), F.binds fun _ _ _ _ _ _ us hl => match us, hl with | [_, _, _], _ => rfl⟩, F.kp⟩
  · obtain ⟨L, m, p, b, row, rfl, R, hrow, kN, kS⟩ := h
    rfl
  · obtain ⟨L, m, p, b, row, rfl, R, hrow, kN, kS⟩ := h
    refine ⟨_, (pss_cons (ps_set (i := 3) sc_found.nd rfl (by first | exact Or.inl rfl | exact Or.inr rfl) (pe_ix ix_list (pe_fld (pv 0) rfl) (pv 1) (fun _ _ => rfl)))
      (pss_cons (ps_if (pt_cmpR op_ge (pe_callB call_len_seq (by rfl) T.b_len (by decide +kernel) (pa_cons (pv 3) pa_nil)) (pe_glob (v := .int (4)) (by rfl) T.g_ROOMS_OF_ONE_FOUNDER ⟨_, rfl⟩) (nomark _)) (pss_one (ps_ret (pe_glob (v := .int (-28)) (by rfl) T.g_FULL ⟨_, rfl⟩))) pss_nil)
      (pss_cons (ps_set (i := 4) sc_found.nd rfl (by first | exact Or.inl rfl | exact Or.inr rfl) (pe_make T.mk_Room G_Room_init (hr.mono (by decide)) (by rfl) T.g_Room B_Room_init .nil pass0 (pa_cons (pv 2) pa_nil)))
      (pss_cons (ps_expr (pe_meth (pv 4) T.cl_Room T.me_Room_enter G_Room_enter (hr.mono (by decide)) B_Room_enter .nil pass0 (pa_cons (pv 1) pa_nil)))
      (pss_cons (ps_expr (pe_bm PySem.F.plainAttrs_list PySem.F.slot_list_append PySem.F.type_list_append mt_append (pv 3) (pa_cons (pv 4) pa_nil)))
      (pss_one (ps_ret (pe_op op_sub (pe_callB call_len_seq (by rfl) T.b_len (by decide +kernel) (pa_cons (pv 3) pa_nil)) pe_int)))))))), ?_⟩
    have hp : p < m.length := (List.getElem?_eq_some_iff.mp hrow).1
    have hat : atI ((List.range m.length).map fun f => V.ref (L.a (.row f))) (p : Int) = some (.ref (L.a (.row p))) := at_of (j := p) rfl (by rw [List.getElem?_map, List.getElem?_range hp]; rfl)
    refine ⟨_, rfl, _, A.House, _, _, _, rfl, R.house, T.cl_House, T.na_House_founded, houseF_founded, _, rfl, _, _, _, _, rfl, rfl, SqL.of R.founded, hat, ?_⟩
    refine ⟨_, rfl, _, _, rfl, .inl (SqL.of (R.row hrow)), _, _, rfl, rfl, _, rfl, ?_⟩
    rw [List.length_map, List.length_range]
    by_cases c : 4 ≤ row.length
    · exact if_true_of (decide_eq_true (by omega)) (kN c)
    refine if_false_of (decide_eq_false (by omega)) ?_
    refine ⟨_, rfl, fun x dx nx nd ne => ⟨x, dx, p, row.length, b, rfl, upd_same, fun H1 N eN RN fr => ⟨rfl, ?_⟩⟩⟩
    subst eN
    refine ⟨_, rfl, _, _, _, rfl, RN.room, noM (by decide +kernel), _, rfl, N, _, p, rfl, RN, rfl, (by show 0 + 0 < 12; decide), fun H2 N2 G2 => ?_⟩
    rw [enter_first] at G2
    have S : ∀ b o, H b = some o → H2 b = some o ∧ ¬ Own N2.a (roomC A N2 ⟨p, row.length, _, [⟨p, true, 0, 0⟩], [], []⟩) b := fun z o hz => by
      have h1 := fr z o (by rw [upd_ne (ne_of_none hz nx), upd_ne (ne_of_none hz nd)]; exact hz) (ne_of_none hz nx)
      exact G2.frm.out h1.1 h1.2
    have hr2 := (S _ _ (R.row hrow)).1
    refine ⟨_, rfl, .inl ⟨rfl, _, SqL.of hr2⟩, _, rfl, _, _, _, rfl, rfl, hr2, ?_, ?_⟩
    · rw [List.length_map, List.length_range]
      exact small1000 (by omega)
    refine ⟨_, rfl, _, _, rfl, .inl (SqL.of upd_same), _, _, rfl, rfl, ?_⟩
    have e : ((((List.range row.length).map fun k => V.ref (L.a (.rm p k .room))) ++ [V.ref (N.a .room)]).length : Int) - 1 = (row.length : Int) := by
      rw [List.length_append, List.length_map, List.length_range, List.length_singleton]
      omega
    show Q (V.int (((((List.range row.length).map fun k => V.ref (L.a (.rm p k .room))) ++ [V.ref (N.a .room)]).length : Int) - 1)) _
    rw [e]
    have G := R.add hrow (by omega) G2.ok S rfl rfl
    rw [G2.here] at G
    exact kS (by omega) _ _ G
end TR
namespace TR
open PySem PySem.Spec PyProof.Rows L2

def sp_invite (K : PySem.W.Frag) (A : Ad) : Sp := fun vs H Q _ => ∃ (L : RL) (r : Kcs8.Room) (p q : Nat) (x : Kcs8.Member), vs = [.ref (L.a .room), .int p, .int q] ∧ RoomOk A H L r ∧ Kcs8.memberOf r p = some x ∧
  ∀ H' L', RoomGoes A H L r H' L' (inviteR r x q).1 → Q (.int (inviteR r x q).2) H'
theorem ok_invite {P : Program} {w : World} {K : PySem.W.Frag} {mg : Str → Option Value} {base : Heap} {A : Ad} (T : Txt K mg A) (O_Room_has_or_awaits : Ok P w K mg base 2 A.Room_has_or_awaits ["self", "p"] (sp_Room_has_or_awaits K A)) (O_Room_is_keeper : Ok P w K mg base 2 A.Room_is_keeper ["self", "p"] (sp_Room_is_keeper K A)) : Ok P w K mg base 3 A.invite ["room", "p", "q"] (sp_invite K A) := by
  obtain ⟨fd, F⟩ := T.d_invite
  obtain ⟨fd_Room_has_or_awaits, G_Room_has_or_awaits, B_Room_has_or_awaits⟩ := O_Room_has_or_awaits.ex
  obtain ⟨fd_Room_is_keeper, G_Room_is_keeper, B_Room_is_keeper⟩ := O_Room_is_keeper.ex
  refine ⟨⟨fd, F.ok sc_invite (fun vs H Q E h => ?_) (fun cdv Ar outer s H vs Q E hr h => ?_), F.binds fun _ _ _ _ _ _ us hl => match us, hl with | [_, _, _], _ => rfl⟩, F.kp⟩
  · obtain ⟨L, r, p, q, x, rfl, R, hx, k⟩ := h
    rfl
  · obtain ⟨L, r, p, q, x, rfl, R, hx, k⟩ := h
    refine ⟨_, (pss_cons (ps_if (pt_not (pt_val (pe_meth (pv 0) T.cl_Room T.me_Room_is_keeper G_Room_is_keeper (hr.mono (by decide)) B_Room_is_keeper .nil pass0 (pa_cons (pv 1) pa_nil)))) (pss_one (ps_ret (pe_glob (v := .int (-1)) (by rfl) T.g_NOT_ALLOWED ⟨_, rfl⟩))) pss_nil)
      (pss_cons (ps_if (pt_val (pe_meth (pv 0) T.cl_Room T.me_Room_has_or_awaits G_Room_has_or_awaits (hr.mono (by decide)) B_Room_has_or_awaits .nil pass0 (pa_cons (pv 2) pa_nil))) (pss_one (ps_ret (pe_glob (v := .int (-17)) (by rfl) T.g_ALREADY_SO ⟨_, rfl⟩))) pss_nil)
      (pss_cons (ps_if (pt_cmpR op_ge (pe_op op_add (pe_callB call_len_seq (by rfl) T.b_len (by decide +kernel) (pa_cons (pe_fld (pv 0) rfl) pa_nil)) (pe_callB call_len_seq (by rfl) T.b_len (by decide +kernel) (pa_cons (pe_fld (pv 0) rfl) pa_nil))) (pe_glob (v := .int (12)) (by rfl) T.g_PLACES ⟨_, rfl⟩) (nomark _)) (pss_one (ps_ret (pe_glob (v := .int (-28)) (by rfl) T.g_FULL ⟨_, rfl⟩))) pss_nil)
      (pss_cons (ps_expr (pe_bm PySem.F.plainAttrs_list PySem.F.slot_list_append PySem.F.type_list_append mt_append (pe_fld (pv 0) rfl) (pa_cons (pv 2) pa_nil)))
      (pss_one (ps_ret pe_int)))))), ?_⟩
    refine ⟨_, rfl, _, _, _, rfl, R.room, noM (by decide +kernel), _, rfl, L, r, p, rfl, R, _, rfl, ?_⟩
    rw [keeps_eq hx]
    unfold inviteR at k
    cases hk : x.keeper with
    | false =>
      rw [if_pos hk] at k
      exact if_true_of rfl (k H L (.refl R))
    | true =>
      rw [if_neg (by rw [hk]; exact Bool.noConfusion)] at k
      refine if_false_of rfl ?_
      refine ⟨_, rfl, _, _, _, rfl, R.room, noM (by decide +kernel), _, rfl, L, r, q, rfl, R, _, rfl, ?_⟩
      by_cases c : Kcs8.isIn r q = true ∨ r.invited.contains q = true
      · rw [if_pos c] at k
        refine if_true_of ?_ (k H L (.refl R))
        rcases c with c | c
        · rw [c, Bool.or_true]
        · rw [c, Bool.true_or]
      · rw [if_neg c] at k
        have c1 : Kcs8.isIn r q = false := Bool.eq_false_iff.mpr fun z => c (.inl z)
        have c2 : r.invited.contains q = false := Bool.eq_false_iff.mpr fun z => c (.inr z)
        refine if_false_of (by rw [c1, c2]; rfl) ?_
        refine ⟨_, rfl, _, A.Room, _, _, _, rfl, R.room, T.cl_Room, T.na_Room_members, roomF_members, _, _, rfl, .inl (SqL.of R.mems), _, rfl, _, A.Room, _, _, _, rfl, R.room, T.cl_Room, T.na_Room_invited, roomF_invited, _, _, rfl, .inl (SqL.of R.invs), _, _, rfl, rfl, _, _, rfl, rfl, _, rfl, ?_⟩
        rw [List.length_map, List.length_map]
        by_cases c3 : 12 ≤ r.members.length + r.invited.length
        · rw [if_pos c3] at k
          exact if_true_of (decide_eq_true (by omega)) (k H L (.refl R))
        · rw [if_neg c3] at k
          refine if_false_of (decide_eq_false (by omega)) ?_
          refine ⟨_, rfl, _, A.Room, _, _, _, rfl, R.room, T.cl_Room, T.na_Room_invited, roomF_invited, .inl ⟨rfl, _, SqL.of R.invs⟩, _, rfl, _, _, _, rfl, rfl, R.invs, ?_, ?_⟩
          · rw [List.length_map]
            exact small1000 (by omega)
          · exact k _ L (R.addInvited c1 (by omega))
end TR
namespace TR
open PySem PySem.Spec PyProof.Rows L2

def sp_join (K : PySem.W.Frag) (A : Ad) : Sp := fun vs H Q _ => ∃ (L : RL) (r : Kcs8.Room) (p : Nat), vs = [.ref (L.a .room), .int p] ∧ RoomOk A H L r ∧
  (r.invited.contains p = false → Q (.int (-2)) H) ∧ (r.invited.contains p = true → ∀ H' L', RoomGoes A H L r H' L' (enterR r p) → Q (.int 0) H')
theorem ok_join {P : Program} {w : World} {K : PySem.W.Frag} {mg : Str → Option Value} {base : Heap} {A : Ad} (T : Txt K mg A) (O_Room_enter : Ok P w K mg base 3 A.Room_enter ["self", "p"] (sp_Room_enter K A)) (O_Room_is_invited : Ok P w K mg base 1 A.Room_is_invited ["self", "p"] (sp_Room_is_invited K A)) : Ok P w K mg base 4 A.join ["room", "p"] (sp_join K A) := by
  obtain ⟨fd, F⟩ := T.d_join
  obtain ⟨fd_Room_enter, G_Room_enter, B_Room_enter⟩ := O_Room_enter.ex
  obtain ⟨fd_Room_is_invited, G_Room_is_invited, B_Room_is_invited⟩ := O_Room_is_invited.ex
  refine ⟨⟨fd, F.ok sc_join (fun vs H Q E h => ?_) (fun cdv Ar outer s H vs Q E hr h => ?_), F.binds fun _ _ _ _ _ _ us hl => match us, hl with | [_, _], _ => rfl⟩, F.kp⟩
  · obtain ⟨L, r, p, rfl, R, kN, kS⟩ := h
    rfl
  · obtain ⟨L, r, p, rfl, R, kN, kS⟩ := h
    refine ⟨_, (pss_cons (ps_if (pt_not (pt_val (pe_meth (pv 0) T.cl_Room T.me_Room_is_invited G_Room_is_invited (hr.mono (by decide)) B_Room_is_invited .nil pass0 (pa_cons (pv 1) pa_nil)))) (pss_one (ps_ret (pe_glob (v := .int (-2)) (by rfl) T.g_UNKNOWN_ROOM ⟨_, rfl⟩))) pss_nil)
      (pss_cons (ps_expr (pe_meth (pv 0) T.cl_Room T.me_Room_enter G_Room_enter (hr.mono (by decide)) B_Room_enter .nil pass0 (pa_cons (pv 1) pa_nil)))
      (pss_one (ps_ret pe_int)))), ?_⟩
    refine ⟨_, rfl, _, _, _, rfl, R.room, noM (by decide +kernel), _, rfl, L, r, p, rfl, R, _, rfl, ?_⟩
    cases c : r.invited.contains p with
    | false => exact if_true_of rfl (kN c)
    | true =>
      refine if_false_of rfl ?_
      have h1 := length_filter_lt c
      have h2 := R.wf.few
      exact ⟨_, rfl, _, _, _, rfl, R.room, noM (by decide +kernel), _, rfl, L, r, p, rfl, R, isIn_none.mp (R.wf.apart p c), by omega, fun H' L' G => kS c H' L' G⟩
end TR
namespace TR
open PySem PySem.Spec PyProof.Rows L2
theorem uninvited {r : Kcs8.Room} (W : WfR r) {p : Nat} {x : Kcs8.Member} (h : Kcs8.memberOf r p = some x) : r.invited.filter (· != p) = r.invited := List.filter_eq_self.mpr fun q hq => by
  have hc : r.invited.contains q = true := by simpa using hq
  have := isIn_none.mp (W.apart q hc)
  by_cases c : q = p
  · rw [c, h] at this
    cases this
  · simp [c]
theorem kept_any {l : List Kcs8.Member} (h : (l.map (·.keeper)).any id = true) : Kcs8.kept l = l := by
  unfold Kcs8.kept
  rw [List.any_map] at h
  exact if_pos h
theorem kept_cons {m : Kcs8.Member} {l : List Kcs8.Member} (nd : ((m :: l).map (·.who)).Nodup) (h : ((m :: l).map (·.keeper)).any id = false) : Kcs8.kept (m :: l) = (m :: l).map (fun y => if y.who = m.who then { y with keeper := true } else y) := by
  rw [set_head nd fun y => { y with keeper := true }]
  unfold Kcs8.kept
  rw [List.any_map] at h
  rw [if_neg (by rw [show ((m :: l).any fun m => m.keeper) = false from h]; exact Bool.noConfusion)]
def sp_leave (K : PySem.W.Frag) (A : Ad) : Sp := fun vs H Q _ => ∃ (L : RL) (r : Kcs8.Room) (p : Nat) (x : Kcs8.Member), vs = [.ref (L.a .room), .int p] ∧ RoomOk A H L r ∧ Kcs8.memberOf r p = some x ∧
  ∀ H' L', RoomGoes A H L r H' L' (leaveR r p) → Q (.int 0) H'
theorem ok_leave {P : Program} {w : World} {K : PySem.W.Frag} {mg : Str → Option Value} {base : Heap} {A : Ad} (T : Txt K mg A) (O_Room_forget : Ok P w K mg base 1 A.Room_forget ["self", "p"] (sp_Room_forget K A)) : Ok P w K mg base 2 A.leave ["room", "p"] (sp_leave K A) := by
  obtain ⟨fd, F⟩ := T.d_leave
  obtain ⟨fd_Room_forget, G_Room_forget, B_Room_forget⟩ := O_Room_forget.ex
  refine ⟨⟨fd, F.ok sc_leave (fun vs H Q E h => ?_) (fun cdv Ar outer s H vs Q E hr h => ?_), F.binds fun _ _ _ _ _ _ us hl => match us, hl with | [_, _], _ => rfl⟩, F.kp⟩
  · obtain ⟨L, r, p, x, rfl, R, hx, k⟩ := h
    rfl
  · obtain ⟨L, r, p, x, rfl, R, hx, k⟩ := h
    refine ⟨_, (pss_cons (ps_expr (pe_meth (pv 0) T.cl_Room T.me_Room_forget G_Room_forget (hr.mono (by decide)) B_Room_forget .nil pass0 (pa_cons (pv 1) pa_nil)))
      (pss_cons (ps_if (PW.pt (pw_and (pt_cmpR op_gt (pe_callB call_len_seq (by rfl) T.b_len (by decide +kernel) (pa_cons (pe_fld (pv 0) rfl) pa_nil)) pe_int (nomark _)) (pw_and1 (pt_not (pt_val (pe_callB (cr_any rfl) (by rfl) T.b_any (by decide +kernel) (pa_cons (pe_lc (own := [("member", 3)]) (g := gName 3) (tt := tYes) (te := (tFld K (tVar 3) "keeper")) rfl sc_leave.nd (pi_list (pe_fld (pv 0) rfl)) (blkOk_by (N := N_leave) (sc := defScope s_leave) (by decide +kernel)) (fun _ _ _ _ _ => pg_name (i := 3) sc_leave.nd rfl (Or.inl rfl)) (fun _ _ _ _ _ => by exact pts_nil) (fun _ _ _ _ _ => by exact (pe_fld (pv 3) rfl))) pa_nil))))))) (pss_cons (ps_set (i := 2) sc_leave.nd rfl (by first | exact Or.inl rfl | exact Or.inr rfl) (pe_ix ix_list (pe_fld (pv 0) rfl) pe_int (fun _ _ => rfl)))
      (pss_one (ps_fld (pv 2) pe_bl rfl))) pss_nil)
      (pss_one (ps_ret pe_int)))), ?_⟩
    refine ⟨_, rfl, _, _, _, rfl, R.room, noM (by decide +kernel), _, rfl, L, r, p, rfl, R, fun H1 L1 G1 => ?_⟩
    rw [uninvited R.wf hx] at G1
    have R1 := G1.ok
    have few := R1.wf.few
    unfold leaveR at k
    generalize Kcs8.without r.members p = ms at G1 R1 k few
    refine ⟨_, rfl, _, A.Room, _, _, _, rfl, G1.room, T.cl_Room, T.na_Room_members, roomF_members, _, _, rfl, .inl (SqL.of R1.mems), _, _, rfl, rfl, _, rfl, ?_⟩
    rw [List.length_map]
    cases ms with
    | nil => exact if_false_of (decide_eq_false (by show ¬ (0 : Int) < 0; omega)) (if_false_of rfl (k _ _ G1))
    | cons m l =>
      refine if_true_of (decide_eq_true (by rw [List.length_cons]; omega)) ?_
      refine ⟨_, rfl, _, A.Room, _, _, _, rfl, G1.room, T.cl_Room, T.na_Room_members, roomF_members, _, rfl, ⟨_, SqL.of R1.mems⟩, fun D nD => lc_list (K := K) (a := L1.a .mems) (xs := (m :: l).map fun m => .ref (L1.a (.mem m.who)))
        (fun i H' => Same H1 H' ∧ H' D = some (.lst ((((m :: l).take i).map (·.keeper)).map V.bl))) ⟨Same.upd_new nD, upd_same⟩ (fun i H' _ ⟨S, _⟩ => SqL.of (S _ _ R1.mems)) ?_ ?_⟩
      · rintro i y H' hi ⟨S, hD⟩
        obtain ⟨z, hz, rfl⟩ := map_at hi
        have hw := R1.wf.mem (List.mem_of_getElem? hz)
        refine ⟨rfl, yes_of ⟨_, rfl, _, A.Member, _, _, _, rfl, S _ _ (R1.mem hw), T.cl_Member, T.na_Member_keeper, memF_keeper, _, hD, ?_, ?_, ?_⟩⟩
        · rw [List.length_map, List.length_map, List.length_take]
          have : (m :: l).length + r.invited.length ≤ 12 := few
          exact small1000 (by omega)
        · exact fun b o e => by rw [upd_ne (ne_of_none e nD)]; exact S b o e
        · rw [upd_same, List.take_add_one, hz, List.map_append, List.map_append]
          rfl
      · rintro H2 ⟨S, hD⟩
        rw [List.length_map, List.take_length] at hD
        refine ⟨D, _, rfl, SqL.of hD, _, rfl, ?_⟩
        have G2 := G1.same S
        have R2 := G2.ok
        cases c : (((m :: l).map (·.keeper)).any id) with
        | true =>
          rw [kept_any c] at k
          exact if_false_of rfl (k _ _ G2)
        | false =>
          rw [kept_cons R1.wf.nd c] at k
          refine if_true_of rfl ?_
          have hm : Kcs8.memberOf { r with members := m :: l, invited := r.invited } m.who = some m := R1.wf.mem List.mem_cons_self
          refine ⟨_, rfl, _, A.Room, _, _, _, rfl, G2.room, T.cl_Room, T.na_Room_members, roomF_members, _, _, _, _, rfl, rfl, SqL.of R2.mems, at_of (j := 0) rfl rfl, ?_⟩
          refine ⟨_, rfl, _, A.Member, _, _, rfl, R2.mem hm, T.cl_Member, T.na_Member_keeper, (by show 4 < 1000; decide), ?_⟩
          rw [memF_put_keeper]
          exact k _ _ (G2.trans (R2.setMember hm (fun z => { z with keeper := true }) (fun _ => rfl) (R2.wf.sr m (memberOf_who hm).1)))
end TR
namespace TR
open PySem PySem.Spec PyProof.Rows L2

def sp_put_out (K : PySem.W.Frag) (A : Ad) : Sp := fun vs H Q _ => ∃ (L : RL) (r : Kcs8.Room) (p q : Nat) (x : Kcs8.Member), vs = [.ref (L.a .room), .int p, .int q] ∧ RoomOk A H L r ∧ Kcs8.memberOf r p = some x ∧
  ∀ H' L', RoomGoes A H L r H' L' (outR r x p q).1 → Q (.int (outR r x p q).2) H'
theorem ok_put_out {P : Program} {w : World} {K : PySem.W.Frag} {mg : Str → Option Value} {base : Heap} {A : Ad} (T : Txt K mg A) (O_Room_forget : Ok P w K mg base 1 A.Room_forget ["self", "p"] (sp_Room_forget K A)) (O_Room_has_or_awaits : Ok P w K mg base 2 A.Room_has_or_awaits ["self", "p"] (sp_Room_has_or_awaits K A)) (O_Room_is_keeper : Ok P w K mg base 2 A.Room_is_keeper ["self", "p"] (sp_Room_is_keeper K A)) : Ok P w K mg base 3 A.put_out ["room", "p", "q"] (sp_put_out K A) := by
  obtain ⟨fd, F⟩ := T.d_put_out
  obtain ⟨fd_Room_forget, G_Room_forget, B_Room_forget⟩ := O_Room_forget.ex
  obtain ⟨fd_Room_has_or_awaits, G_Room_has_or_awaits, B_Room_has_or_awaits⟩ := O_Room_has_or_awaits.ex
  obtain ⟨fd_Room_is_keeper, G_Room_is_keeper, B_Room_is_keeper⟩ := O_Room_is_keeper.ex
  refine ⟨⟨fd, F.ok sc_put_out (fun vs H Q E h => ?_) (fun cdv Ar outer s H vs Q E hr h => ?_), F.binds fun _ _ _ _ _ _ us hl => match us, hl with | [_, _, _], _ => rfl⟩, F.kp⟩
  · obtain ⟨L, r, p, q, x, rfl, R, hx, k⟩ := h
    rfl
  · obtain ⟨L, r, p, q, x, rfl, R, hx, k⟩ := h
    refine ⟨_, (pss_cons (ps_if (pt_not (pt_val (pe_meth (pv 0) T.cl_Room T.me_Room_is_keeper G_Room_is_keeper (hr.mono (by decide)) B_Room_is_keeper .nil pass0 (pa_cons (pv 1) pa_nil)))) (pss_one (ps_ret (pe_glob (v := .int (-1)) (by rfl) T.g_NOT_ALLOWED ⟨_, rfl⟩))) pss_nil)
      (pss_cons (ps_if (PW.pt (pw_or (pt_cmpR op_eq (pv 2) (pv 1) (nomark _)) (pw_or1 (pt_not (pt_val (pe_meth (pv 0) T.cl_Room T.me_Room_has_or_awaits G_Room_has_or_awaits (hr.mono (by decide)) B_Room_has_or_awaits .nil pass0 (pa_cons (pv 2) pa_nil))))))) (pss_one (ps_ret (pe_glob (v := .int (-61)) (by rfl) T.g_NOT_THERE ⟨_, rfl⟩))) pss_nil)
      (pss_cons (ps_expr (pe_meth (pv 0) T.cl_Room T.me_Room_forget G_Room_forget (hr.mono (by decide)) B_Room_forget .nil pass0 (pa_cons (pv 2) pa_nil)))
      (pss_one (ps_ret pe_int))))), ?_⟩
    refine ⟨_, rfl, _, _, _, rfl, R.room, noM (by decide +kernel), _, rfl, L, r, p, rfl, R, _, rfl, ?_⟩
    rw [keeps_eq hx]
    unfold outR at k
    cases hk : x.keeper with
    | false =>
      rw [if_pos hk] at k
      exact if_true_of rfl (k H L (.refl R))
    | true =>
      rw [if_neg (by rw [hk]; exact Bool.noConfusion)] at k
      refine if_false_of rfl ?_
      refine ⟨_, rfl, _, rfl, rfl, _, rfl, ?_⟩
      by_cases c : q = p
      · rw [if_pos (.inl c)] at k
        exact if_true_of (by rw [c]; exact decide_eq_true rfl) (if_true_of rfl (k H L (.refl R)))
      · refine if_false_of (dec_nat_false c) ?_
        refine ⟨_, rfl, _, _, _, rfl, R.room, noM (by decide +kernel), _, rfl, L, r, q, rfl, R, _, rfl, ?_⟩
        cases c2 : (r.invited.contains q || Kcs8.isIn r q) with
        | false =>
          rw [Bool.or_eq_false_iff] at c2
          rw [if_pos (.inr ⟨c2.2, c2.1⟩)] at k
          exact if_true_of rfl (k H L (.refl R))
        | true =>
          rw [if_neg (fun z => by
            rcases z with z | z
            · exact c z
            · rw [z.1, z.2] at c2
              cases c2)] at k
          refine if_false_of rfl ?_
          exact ⟨_, rfl, _, _, _, rfl, R.room, noM (by decide +kernel), _, rfl, L, r, q, rfl, R, fun H' L' G => k H' L' G⟩
end TR
namespace TR
open PySem PySem.Spec PyProof.Rows L2

def sp_lift (K : PySem.W.Frag) (A : Ad) : Sp := fun vs H Q _ => ∃ (L : RL) (r : Kcs8.Room) (p q : Nat) (x : Kcs8.Member), vs = [.ref (L.a .room), .int p, .int q] ∧ RoomOk A H L r ∧ Kcs8.memberOf r p = some x ∧
  ∀ H' L', RoomGoes A H L r H' L' (liftR r x q).1 → Q (.int (liftR r x q).2) H'
theorem ok_lift {P : Program} {w : World} {K : PySem.W.Frag} {mg : Str → Option Value} {base : Heap} {A : Ad} (T : Txt K mg A) (O_Room_find_member : Ok P w K mg base 1 A.Room_find_member ["self", "p"] (sp_Room_find_member K A)) (O_Room_is_keeper : Ok P w K mg base 2 A.Room_is_keeper ["self", "p"] (sp_Room_is_keeper K A)) : Ok P w K mg base 3 A.lift ["room", "p", "q"] (sp_lift K A) := by
  obtain ⟨fd, F⟩ := T.d_lift
  obtain ⟨fd_Room_find_member, G_Room_find_member, B_Room_find_member⟩ := O_Room_find_member.ex
  obtain ⟨fd_Room_is_keeper, G_Room_is_keeper, B_Room_is_keeper⟩ := O_Room_is_keeper.ex
  refine ⟨⟨fd, F.ok sc_lift (fun vs H Q E h => ?_) (fun cdv Ar outer s H vs Q E hr h => ?_), F.binds fun _ _ _ _ _ _ us hl => match us, hl with | [_, _, _], _ => rfl⟩, F.kp⟩
  · obtain ⟨L, r, p, q, x, rfl, R, hx, k⟩ := h
    rfl
  · obtain ⟨L, r, p, q, x, rfl, R, hx, k⟩ := h
    refine ⟨_, (pss_cons (ps_if (pt_not (pt_val (pe_meth (pv 0) T.cl_Room T.me_Room_is_keeper G_Room_is_keeper (hr.mono (by decide)) B_Room_is_keeper .nil pass0 (pa_cons (pv 1) pa_nil)))) (pss_one (ps_ret (pe_glob (v := .int (-1)) (by rfl) T.g_NOT_ALLOWED ⟨_, rfl⟩))) pss_nil)
      (pss_cons (ps_set (i := 3) sc_lift.nd rfl (by first | exact Or.inl rfl | exact Or.inr rfl) (pe_meth (pv 0) T.cl_Room T.me_Room_find_member G_Room_find_member (hr.mono (by decide)) B_Room_find_member .nil pass0 (pa_cons (pv 2) pa_nil)))
      (pss_cons (ps_if (pt_cmpR op_isN (pv 3) pe_non (nomark _)) (pss_one (ps_ret (pe_glob (v := .int (-61)) (by rfl) T.g_NOT_THERE ⟨_, rfl⟩))) pss_nil)
      (pss_cons (ps_if (pt_val (pe_fld (pv 3) rfl)) (pss_one (ps_ret (pe_glob (v := .int (-17)) (by rfl) T.g_ALREADY_SO ⟨_, rfl⟩))) pss_nil)
      (pss_cons (ps_fld (pv 3) pe_bl rfl)
      (pss_one (ps_ret pe_int))))))), ?_⟩
    refine ⟨_, rfl, _, _, _, rfl, R.room, noM (by decide +kernel), _, rfl, L, r, p, rfl, R, _, rfl, ?_⟩
    rw [keeps_eq hx]
    unfold liftR at k
    cases hk : x.keeper with
    | false =>
      rw [if_pos hk] at k
      exact if_true_of rfl (k H L (.refl R))
    | true =>
      rw [if_neg (by rw [hk]; exact Bool.noConfusion)] at k
      refine if_false_of rfl ?_
      refine ⟨_, rfl, _, _, _, rfl, R.room, noM (by decide +kernel), _, rfl, L, r, q, rfl, R, fun e => ?_, fun y e => ?_⟩
      · rw [e] at k
        exact ⟨_, rfl, rfl, _, rfl, if_true_of rfl (k H L (.refl R))⟩
      · rw [e] at k
        refine ⟨_, rfl, rfl, _, rfl, if_false_of rfl ?_⟩
        refine ⟨_, rfl, _, A.Member, _, _, _, rfl, R.mem e, T.cl_Member, T.na_Member_keeper, memF_keeper, _, rfl, ?_⟩
        have k' : ∀ (H' : Hp) (L' : RL), RoomGoes A H L r H' L' (if y.keeper = true then (r, (-17 : Int)) else ({ r with members := r.members.map fun z => if z.who = q then { z with keeper := true } else z }, 0)).1 → Q (.int (if y.keeper = true then (r, (-17 : Int)) else ({ r with members := r.members.map fun z => if z.who = q then { z with keeper := true } else z }, 0)).2) H' := k
        cases hy : y.keeper with
        | true =>
          rw [if_pos hy] at k'
          exact if_true_of rfl (k' H L (.refl R))
        | false =>
          rw [if_neg (by rw [hy]; exact Bool.noConfusion)] at k'
          refine if_false_of rfl ?_
          refine ⟨_, rfl, _, A.Member, _, _, rfl, R.mem e, T.cl_Member, T.na_Member_keeper, (by show 4 < 1000; decide), ?_⟩
          rw [memF_put_keeper]
          exact k' _ L (R.setMember e (fun z => { z with keeper := true }) (fun _ => rfl) (R.wf.sr y (memberOf_who e).1))
end TR
namespace TR
open PySem PySem.Spec PyProof.Rows L2

def sp_show_past (K : PySem.W.Frag) (A : Ad) : Sp := fun vs H Q _ => ∃ (L : RL) (r : Kcs8.Room) (p b : Nat) (x : Kcs8.Member), vs = [.ref (L.a .room), .int p, .int b] ∧ b ≤ 1 ∧ RoomOk A H L r ∧ Kcs8.memberOf r p = some x ∧
  ∀ H' L', RoomGoes A H L r H' L' (pastR r x b).1 → Q (.int (pastR r x b).2) H'
theorem ok_show_past {P : Program} {w : World} {K : PySem.W.Frag} {mg : Str → Option Value} {base : Heap} {A : Ad} (T : Txt K mg A) (O_Room_is_keeper : Ok P w K mg base 2 A.Room_is_keeper ["self", "p"] (sp_Room_is_keeper K A)) : Ok P w K mg base 3 A.show_past ["room", "p", "past"] (sp_show_past K A) := by
  obtain ⟨fd, F⟩ := T.d_show_past
  obtain ⟨fd_Room_is_keeper, G_Room_is_keeper, B_Room_is_keeper⟩ := O_Room_is_keeper.ex
  refine ⟨⟨fd, F.ok sc_show_past (fun vs H Q E h => ?_) (fun cdv Ar outer s H vs Q E hr h => ?_), F.binds fun _ _ _ _ _ _ us hl => match us, hl with | [_, _, _], _ => rfl⟩, F.kp⟩
  · obtain ⟨L, r, p, b, x, rfl, hb, R, hx, k⟩ := h
    rfl
  · obtain ⟨L, r, p, b, x, rfl, hb, R, hx, k⟩ := h
    refine ⟨_, (pss_cons (ps_if (pt_not (pt_val (pe_meth (pv 0) T.cl_Room T.me_Room_is_keeper G_Room_is_keeper (hr.mono (by decide)) B_Room_is_keeper .nil pass0 (pa_cons (pv 1) pa_nil)))) (pss_one (ps_ret (pe_glob (v := .int (-1)) (by rfl) T.g_NOT_ALLOWED ⟨_, rfl⟩))) pss_nil)
      (pss_cons (ps_fld (pv 0) (pv 2) rfl)
      (pss_one (ps_ret pe_int)))), ?_⟩
    refine ⟨_, rfl, _, _, _, rfl, R.room, noM (by decide +kernel), _, rfl, L, r, p, rfl, R, _, rfl, ?_⟩
    rw [keeps_eq hx]
    unfold pastR at k
    cases hk : x.keeper with
    | false =>
      rw [if_pos hk] at k
      exact if_true_of rfl (k H L (.refl R))
    | true =>
      rw [if_neg (by rw [hk]; exact Bool.noConfusion)] at k
      refine if_false_of rfl ?_
      have e : (b : Int) = b2i' (b == 1) := by
        rcases Nat.le_one_iff_eq_zero_or_eq_one.mp hb with h | h <;> rw [h] <;> rfl
      refine ⟨_, rfl, _, rfl, _, A.Room, _, _, rfl, R.room, T.cl_Room, T.na_Room_past, (by show 4 < 1000; decide), ?_⟩
      rw [roomF_put_past, e]
      exact k _ L (R.setPast (b == 1))
end TR
namespace TR
open PySem PySem.Spec PyProof.Rows L2

def sp_seen (K : PySem.W.Frag) (A : Ad) : Sp := fun vs H Q _ => ∃ (L : RL) (r : Kcs8.Room) (p n : Nat) (x : Kcs8.Member), vs = [.ref (L.a .room), .int p, .int n] ∧ RoomOk A H L r ∧ Kcs8.memberOf r p = some x ∧
  ∀ H' L', RoomGoes A H L r H' L' (seenR r x p n).1 → Q (.int (seenR r x p n).2) H'
theorem ok_seen {P : Program} {w : World} {K : PySem.W.Frag} {mg : Str → Option Value} {base : Heap} {A : Ad} (T : Txt K mg A) (O_Room_find_member : Ok P w K mg base 1 A.Room_find_member ["self", "p"] (sp_Room_find_member K A)) (O_Room_seen_message : Ok P w K mg base 2 A.Room_seen_message ["self", "p", "m"] (sp_Room_seen_message K A)) : Ok P w K mg base 3 A.seen ["room", "p", "m"] (sp_seen K A) := by
  obtain ⟨fd, F⟩ := T.d_seen
  obtain ⟨fd_Room_find_member, G_Room_find_member, B_Room_find_member⟩ := O_Room_find_member.ex
  obtain ⟨fd_Room_seen_message, G_Room_seen_message, B_Room_seen_message⟩ := O_Room_seen_message.ex
  refine ⟨⟨fd, F.ok sc_seen (fun vs H Q E h => ?_) (fun cdv Ar outer s H vs Q E hr h => ?_), F.binds fun _ _ _ _ _ _ us hl => match us, hl with | [_, _, _], _ => rfl⟩, F.kp⟩
  · obtain ⟨L, r, p, n, x, rfl, R, hx, k⟩ := h
    rfl
  · obtain ⟨L, r, p, n, x, rfl, R, hx, k⟩ := h
    refine ⟨_, (pss_cons (ps_if (pt_cmpR op_isN (pe_meth (pv 0) T.cl_Room T.me_Room_seen_message G_Room_seen_message (hr.mono (by decide)) B_Room_seen_message .nil pass0 (pa_cons (pv 1) (pa_cons (pv 2) pa_nil))) pe_non (nomark _)) (pss_one (ps_ret (pe_glob (v := .int (-61)) (by rfl) T.g_NOT_THERE ⟨_, rfl⟩))) pss_nil)
      (pss_cons (ps_set (i := 3) sc_seen.nd rfl (by first | exact Or.inl rfl | exact Or.inr rfl) (pe_meth (pv 0) T.cl_Room T.me_Room_find_member G_Room_find_member (hr.mono (by decide)) B_Room_find_member .nil pass0 (pa_cons (pv 1) pa_nil)))
      (pss_cons (ps_fld (pv 3) (pe_op op_add (pv 2) pe_int) rfl)
      (pss_one (ps_ret pe_int))))), ?_⟩
    unfold seenR at k
    refine ⟨_, rfl, _, _, _, rfl, R.room, noM (by decide +kernel), _, rfl, _, rfl, L, r, p, n, x, rfl, R, hx, fun e => ?_, fun y e => ?_⟩
    · rw [e] at k
      exact ⟨rfl, _, rfl, if_true_of rfl (k _ _ (.refl R))⟩
    · rw [e] at k
      refine ⟨rfl, _, rfl, if_false_of rfl ?_⟩
      refine ⟨_, rfl, _, _, _, rfl, R.room, noM (by decide +kernel), _, rfl, L, r, p, rfl, R, fun e => (by rw [hx] at e; cases e), fun m e' => ?_⟩
      rw [hx] at e'
      cases e'
      refine ⟨_, rfl, _, _, rfl, rfl, _, rfl, _, A.Member, _, _, rfl, R.mem hx, T.cl_Member, T.na_Member_read, (by show 4 < 1000; decide), ?_⟩
      rw [memF_put_read]
      have hs := (sees_at e).2
      exact k _ L (R.setMember hx (fun z => { z with read := n + 1 }) (fun _ => rfl) ⟨(by show x.since ≤ n + 1; omega), (R.wf.sr x (memberOf_who hx).1).2⟩)
end TR
namespace TR
open PySem PySem.Spec PyProof.Rows L2
def countsOf (y : Kcs8.Message) : List Nat := (List.range 16).map fun k => (marksOf y k).length
theorem shown_told (y : Kcs8.Message) : vI (Kcs8Neutral.told (Kcs8.shown y)) = ((([V.int 0] ++ vN (countsOf y)) ++ [V.int (y.who : Nat), V.int (ansI y.answers), V.int (y.changes : Nat), V.int (if y.gone then 1 else 0)]) ++ vN y.text) := by
  unfold Kcs8.shown Kcs8Neutral.told
  show V.int 0 :: vI (Kcs8Neutral.nums _) = _
  have e : ∀ l : List Nat, vI (Kcs8Neutral.nums l) = vN l := vI_ofN
  rw [e]
  have ea : ∀ l k : List Nat, vN (l ++ k) = vN l ++ vN k := fun l k => by unfold vN; rw [List.map_append]
  rw [ea, ea]
  show [V.int 0] ++ ((vN ((List.range 16).map fun k => (y.marks.filter fun m => m.2 == k).length) ++ vN [y.who, _, y.changes, _]) ++ vN y.text) = _
  rw [← List.append_assoc, ← List.append_assoc]
  have ec : ((List.range 16).map fun k => (y.marks.filter fun m => m.2 == k).length) = countsOf y := by
    unfold countsOf marksOf
    exact List.map_congr_left fun k _ => (List.length_map _).symm
  rw [ec]
  congr 2
  show [V.int (y.who : Nat), V.int _, V.int (y.changes : Nat), V.int _] = _
  have e2 : (((if y.gone then 1 else 0) : Nat) : Int) = (if y.gone then 1 else 0) := by cases y.gone <;> rfl
  rw [e2]
  cases y.answers with
  | none => rfl
  | some n => rfl
theorem countsOf_len (y : Kcs8.Message) : (countsOf y).length = 16 := by
  unfold countsOf
  rw [List.length_map, List.length_range]
def sp_read (K : PySem.W.Frag) (A : Ad) : Sp := fun vs H Q _ => ∃ (L : RL) (r : Kcs8.Room) (p n : Nat) (x : Kcs8.Member), vs = [.ref (L.a .room), .int p, .int n] ∧ RoomOk A H L r ∧ Kcs8.memberOf r p = some x ∧ Gives H (Kcs8Neutral.told (readR r x n)) Q
theorem ok_read {P : Program} {w : World} {K : PySem.W.Frag} {mg : Str → Option Value} {base : Heap} {A : Ad} (T : Txt K mg A) (O_Room_seen_message : Ok P w K mg base 2 A.Room_seen_message ["self", "p", "m"] (sp_Room_seen_message K A)) : Ok P w K mg base 3 A.read ["room", "p", "m"] (sp_read K A) := by
  obtain ⟨fd, F⟩ := T.d_read
  obtain ⟨fd_Room_seen_message, G_Room_seen_message, B_Room_seen_message⟩ := O_Room_seen_message.ex
  refine ⟨⟨fd, F.ok sc_read (fun vs H Q E h => ?_) (fun cdv Ar outer s H vs Q E hr h => ?_), F.binds fun _ _ _ _ _ _ us hl => match us, hl with | [_, _, _], _ => rfl⟩, F.kp⟩
  · obtain ⟨L, r, p, n, x, rfl, R, hx, k⟩ := h
    rfl
  · obtain ⟨L, r, p, n, x, rfl, R, hx, k⟩ := h
    refine ⟨_, (pss_cons (ps_set (i := 3) sc_read.nd rfl (by first | exact Or.inl rfl | exact Or.inr rfl) (pe_meth (pv 0) T.cl_Room T.me_Room_seen_message G_Room_seen_message (hr.mono (by decide)) B_Room_seen_message .nil pass0 (pa_cons (pv 1) (pa_cons (pv 2) pa_nil))))
      (pss_cons (ps_if (pt_cmpR op_isN (pv 3) pe_non (nomark _)) (pss_one (ps_ret (pe_lst (pa_cons (pe_glob (v := .int (-61)) (by rfl) T.g_NOT_THERE ⟨_, rfl⟩) pa_nil)))) pss_nil)
      (pss_cons (ps_setLc (i := 4) (own := [("markers", 6)]) (g := gName 6) (tt := tYes) (te := (tCB (fun xs H Q => ∃ p ys, xs = [.ref p] ∧ (SqL K H p ys ∨ SqT K H p ys) ∧ Q (.int ys.length) H) (tCons (tVar 6) tNil))) rfl sc_read.nd rfl rfl (sw_true rfl rfl rfl (by decide +kernel)) (pi_list (pe_fld (pv 3) rfl)) (blkOk_by (N := N_read) (sc := defScope s_read) (by decide +kernel)) (fun _ _ _ _ _ => pg_name (i := 6) sc_read.nd rfl (Or.inl rfl)) (fun _ _ _ _ _ => by exact pts_nil) (fun _ _ _ _ _ => by exact (pe_callB call_len_seq (by rfl) T.b_len (by decide +kernel) (pa_cons (pv 6) pa_nil))))
      (pss_cons (ps_set (i := 5) sc_read.nd rfl (by first | exact Or.inl rfl | exact Or.inr rfl) (pe_ifExp (pt_val (pe_fld (pv 3) rfl)) pe_int pe_int))
      (pss_one (ps_ret (pe_op op_cat (pe_op op_cat (pe_op op_cat (pe_lst (pa_cons pe_int pa_nil)) (pv 4)) (pe_lst (pa_cons (pe_fld (pv 3) rfl) (pa_cons (pe_fld (pv 3) rfl) (pa_cons (pe_fld (pv 3) rfl) (pa_cons (pv 5) pa_nil)))))) (pe_fld (pv 3) rfl)))))))), ?_⟩
    unfold readR at k
    refine ⟨_, rfl, _, _, _, rfl, R.room, noM (by decide +kernel), _, rfl, _, rfl, L, r, p, n, x, rfl, R, hx, fun e => ?_, fun y e => ?_⟩
    · rw [e] at k
      exact ⟨_, rfl, rfl, _, rfl, if_true_of rfl ⟨(by show 1 ≤ sizeLine; decide), fun q nq => k _ q (Same.upd_new nq) nq upd_same⟩⟩
    · rw [e] at k
      refine ⟨_, rfl, rfl, _, rfl, if_false_of rfl ?_⟩
      have M := R.msg (sees_at e).1
      refine ⟨_, rfl, _, A.Message, _, _, _, rfl, M.msg, T.cl_Message, T.na_Message_marks, msgF_marks, _, rfl, ⟨_, SqL.of M.mks⟩, fun D nD => lc_list (K := K) (a := (L.ms n).a .mks) (xs := (List.range 16).map fun k => V.ref ((L.ms n).a (.mk k)))
        (fun i H' => Same H H' ∧ H' D = some (.lst (vN (((List.range 16).take i).map fun k => (marksOf y k).length)))) ⟨Same.upd_new nD, upd_same⟩ (fun i H' _ ⟨S, _⟩ => SqL.of (S _ _ M.mks)) ?_ ?_⟩
      · rintro i z H' hi ⟨S, hD⟩
        obtain ⟨j, hj, rfl⟩ := map_at hi
        have hlt : j < 16 := List.mem_range.mp (List.mem_of_getElem? hj)
        refine ⟨rfl, yes_of ⟨_, rfl, _, _, rfl, .inl (SqL.of (S _ _ (M.mkAt hlt))), _, hD, ?_, fun b o e => by rw [upd_ne (ne_of_none e nD)]; exact S b o e, ?_⟩⟩
        · rw [vN_length, List.length_map, List.length_take, List.length_range]
          exact small1000 (by omega)
        · rw [upd_same, vN_snoc hj, List.length_map]
      · rintro H1 ⟨S, hD⟩
        rw [List.length_map, List.take_of_length_le (Nat.le_refl _)] at hD
        have hD : H1 D = some (.lst (vN (countsOf y))) := hD
        have M1 := M.same S
        have hc := countsOf_len y
        have hte := M.wf.txt
        refine ⟨_, rfl, _, A.Message, _, _, _, rfl, M1.msg, T.cl_Message, T.na_Message_gone, msgF_gone, _, rfl, ?_⟩
        have st := shown_told y
        cases cg : y.gone
        case' true => refine if_true_of rfl ?_
        case' false => refine if_false_of rfl ?_
        all_goals
          rw [cg] at st
          refine ⟨(by show 1 ≤ sizeLine; decide), fun q1 n1 => ?_⟩
          have S1 := Same.upd_new (o := .lst [.int 0]) n1
          refine ⟨_, rfl, q1, D, _, _, rfl, rfl, upd_same, S1 _ _ hD, ?_, fun q2 n2 => ?_⟩
          · rw [vN_length, hc]
            exact Nat.le_of_lt (small1000 (by show 1 + 16 ≤ 1000; omega))
          have S2 := Same.upd_new (o := .lst ([.int 0] ++ vN (countsOf y))) n2
          have M2 := (M1.same S1).same S2
          refine ⟨_, rfl, _, A.Message, _, _, _, rfl, M2.msg, T.cl_Message, T.na_Message_who, msgF_who, ?_⟩
          refine ⟨_, rfl, _, A.Message, _, _, _, rfl, M2.msg, T.cl_Message, T.na_Message_answered, msgF_answered, ?_⟩
          refine ⟨_, rfl, _, A.Message, _, _, _, rfl, M2.msg, T.cl_Message, T.na_Message_changes, msgF_changes, ?_⟩
          refine ⟨_, rfl, (by show 4 ≤ sizeLine; decide), fun q3 n3 => ?_⟩
          refine ⟨q2, q3, _, _, rfl, rfl, Same.upd_new n3 _ _ upd_same, upd_same, ?_, fun q4 n4 => ?_⟩
          · rw [List.length_append, vN_length, hc]
            exact Nat.le_of_lt (small1000 (by show 1 + 16 + 4 ≤ 1000; omega))
          refine ⟨_, rfl, _, A.Message, _, _, _, rfl, ((M2.same (Same.upd_new n3)).same (Same.upd_new n4)).msg, T.cl_Message, T.na_Message_text, msgF_text, ?_⟩
          refine ⟨q4, _, _, _, rfl, rfl, upd_same, ((M2.same (Same.upd_new n3)).same (Same.upd_new n4)).txt, ?_, fun q5 n5 => ?_⟩
          · rw [List.length_append, List.length_append, vN_length, hc, List.length_map]
            exact Nat.le_of_lt (small1000 (by show 1 + 16 + 4 + y.text.length ≤ 1000; omega))
          refine k _ q5 (S.trans (S1.trans (S2.trans ((Same.upd_new n3).trans ((Same.upd_new n4).trans (Same.upd_new n5)))))) ?_ ?_
          · exact ((S.trans (S1.trans (S2.trans ((Same.upd_new n3).trans (Same.upd_new n4)))))).free n5
          · rw [upd_same, st]
            rfl
end TR
namespace TR
open PySem PySem.Spec PyProof.Rows L2
theorem unread_eq {r : Kcs8.Room} {x : Kcs8.Member} (W : WfR r) (h : x ∈ r.members) : Kcs8.unread r x = ((r.messages.drop x.read).filter fun y => y.who != x.who && !y.gone).length := by
  unfold Kcs8.unread
  rw [← filter_from]
  congr 1
  apply List.filter_congr
  intro n _
  have hs := (W.sr x h).1
  by_cases c : x.read ≤ n
  · rw [decide_eq_true c, Bool.true_and, Bool.true_and]
    unfold Kcs8.sees
    rw [if_pos (by omega)]
    cases r.messages[n]? with
    | none => rfl
    | some y =>
      show (!y.gone && y.who != x.who) = (y.who != x.who && !y.gone)
      exact Bool.and_comm _ _
  · rw [decide_eq_false c, Bool.false_and, Bool.false_and]
theorem len_snoc {α : Type} {l : List α} {q : α → Bool} {i : Nat} {a : α} (h : l[i]? = some a) : ((l.take (i + 1)).filter q).length = ((l.take i).filter q).length + (if q a = true then 1 else 0) := by
  rw [List.take_add_one, h, List.filter_append, List.length_append]
  congr 1
  show ([a].filter q).length = _
  cases hq : q a with
  | true => rw [List.filter_cons_of_pos hq]; rfl
  | false => rw [List.filter_cons_of_neg (by rw [hq]; exact Bool.false_ne_true)]; rfl
def sp_unread (K : PySem.W.Frag) (A : Ad) : Sp := fun vs H Q _ => ∃ (L : RL) (r : Kcs8.Room) (p : Nat) (x : Kcs8.Member), vs = [.ref (L.a .room), .int p] ∧ RoomOk A H L r ∧ Kcs8.memberOf r p = some x ∧
  ∀ H', Same H H' → Q (.int (Kcs8.unread r x : Nat)) H'
theorem ok_unread {P : Program} {w : World} {K : PySem.W.Frag} {mg : Str → Option Value} {base : Heap} {A : Ad} (T : Txt K mg A) (O_Room_find_member : Ok P w K mg base 1 A.Room_find_member ["self", "p"] (sp_Room_find_member K A)) : Ok P w K mg base 2 A.unread ["room", "p"] (sp_unread K A) := by
  obtain ⟨fd, F⟩ := T.d_unread
  obtain ⟨fd_Room_find_member, G_Room_find_member, B_Room_find_member⟩ := O_Room_find_member.ex
  refine ⟨⟨fd, F.ok sc_unread (fun vs H Q E h => ?_) (fun cdv Ar outer s H vs Q E hr h => ?_), F.binds fun _ _ _ _ _ _ us hl => match us, hl with | [_, _], _ => rfl⟩, F.kp⟩
  · obtain ⟨L, r, p, x, rfl, R, hx, k⟩ := h
    rfl
  · obtain ⟨L, r, p, x, rfl, R, hx, k⟩ := h
    refine ⟨_, (pss_cons (ps_set (i := 2) sc_unread.nd rfl (by first | exact Or.inl rfl | exact Or.inr rfl) (pe_slice sl_list (pe_fld (pv 0) rfl) (po_some (pe_fld (pe_meth (pv 0) T.cl_Room T.me_Room_find_member G_Room_find_member (hr.mono (by decide)) B_Room_find_member .nil pass0 (pa_cons (pv 1) pa_nil)) rfl)) po_none))
      (pss_one (ps_ret (pe_callB call_len_seq (by rfl) T.b_len (by decide +kernel) (pa_cons (pe_lc (own := [("message", 3)]) (g := gName 3) (tt := (tAnd (tTest (tOp rNe (tFld K (tVar 3) "who") (tVar 1))) (tNot (tB (tFld K (tVar 3) "gone"))))) (te := (tVar 3)) rfl sc_unread.nd (pi_list (pv 2)) (blkOk_by (N := N_unread) (sc := defScope s_unread) (by decide +kernel)) (fun _ _ _ _ _ => pg_name (i := 3) sc_unread.nd rfl (Or.inl rfl)) (fun _ _ _ _ _ => by exact (pts_one (PW.pt (pw_and (pt_cmpR op_ne (pe_fld (pv 3) rfl) (pv 1) (nomark _)) (pw_and1 (pt_not (pt_val (pe_fld (pv 3) rfl)))))))) (fun _ _ _ _ _ => by exact (pv 3))) pa_nil))))), ?_⟩
    have hw := memberOf_who hx
    rw [unread_eq R.wf hw.1, hw.2] at k
    refine ⟨_, rfl, _, A.Room, _, _, _, rfl, R.room, T.cl_Room, T.na_Room_messages, roomF_messages, _, rfl, _, _, _, rfl, R.room, noM (by decide +kernel), _, rfl, L, r, p, rfl, R, fun e => (by rw [hx] at e; cases e), fun m e' => ?_⟩
    rw [hx] at e'
    cases e'
    refine ⟨_, A.Member, _, _, _, rfl, R.mem hx, T.cl_Member, T.na_Member_read, memF_read, _, rfl, _, _, rfl, SqL.of R.msgs, fun b nb => ?_⟩
    rw [cut_drop]
    have hb : ((List.range r.messages.length).map fun n => V.ref (L.a (.msg n .msg))).drop x.read = ((List.range r.messages.length).drop x.read).map fun n => V.ref (L.a (.msg n .msg)) := by rw [List.map_drop]
    rw [hb]
    have S0 := Same.upd_new (o := .lst (((List.range r.messages.length).drop x.read).map fun n => V.ref (L.a (.msg n .msg)))) nb
    refine ⟨_, rfl, b, rfl, ⟨_, SqL.of upd_same⟩, fun D nD => lc_list (K := K) (a := b) (xs := ((List.range r.messages.length).drop x.read).map fun n => V.ref (L.a (.msg n .msg)))
      (fun i H' => Same (upd H b (.lst (((List.range r.messages.length).drop x.read).map fun n => V.ref (L.a (.msg n .msg))))) H' ∧ ∃ acc, H' D = some (.lst acc) ∧ acc.length = (((r.messages.drop x.read).take i).filter fun y => y.who != p && !y.gone).length)
      ⟨Same.upd_new nD, [], upd_same, rfl⟩ (fun i H' _ ⟨S, _⟩ => SqL.of (S _ _ upd_same)) ?_ ?_⟩
    · rintro i z H' hi ⟨S, acc, hD, hacc⟩
      obtain ⟨n, hn, rfl⟩ := map_at hi
      have hn' : x.read + i < r.messages.length ∧ n = x.read + i := by
        rw [List.getElem?_drop] at hn
        have h1 := (List.getElem?_eq_some_iff.mp hn).1
        rw [List.length_range] at h1
        rw [List.getElem?_range h1] at hn
        exact ⟨h1, (Option.some.inj hn).symm⟩
      obtain ⟨hlt, rfl⟩ := hn'
      obtain ⟨y, hy⟩ : ∃ y, r.messages[x.read + i]? = some y := ⟨_, List.getElem?_eq_getElem hlt⟩
      have hy' : (r.messages.drop x.read)[i]? = some y := by rw [List.getElem?_drop]; exact hy
      have M := ((R.msg hy).same (S0.trans S)).msg
      have hl : acc.length ≤ 128 := by
        have h1 := List.length_filter_le (fun y : Kcs8.Message => y.who != p && !y.gone) ((r.messages.drop x.read).take i)
        rw [List.length_take, List.length_drop] at h1
        have := R.wf.msgs
        omega
      refine ⟨rfl, _, rfl, _, A.Message, _, _, _, rfl, M, T.cl_Message, T.na_Message_who, msgF_who, _, rfl, rfl, _, rfl, ?_⟩
      by_cases c : y.who = p
      · refine if_false_of (by rw [dec_nat_true c]; rfl) (if_false_of rfl ⟨S, acc, hD, ?_⟩)
        rw [hacc, len_snoc hy', if_neg (by simp [c]), Nat.add_zero]
      · refine if_true_of (by rw [dec_nat_false c]; rfl) ⟨_, rfl, _, A.Message, _, _, _, rfl, M, T.cl_Message, T.na_Message_gone, msgF_gone, _, rfl, ?_⟩
        cases cg : y.gone with
        | true =>
          refine if_false_of rfl ⟨S, acc, hD, ?_⟩
          rw [hacc, len_snoc hy', if_neg (by simp [cg]), Nat.add_zero]
        | false =>
          refine if_true_of rfl ⟨_, rfl, acc, hD, small1000 (by omega), fun b' o e => ?_, _, upd_same, ?_⟩
          · rw [upd_ne (ne_of_none e nD)]
            exact S b' o e
          · rw [List.length_append, hacc, len_snoc hy', if_pos (by simp [cg, c])]
            rfl
    · rintro H2 ⟨S, acc, hD, hacc⟩
      have hl : (((List.range r.messages.length).drop x.read).map fun n => V.ref (L.a (.msg n .msg))).length = (r.messages.drop x.read).length := by
        rw [List.length_map, List.length_drop, List.length_range, List.length_drop]
      rw [hl, List.take_length] at hacc
      refine ⟨D, _, rfl, .inl (SqL.of hD), ?_⟩
      rw [hacc]
      exact k _ (S0.trans S)
end TR
namespace TR
open PySem PySem.Spec PyProof.Rows L2

/-- say: the text at a is handed over -/
def sp_say (K : PySem.W.Frag) (A : Ad) : Sp := fun vs H Q _ => ∃ (L : RL) (r : Kcs8.Room) (p n : Nat) (x : Kcs8.Member) (a : Addr) (t : List Nat), vs = [.ref (L.a .room), .int p, .int n, .ref a] ∧ RoomOk A H L r ∧ Kcs8.memberOf r p = some x ∧
  H a = some (nats t) ∧ t.length ≤ 256 ∧ ¬ Own L.a (roomC A L r) a ∧ ∀ H' L', RoomGoes A (del H a) L r H' L' (sayR r x p n t).1 → Q (.int (sayR r x p n t).2) H'
theorem ok_say {P : Program} {w : World} {K : PySem.W.Frag} {mg : Str → Option Value} {base : Heap} {A : Ad} (T : Txt K mg A) (O_Message_init : Ok P w K mg base 3 A.Message_init ["self", "who", "text", "answered"] (sp_Message_init K A)) (O_Room_standing_message : Ok P w K mg base 3 A.Room_standing_message ["self", "p", "m"] (sp_Room_standing_message K A)) : Ok P w K mg base 5 A.say ["room", "p", "answered", "text"] (sp_say K A) := by
  obtain ⟨fd, F⟩ := T.d_say
  obtain ⟨fd_Message_init, G_Message_init, B_Message_init⟩ := O_Message_init.ex
  obtain ⟨fd_Room_standing_message, G_Room_standing_message, B_Room_standing_message⟩ := O_Room_standing_message.ex
  refine ⟨⟨fd, F.ok sc_say (fun vs H Q E h => ?_) (fun cdv Ar outer s H vs Q E hr h => ?_), F.binds fun _ _ _ _ _ _ us hl => match us, hl with | [_, _, _, _], _ => rfl⟩, F.kp⟩
  · obtain ⟨L, r, p, n, x, a, t, rfl, R, hx, ha, hl, na, k⟩ := h
    rfl
  · obtain ⟨L, r, p, n, x, a, t, rfl, R, hx, ha, hl, na, k⟩ := h
    refine ⟨_, (pss_cons (ps_if (PW.pt (pw_and (pt_cmpR op_gt (pv 2) pe_int (nomark _)) (pw_and1 (pt_cmpR op_isN (pe_meth (pv 0) T.cl_Room T.me_Room_standing_message G_Room_standing_message (hr.mono (by decide)) B_Room_standing_message .nil pass0 (pa_cons (pv 1) (pa_cons (pe_op op_sub (pv 2) pe_int) pa_nil))) pe_non (nomark _))))) (pss_one (ps_ret (pe_glob (v := .int (-61)) (by rfl) T.g_NOT_THERE ⟨_, rfl⟩))) pss_nil)
      (pss_cons (ps_if (pt_cmpR op_ge (pe_callB call_len_seq (by rfl) T.b_len (by decide +kernel) (pa_cons (pe_fld (pv 0) rfl) pa_nil)) (pe_glob (v := .int (128)) (by rfl) T.g_MOST_MESSAGES ⟨_, rfl⟩) (nomark _)) (pss_one (ps_ret (pe_glob (v := .int (-28)) (by rfl) T.g_FULL ⟨_, rfl⟩))) pss_nil)
      (pss_cons (ps_expr (pe_bm PySem.F.plainAttrs_list PySem.F.slot_list_append PySem.F.type_list_append mt_append (pe_fld (pv 0) rfl) (pa_cons (pe_make T.mk_Message G_Message_init (hr.mono (by decide)) (by rfl) T.g_Message B_Message_init .nil pass0 (pa_cons (pv 1) (pa_cons (pv 3) (pa_cons (pv 2) pa_nil)))) pa_nil)))
      (pss_one (ps_ret (pe_op op_sub (pe_callB call_len_seq (by rfl) T.b_len (by decide +kernel) (pa_cons (pe_fld (pv 0) rfl) pa_nil)) pe_int)))))), ?_⟩
    have G0 : RoomGoes A (del H a) L r H L r := (RoomGoes.refl (R.del na)).same Same.del
    unfold sayR at k
    refine ⟨_, rfl, _, _, rfl, rfl, _, rfl, ?_⟩
    refine ite_both (X := Kcs8.mayAnswer r x n = true) (fun c => if_false_of rfl ?_) (fun c => ?_) (fun c rest => ?_)
    rotate_left
    · have c0 : n = 0 := by
        have := of_decide_eq_false c
        omega
      subst c0
      rfl
    · have c0 : n ≠ 0 := by
        have := of_decide_eq_true c
        omega
      have e : (n : Int) - 1 = ((n - 1 : Nat) : Int) := by omega
      have hm : Kcs8.mayAnswer r x n = (Kcs8.sees r x (n - 1)).any fun y => !y.gone := by
        unfold Kcs8.mayAnswer
        rw [show (n == 0) = false from beq_false_of_ne c0, Bool.false_or]
      refine ⟨_, rfl, _, _, _, rfl, R.room, noM (by decide +kernel), _, rfl, _, rfl, _, _, rfl, rfl, L, r, p, n - 1, x, ?_, R, hx, fun h => ?_, fun y h hg => ?_⟩
      · show [V.ref (L.a .room), V.int p, V.int ((n : Int) - 1)] = _
        rw [e]
      · refine ⟨rfl, _, rfl, if_true_of rfl ?_⟩
        have c2 : Kcs8.mayAnswer r x n = false := by
          rw [hm]
          cases hs : Kcs8.sees r x (n - 1) with
          | none => rfl
          | some y =>
            show (!y.gone) = false
            rw [h y hs]
            rfl
        rw [if_pos c2] at k
        exact k _ _ G0
      · refine ⟨rfl, _, rfl, rest ?_⟩
        rw [hm, h]
        show (!y.gone) = true
        rw [hg]
        rfl
    rw [if_neg (by rw [c]; exact Bool.noConfusion)] at k
    refine ⟨_, rfl, _, A.Room, _, _, _, rfl, R.room, T.cl_Room, T.na_Room_messages, roomF_messages, _, _, rfl, .inl (SqL.of R.msgs), _, _, rfl, rfl, _, rfl, ?_⟩
    rw [List.length_map, List.length_range]
    by_cases c2 : 128 ≤ r.messages.length
    · rw [if_pos c2] at k
      exact if_true_of (decide_eq_true (by omega)) (k _ _ G0)
    rw [if_neg c2] at k
    refine if_false_of (decide_eq_false (by omega)) ?_
    refine ⟨_, rfl, _, A.Room, _, _, _, rfl, R.room, T.cl_Room, T.na_Room_messages, roomF_messages, .inl ⟨rfl, _, SqL.of R.msgs⟩, _, rfl, _, rfl, _, rfl, fun o dx no nd ne => ?_⟩
    have hold : ∀ b u, H b = some u → b ≠ o → upd (upd H dx (.own o)) o (.ins A.Message dx []) b = some u := fun b u e nb => by
      rw [upd_ne nb, upd_ne (ne_of_none e nd)]
      exact e
    have ao : a ≠ o := ne_of_none ha no
    refine ⟨o, dx, a, p, n, t, rfl, upd_same, hold _ _ ha ao, hl, fun H2 N hN G F => ⟨rfl, ?_⟩⟩
    have key : ∀ b u, del H a b = some u → H2 b = some u ∧ ¬ Own N.a (msgC A N ⟨p, t, ansO n, 0, false, []⟩) b := fun b u e => by
      have ba : b ≠ a := fun z => by rw [z, del_same] at e; cases e
      rw [del_ne ba] at e
      have bo : b ≠ o := ne_of_none e no
      have e2 : del (del (upd (upd H dx (.own o)) o (.ins A.Message dx [])) a) o b = some u := by
        rw [del_ne bo, del_ne ba]
        exact hold b u e bo
      exact F.out e2 fun ⟨q, o', h, _⟩ => by cases h
    have G1 := (R.del na).addM (by omega) G key
    rw [hN] at G1
    have hms := (key _ _ ((R.del na).msgs)).1
    refine ⟨_, _, _, rfl, rfl, hms, ?_, ?_⟩
    · rw [List.length_map, List.length_range]
      exact small1000 (by omega)
    refine ⟨_, rfl, _, A.Room, _, _, _, rfl, (upd_ne ?_).trans (key _ _ (R.del na).room).1, T.cl_Room, T.na_Room_messages, roomF_messages, _, _, rfl, .inl (SqL.of upd_same), _, _, rfl, rfl, ?_⟩
    · exact ne_of R.room R.msgs (by intro z; cases z)
    · have e : ((((List.range r.messages.length).map fun n => V.ref (L.a (.msg n .msg))) ++ [V.ref o]).length : Int) - 1 = (r.messages.length : Int) := by
        rw [List.length_append, List.length_map, List.length_range, List.length_singleton]
        omega
      show Q (V.int (((((List.range r.messages.length).map fun n => V.ref (L.a (.msg n .msg))) ++ [V.ref o]).length : Int) - 1)) _
      rw [e]
      exact k _ _ G1
end TR
namespace TR
open PySem PySem.Spec PyProof.Rows L2

/-- change: the text at a is handed over -/
def sp_change (K : PySem.W.Frag) (A : Ad) : Sp := fun vs H Q _ => ∃ (L : RL) (r : Kcs8.Room) (p n : Nat) (x : Kcs8.Member) (a : Addr) (t : List Nat), vs = [.ref (L.a .room), .int p, .int n, .ref a] ∧ RoomOk A H L r ∧ Kcs8.memberOf r p = some x ∧
  H a = some (nats t) ∧ t.length ≤ 256 ∧ ¬ Own L.a (roomC A L r) a ∧ ∀ H' L', RoomGoes A (del H a) L r H' L' (changeR r x p n t).1 → Q (.int (changeR r x p n t).2) H'
theorem ok_change {P : Program} {w : World} {K : PySem.W.Frag} {mg : Str → Option Value} {base : Heap} {A : Ad} (T : Txt K mg A) (O_Message_put_text : Ok P w K mg base 3 A.Message_put_text ["self", "text"] (sp_Message_put_text K A)) (O_Room_standing_message : Ok P w K mg base 3 A.Room_standing_message ["self", "p", "m"] (sp_Room_standing_message K A)) : Ok P w K mg base 4 A.change ["room", "p", "m", "text"] (sp_change K A) := by
  obtain ⟨fd, F⟩ := T.d_change
  obtain ⟨fd_Message_put_text, G_Message_put_text, B_Message_put_text⟩ := O_Message_put_text.ex
  obtain ⟨fd_Room_standing_message, G_Room_standing_message, B_Room_standing_message⟩ := O_Room_standing_message.ex
  refine ⟨⟨fd, F.ok sc_change (fun vs H Q E h => ?_) (fun cdv Ar outer s H vs Q E hr h => ?_), F.binds fun _ _ _ _ _ _ us hl => match us, hl with | [_, _, _, _], _ => rfl⟩, F.kp⟩
  · obtain ⟨L, r, p, n, x, a, t, rfl, R, hx, ha, hl, na, k⟩ := h
    rfl
  · obtain ⟨L, r, p, n, x, a, t, rfl, R, hx, ha, hl, na, k⟩ := h
    refine ⟨_, (pss_cons (ps_set (i := 4) sc_change.nd rfl (by first | exact Or.inl rfl | exact Or.inr rfl) (pe_meth (pv 0) T.cl_Room T.me_Room_standing_message G_Room_standing_message (hr.mono (by decide)) B_Room_standing_message .nil pass0 (pa_cons (pv 1) (pa_cons (pv 2) pa_nil))))
      (pss_cons (ps_if (pt_cmpR op_isN (pv 4) pe_non (nomark _)) (pss_one (ps_ret (pe_glob (v := .int (-61)) (by rfl) T.g_NOT_THERE ⟨_, rfl⟩))) pss_nil)
      (pss_cons (ps_if (pt_cmpR op_ne (pe_fld (pv 4) rfl) (pv 1) (nomark _)) (pss_one (ps_ret (pe_glob (v := .int (-1)) (by rfl) T.g_NOT_ALLOWED ⟨_, rfl⟩))) pss_nil)
      (pss_cons (ps_if (pt_cmpR op_ge (pe_fld (pv 4) rfl) (pe_glob (v := .int (255)) (by rfl) T.g_MOST_CHANGES ⟨_, rfl⟩) (nomark _)) (pss_one (ps_ret (pe_glob (v := .int (-28)) (by rfl) T.g_FULL ⟨_, rfl⟩))) pss_nil)
      (pss_cons (ps_expr (pe_meth (pv 4) T.cl_Message T.me_Message_put_text G_Message_put_text (hr.mono (by decide)) B_Message_put_text .nil pass0 (pa_cons (pv 3) pa_nil)))
      (pss_cons (ps_fld (pv 4) (pe_op op_add (pe_fld (pv 4) rfl) pe_int) rfl)
      (pss_one (ps_ret pe_int)))))))), ?_⟩
    have G0 : RoomGoes A (del H a) L r H L r := (RoomGoes.refl (R.del na)).same Same.del
    unfold changeR at k
    refine ⟨_, rfl, _, _, _, rfl, R.room, noM (by decide +kernel), _, rfl, _, rfl, L, r, p, n, x, rfl, R, hx, fun h => ?_, fun y h hg => ?_⟩
    · refine ⟨_, rfl, rfl, _, rfl, if_true_of rfl ?_⟩
      cases hs : Kcs8.sees r x n with
      | none =>
        rw [hs] at k
        exact k _ _ G0
      | some y =>
        rw [hs] at k
        have k' : ∀ H' L', RoomGoes A (del H a) L r H' L' (if y.gone = true then (r, (-61 : Int)) else _).1 → Q (.int (if y.gone = true then (r, (-61 : Int)) else _).2) H' := k
        rw [if_pos (h y hs)] at k'
        exact k' _ _ G0
    · rw [h] at k
      have k' : ∀ H' L', RoomGoes A (del H a) L r H' L' (if y.gone = true then (r, (-61 : Int)) else if y.who ≠ p then (r, -1) else if 255 ≤ y.changes then (r, -28) else (Kcs8.withMessage r n { y with text := t, changes := y.changes + 1 }, 0)).1 →
        Q (.int (if y.gone = true then (r, (-61 : Int)) else if y.who ≠ p then (r, -1) else if 255 ≤ y.changes then (r, -28) else (Kcs8.withMessage r n { y with text := t, changes := y.changes + 1 }, 0)).2) H' := k
      rw [if_neg (by rw [hg]; exact Bool.false_ne_true)] at k'
      have hm := (sees_at h).1
      have M := R.msg hm
      refine ⟨_, rfl, rfl, _, rfl, if_false_of rfl ?_⟩
      refine ⟨_, rfl, _, A.Message, _, _, _, rfl, M.msg, T.cl_Message, T.na_Message_who, msgF_who, _, rfl, rfl, _, rfl, ?_⟩
      by_cases c : y.who = p
      · rw [if_neg (fun z => z c)] at k'
        refine if_false_of (by rw [dec_nat_true c]; rfl) ?_
        refine ⟨_, rfl, _, A.Message, _, _, _, rfl, M.msg, T.cl_Message, T.na_Message_changes, msgF_changes, _, _, rfl, rfl, _, rfl, ?_⟩
        by_cases c2 : 255 ≤ y.changes
        · rw [if_pos c2] at k'
          exact if_true_of (decide_eq_true (by omega)) (k' _ _ G0)
        · rw [if_neg c2] at k'
          refine if_false_of (decide_eq_false (by omega)) ?_
          refine ⟨_, rfl, _, _, _, rfl, M.msg, msgF_no (by decide +kernel), _, rfl, L.ms n, y, a, t, rfl, M, ha, hl, RoomOk.outM hm na, fun H1 L1 G1 => ?_⟩
          have M1 := G1.ok
          refine ⟨_, rfl, _, A.Message, _, _, _, rfl, G1.msg, T.cl_Message, T.na_Message_changes, msgF_changes, _, _, rfl, rfl, _, rfl, _, A.Message, _, _, rfl, G1.msg, T.cl_Message, T.na_Message_changes, (by show 7 < 1000; decide), ?_⟩
          rw [msgF_put_changes]
          have G2 := G1.trans (M1.setChanges (y.changes + 1))
          rw [G1.here] at G2
          exact k' _ _ ((R.del na).liftM hm G2)
      · rw [if_pos c] at k'
        exact if_true_of (by rw [dec_nat_false c]; rfl) (k' _ _ G0)
end TR
namespace TR
open PySem PySem.Spec PyProof.Rows L2

def sp_remove (K : PySem.W.Frag) (A : Ad) : Sp := fun vs H Q _ => ∃ (L : RL) (r : Kcs8.Room) (p n : Nat) (x : Kcs8.Member), vs = [.ref (L.a .room), .int p, .int n] ∧ RoomOk A H L r ∧ Kcs8.memberOf r p = some x ∧
  ∀ H' L', RoomGoes A H L r H' L' (removeR r x p n).1 → Q (.int (removeR r x p n).2) H'
theorem ok_remove {P : Program} {w : World} {K : PySem.W.Frag} {mg : Str → Option Value} {base : Heap} {A : Ad} (T : Txt K mg A) (O_Message_take_away : Ok P w K mg base 4 A.Message_take_away ["self"] (sp_Message_take_away K A)) (O_Room_is_keeper : Ok P w K mg base 2 A.Room_is_keeper ["self", "p"] (sp_Room_is_keeper K A)) (O_Room_standing_message : Ok P w K mg base 3 A.Room_standing_message ["self", "p", "m"] (sp_Room_standing_message K A)) : Ok P w K mg base 5 A.remove ["room", "p", "m"] (sp_remove K A) := by
  obtain ⟨fd, F⟩ := T.d_remove
  obtain ⟨fd_Message_take_away, G_Message_take_away, B_Message_take_away⟩ := O_Message_take_away.ex
  obtain ⟨fd_Room_is_keeper, G_Room_is_keeper, B_Room_is_keeper⟩ := O_Room_is_keeper.ex
  obtain ⟨fd_Room_standing_message, G_Room_standing_message, B_Room_standing_message⟩ := O_Room_standing_message.ex
  refine ⟨⟨fd, F.ok sc_remove (fun vs H Q E h => ?_) (fun cdv Ar outer s H vs Q E hr h => ?_), F.binds fun _ _ _ _ _ _ us hl => match us, hl with | [_, _, _], _ => rfl⟩, F.kp⟩
  · obtain ⟨L, r, p, n, x, rfl, R, hx, k⟩ := h
    rfl
  · obtain ⟨L, r, p, n, x, rfl, R, hx, k⟩ := h
    refine ⟨_, (pss_cons (ps_set (i := 3) sc_remove.nd rfl (by first | exact Or.inl rfl | exact Or.inr rfl) (pe_meth (pv 0) T.cl_Room T.me_Room_standing_message G_Room_standing_message (hr.mono (by decide)) B_Room_standing_message .nil pass0 (pa_cons (pv 1) (pa_cons (pv 2) pa_nil))))
      (pss_cons (ps_if (pt_cmpR op_isN (pv 3) pe_non (nomark _)) (pss_one (ps_ret (pe_glob (v := .int (-61)) (by rfl) T.g_NOT_THERE ⟨_, rfl⟩))) pss_nil)
      (pss_cons (ps_if (PW.pt (pw_and (pt_cmpR op_ne (pe_fld (pv 3) rfl) (pv 1) (nomark _)) (pw_and1 (pt_not (pt_val (pe_meth (pv 0) T.cl_Room T.me_Room_is_keeper G_Room_is_keeper (hr.mono (by decide)) B_Room_is_keeper .nil pass0 (pa_cons (pv 1) pa_nil))))))) (pss_one (ps_ret (pe_glob (v := .int (-1)) (by rfl) T.g_NOT_ALLOWED ⟨_, rfl⟩))) pss_nil)
      (pss_cons (ps_expr (pe_meth0 (pv 3) T.cl_Message T.me_Message_take_away G_Message_take_away (hr.mono (by decide)) B_Message_take_away .nil pass0))
      (pss_one (ps_ret pe_int)))))), ?_⟩
    unfold removeR at k
    refine ⟨_, rfl, _, _, _, rfl, R.room, noM (by decide +kernel), _, rfl, _, rfl, L, r, p, n, x, rfl, R, hx, fun h => ?_, fun y h hg => ?_⟩
    · refine ⟨_, rfl, rfl, _, rfl, if_true_of rfl ?_⟩
      cases hs : Kcs8.sees r x n with
      | none =>
        rw [hs] at k
        exact k _ _ (.refl R)
      | some y =>
        rw [hs] at k
        have k' : ∀ H' L', RoomGoes A H L r H' L' (if y.gone = true then (r, (-61 : Int)) else _).1 → Q (.int (if y.gone = true then (r, (-61 : Int)) else _).2) H' := k
        rw [if_pos (h y hs)] at k'
        exact k' _ _ (.refl R)
    · rw [h] at k
      have k' : ∀ H' L', RoomGoes A H L r H' L' (if y.gone = true then (r, (-61 : Int)) else if y.who ≠ p ∧ x.keeper = false then (r, -1) else (Kcs8.withMessage r n { y with text := [], gone := true, marks := [] }, 0)).1 →
        Q (.int (if y.gone = true then (r, (-61 : Int)) else if y.who ≠ p ∧ x.keeper = false then (r, -1) else (Kcs8.withMessage r n { y with text := [], gone := true, marks := [] }, 0)).2) H' := k
      rw [if_neg (by rw [hg]; exact Bool.false_ne_true)] at k'
      have hm := (sees_at h).1
      have M := R.msg hm
      refine ⟨_, rfl, rfl, _, rfl, if_false_of rfl ?_⟩
      refine ⟨_, rfl, _, A.Message, _, _, _, rfl, M.msg, T.cl_Message, T.na_Message_who, msgF_who, _, rfl, rfl, _, rfl, ?_⟩
      refine ite_both (X := ¬ (y.who ≠ p ∧ x.keeper = false)) (fun c => if_false_of rfl ?_) (fun c z => ?_) (fun c rest => ?_)
      · rw [if_neg c] at k'
        refine ⟨_, rfl, _, _, _, rfl, M.msg, msgF_no (by decide +kernel), L.ms n, y, rfl, M, fun H1 L1 G1 => ?_⟩
        exact k' _ _ (R.liftM hm G1)
      · rw [dec_nat_false z.1] at c
        cases c
      · refine ⟨_, rfl, _, _, _, rfl, R.room, noM (by decide +kernel), _, rfl, L, r, p, rfl, R, _, rfl, ?_⟩
        rw [keeps_eq hx]
        cases ck : x.keeper with
        | true => exact rest fun z => by rw [ck] at z; cases z.2
        | false =>
          have c' : y.who ≠ p := fun z => by
            rw [dec_nat_true z] at c
            cases c
          rw [if_pos ⟨c', ck⟩] at k'
          exact if_true_of rfl (k' _ _ (.refl R))
end TR
namespace TR
open PySem PySem.Spec PyProof.Rows L2
theorem ne_kind {x : Kcs8.Message} {p j : Nat} : ∀ k, k ≠ j → marksOf { x with marks := x.marks ++ [(p, j)] } k = marksOf x k := fun k h => by rw [marksOf_add, if_neg h]
theorem ne_kind' {x : Kcs8.Message} {p j : Nat} : ∀ k, k ≠ j → marksOf { x with marks := x.marks.filter (· != (p, j)) } k = marksOf x k := fun k h => by rw [marksOf_drop, if_neg h]
theorem ints_map (l : List Nat) : (l.map fun b => V.int (b : Nat)) = (l.map fun (b : Nat) => (b : Int)).map V.int := by rw [List.map_map]; rfl
theorem erase_map (l : List Nat) (j : Nat) : ((l.map fun (b : Nat) => (b : Int)).eraseIdx j) = (l.eraseIdx j).map fun (b : Nat) => (b : Int) := by
  induction l generalizing j with
  | nil => rfl
  | cons a l ih =>
    cases j with
    | zero => rfl
    | succ j =>
      show _ :: ((l.map fun (b : Nat) => (b : Int)).eraseIdx j) = _
      rw [ih]
      rfl
def sp_mark (K : PySem.W.Frag) (A : Ad) : Sp := fun vs H Q _ => ∃ (L : RL) (r : Kcs8.Room) (p n j : Nat) (x : Kcs8.Member), vs = [.ref (L.a .room), .int p, .int n, .int j] ∧ p < 16 ∧ j < 16 ∧ RoomOk A H L r ∧ Kcs8.memberOf r p = some x ∧
  ∀ H' L', RoomGoes A H L r H' L' (markR r x p n j).1 → Q (.int (markR r x p n j).2) H'
theorem ok_mark {P : Program} {w : World} {K : PySem.W.Frag} {mg : Str → Option Value} {base : Heap} {A : Ad} (T : Txt K mg A) (O_Room_standing_message : Ok P w K mg base 3 A.Room_standing_message ["self", "p", "m"] (sp_Room_standing_message K A)) : Ok P w K mg base 4 A.mark ["room", "p", "m", "kind"] (sp_mark K A) := by
  obtain ⟨fd, F⟩ := T.d_mark
  obtain ⟨fd_Room_standing_message, G_Room_standing_message, B_Room_standing_message⟩ := O_Room_standing_message.ex
  refine ⟨⟨fd, F.ok sc_mark (fun vs H Q E h => ?_) (fun cdv Ar outer s H vs Q E hr h => ?_), F.binds fun _ _ _ _ _ _ us hl => match us, hl with | [_, _, _, _], _ => rfl⟩, F.kp⟩
  · obtain ⟨L, r, p, n, j, x, rfl, hp, hj, R, hx, k⟩ := h
    rfl
  · obtain ⟨L, r, p, n, j, x, rfl, hp, hj, R, hx, k⟩ := h
    refine ⟨_, (pss_cons (ps_set (i := 4) sc_mark.nd rfl (by first | exact Or.inl rfl | exact Or.inr rfl) (pe_meth (pv 0) T.cl_Room T.me_Room_standing_message G_Room_standing_message (hr.mono (by decide)) B_Room_standing_message .nil pass0 (pa_cons (pv 1) (pa_cons (pv 2) pa_nil))))
      (pss_cons (ps_if (pt_cmpR op_isN (pv 4) pe_non (nomark _)) (pss_one (ps_ret (pe_glob (v := .int (-61)) (by rfl) T.g_NOT_THERE ⟨_, rfl⟩))) pss_nil)
      (pss_cons (ps_set (i := 5) sc_mark.nd rfl (by first | exact Or.inl rfl | exact Or.inr rfl) (pe_ix ix_list (pe_fld (pv 4) rfl) (pv 3) (fun _ _ => rfl)))
      (pss_cons (ps_if (pt_cmpR op_in_seq (pv 1) (pv 5) (by rfl)) (pss_cons (ps_expr (pe_bm PySem.F.plainAttrs_list PySem.F.slot_list_remove PySem.F.type_list_remove mt_remove (pv 5) (pa_cons (pv 1) pa_nil)))
      (pss_one (ps_ret pe_int))) pss_nil)
      (pss_cons (ps_expr (pe_bm PySem.F.plainAttrs_list PySem.F.slot_list_append PySem.F.type_list_append mt_append (pv 5) (pa_cons (pv 1) pa_nil)))
      (pss_one (ps_ret pe_int))))))), ?_⟩
    unfold markR at k
    refine ⟨_, rfl, _, _, _, rfl, R.room, noM (by decide +kernel), _, rfl, _, rfl, L, r, p, n, x, rfl, R, hx, fun h => ?_, fun y h hg => ?_⟩
    · refine ⟨_, rfl, rfl, _, rfl, if_true_of rfl ?_⟩
      cases hs : Kcs8.sees r x n with
      | none =>
        rw [hs] at k
        exact k _ _ (.refl R)
      | some y =>
        rw [hs] at k
        have k' : ∀ H' L', RoomGoes A H L r H' L' (if y.gone = true then (r, (-61 : Int)) else _).1 → Q (.int (if y.gone = true then (r, (-61 : Int)) else _).2) H' := k
        rw [if_pos (h y hs)] at k'
        exact k' _ _ (.refl R)
    · rw [h] at k
      have k' : ∀ H' L', RoomGoes A H L r H' L' (if y.gone = true then (r, (-61 : Int)) else if y.marks.contains (p, j) = true then (Kcs8.withMessage r n { y with marks := y.marks.filter (· != (p, j)) }, 0) else (Kcs8.withMessage r n { y with marks := y.marks ++ [(p, j)] }, 1)).1 →
        Q (.int (if y.gone = true then (r, (-61 : Int)) else if y.marks.contains (p, j) = true then (Kcs8.withMessage r n { y with marks := y.marks.filter (· != (p, j)) }, 0) else (Kcs8.withMessage r n { y with marks := y.marks ++ [(p, j)] }, 1)).2) H' := k
      rw [if_neg (by rw [hg]; exact Bool.false_ne_true)] at k'
      have hm := (sees_at h).1
      have M := R.msg hm
      refine ⟨_, rfl, rfl, _, rfl, if_false_of rfl ?_⟩
      refine ⟨_, rfl, _, A.Message, _, _, _, rfl, M.msg, T.cl_Message, T.na_Message_marks, msgF_marks, _, rfl, _, _, _, _, rfl, rfl, SqL.of M.mks, at_of (j := j) (v := .ref ((L.ms n).a (.mk j))) rfl (by rw [List.getElem?_map, List.getElem?_range hj]; rfl), ?_⟩
      have hk := M.mkAt hj
      refine ⟨_, rfl, _, rfl, _, _, rfl, .inl (SqL.of hk), rfl, flat_ints, _, rfl, ?_⟩
      rw [inV_ints]
      have few := marksOf_few M.wf j
      cases c : (marksOf y j).contains p with
      | true =>
        have hin : p ∈ marksOf y j := by simpa using c
        have hc : y.marks.contains (p, j) = true := by simpa using marksOf_mem.mp hin
        rw [if_pos hc] at k'
        obtain ⟨i, h1, h2, h3⟩ := first_at (marksOf_nodup M.wf.nd j) hin
        have hk2 : H ((L.ms n).a (.mk j)) = some (.lst (((marksOf y j).map fun (b : Nat) => (b : Int)).map V.int)) := by
          rw [hk]
          unfold nats
          rw [ints_map]
        refine if_true_of rfl ⟨_, rfl, .inl ⟨rfl, _, SqL.of hk⟩, _, rfl, _, _, (p : Int), i, rfl, rfl, hk2, ?_, fun m hm' e => h2 m hm' ?_, ?_⟩
        · rw [List.getElem?_map, h1]
          rfl
        · rw [List.getElem?_map] at e
          obtain ⟨z, hz, hz2⟩ := Option.map_eq_some_iff.mp e
          rw [hz, Int.ofNat.inj hz2]
        · have G := M.setMark hj (M.wf.drop p j) ne_kind'
          have e : nats (marksOf { y with marks := y.marks.filter (· != (p, j)) } j) = .lst ((((marksOf y j).map fun (b : Nat) => (b : Int)).eraseIdx i).map V.int) := by
            rw [marksOf_drop, if_pos rfl, ← h3, erase_map]
            unfold nats
            rw [ints_map]
          rw [e] at G
          exact k' _ _ (R.liftM hm G)
      | false =>
        have hc : y.marks.contains (p, j) = false := by
          rw [Bool.eq_false_iff]
          intro z
          have z' : (p, j) ∈ y.marks := by simpa using z
          have : (marksOf y j).contains p = true := by simpa using marksOf_mem.mpr z'
          rw [c] at this
          cases this
        rw [if_neg (by rw [hc]; exact Bool.false_ne_true)] at k'
        refine if_false_of rfl ⟨_, rfl, .inl ⟨rfl, _, SqL.of hk⟩, _, rfl, _, _, _, rfl, rfl, hk, ?_, ?_⟩
        · rw [List.length_map]
          exact small1000 (by omega)
        · have G := M.setMark hj (M.wf.add hp hc) ne_kind
          have e : nats (marksOf { y with marks := y.marks ++ [(p, j)] } j) = .lst ((marksOf y j).map (fun b => V.int (b : Nat)) ++ [V.int (p : Nat)]) := by
            rw [marksOf_add, if_pos rfl]
            unfold nats
            rw [List.map_append]
            rfl
          rw [e] at G
          exact k' _ _ (R.liftM hm G)
end TR
namespace TR
open PySem PySem.Spec PyProof.Rows L2

def sp_answer_on_message (K : PySem.W.Frag) (A : Ad) : Sp := fun vs H Q _ => ∃ (L : RL) (r : Kcs8.Room) (x : Kcs8.Member) (p f k n : Nat) (l : List Nat) (d : Kcs8.Call) (t : Addr), vs = [.ref (L.a .room), .int (numC d), .int p, .int n, .ref t] ∧
  (d = .say p f k n l ∨ d = .change p f k n l ∨ d = .remove p f k n ∨ d = .seen p f k n) ∧ Kcs8.fair d = true ∧ RoomOk A H L r ∧ Kcs8.memberOf r p = some x ∧ H t = some (nats ((rowC d).getD [])) ∧ ¬ Own L.a (roomC A L r) t ∧
  ∀ H' L', RoomGoes A (del H t) L r H' L' (stepR r x d).1 → Q (.int (stepR r x d).2) H'
theorem ok_answer_on_message {P : Program} {w : World} {K : PySem.W.Frag} {mg : Str → Option Value} {base : Heap} {A : Ad} (T : Txt K mg A) (O_seen : Ok P w K mg base 3 A.seen ["room", "p", "m"] (sp_seen K A)) (O_remove : Ok P w K mg base 5 A.remove ["room", "p", "m"] (sp_remove K A)) (O_change : Ok P w K mg base 4 A.change ["room", "p", "m", "text"] (sp_change K A)) (O_say : Ok P w K mg base 5 A.say ["room", "p", "answered", "text"] (sp_say K A)) : Ok P w K mg base 6 A.answer_on_message ["room", "call", "p", "m", "row"] (sp_answer_on_message K A) := by
  obtain ⟨fd, F⟩ := T.d_answer_on_message
  obtain ⟨fd_seen, G_seen, B_seen⟩ := O_seen.ex
  obtain ⟨fd_remove, G_remove, B_remove⟩ := O_remove.ex
  obtain ⟨fd_change, G_change, B_change⟩ := O_change.ex
  obtain ⟨fd_say, G_say, B_say⟩ := O_say.ex
  refine ⟨⟨fd, F.ok sc_answer_on_message (fun vs H Q E h => ?_) (fun cdv Ar outer s H vs Q E hr h => ?_), F.binds fun _ _ _ _ _ _ us hl => match us, hl with | [_, _, _, _, _], _ => rfl⟩, F.kp⟩
  · obtain ⟨L, r, x, p, f, kk, n, l, d, t, rfl, hd, hf, R, hx, ht, nt, k⟩ := h
    rfl
  · obtain ⟨L, r, x, p, f, kk, n, l, d, t, rfl, hd, hf, R, hx, ht, nt, k⟩ := h
    refine ⟨_, (pss_cons (ps_if (pt_cmpR op_eq (pv 1) (pe_glob (v := .int (8)) (by rfl) T.g_SAY ⟨_, rfl⟩) (nomark _)) (pss_one (ps_ret (pe_call G_say (hr.mono (by decide)) (by rfl) T.g_say O_say.kp B_say .nil pass0 (pa_cons (pv 0) (pa_cons (pv 2) (pa_cons (pv 3) (pa_cons (pv 4) pa_nil))))))) pss_nil)
      (pss_cons (ps_if (pt_cmpR op_eq (pv 1) (pe_glob (v := .int (9)) (by rfl) T.g_CHANGE ⟨_, rfl⟩) (nomark _)) (pss_one (ps_ret (pe_call G_change (hr.mono (by decide)) (by rfl) T.g_change O_change.kp B_change .nil pass0 (pa_cons (pv 0) (pa_cons (pv 2) (pa_cons (pv 3) (pa_cons (pv 4) pa_nil))))))) pss_nil)
      (pss_cons (ps_if (pt_cmpR op_eq (pv 1) (pe_glob (v := .int (10)) (by rfl) T.g_REMOVE ⟨_, rfl⟩) (nomark _)) (pss_one (ps_ret (pe_call G_remove (hr.mono (by decide)) (by rfl) T.g_remove O_remove.kp B_remove .nil pass0 (pa_cons (pv 0) (pa_cons (pv 2) (pa_cons (pv 3) pa_nil)))))) pss_nil)
      (pss_one (ps_ret (pe_call G_seen (hr.mono (by decide)) (by rfl) T.g_seen O_seen.kp B_seen .nil pass0 (pa_cons (pv 0) (pa_cons (pv 2) (pa_cons (pv 3) pa_nil))))))))), ?_⟩
    rcases hd with rfl | rfl | rfl | rfl
    · refine ⟨_, rfl, rfl, _, rfl, if_true_of rfl ?_⟩
      exact ⟨_, rfl, _, rfl, _, rfl, _, rfl, L, r, p, n, x, t, l, rfl, R, hx, ht, isText_len hf, nt, k⟩
    · refine ⟨_, rfl, rfl, _, rfl, if_false_of rfl ?_⟩
      refine ⟨_, rfl, rfl, _, rfl, if_true_of rfl ?_⟩
      exact ⟨_, rfl, _, rfl, _, rfl, _, rfl, L, r, p, n, x, t, l, rfl, R, hx, ht, isText_len hf, nt, k⟩
    · iterate 2 refine ⟨_, rfl, rfl, _, rfl, if_false_of rfl ?_⟩
      refine ⟨_, rfl, rfl, _, rfl, if_true_of rfl ?_⟩
      exact ⟨_, rfl, _, rfl, _, rfl, L, r, p, n, x, rfl, R, hx, fun H' L' G => k H' L' (G.del t)⟩
    · iterate 3 refine ⟨_, rfl, rfl, _, rfl, if_false_of rfl ?_⟩
      exact ⟨_, rfl, _, rfl, _, rfl, L, r, p, n, x, rfl, R, hx, fun H' L' G => k H' L' (G.del t)⟩
end TR
namespace TR
open PySem PySem.Spec PyProof.Rows L2

def sp_answer_of_keeper (K : PySem.W.Frag) (A : Ad) : Sp := fun vs H Q _ => ∃ (L : RL) (r : Kcs8.Room) (x : Kcs8.Member) (p f k v : Nat) (d : Kcs8.Call), vs = [.ref (L.a .room), .int (numC d), .int p, .int v] ∧
  (d = .invite p f k v ∨ d = .out p f k v ∨ d = .lift p f k v ∨ d = .past p f k v) ∧ Kcs8.fair d = true ∧ RoomOk A H L r ∧ Kcs8.memberOf r p = some x ∧
  ∀ H' L', RoomGoes A H L r H' L' (stepR r x d).1 → Q (.int (stepR r x d).2) H'
theorem ok_answer_of_keeper {P : Program} {w : World} {K : PySem.W.Frag} {mg : Str → Option Value} {base : Heap} {A : Ad} (T : Txt K mg A) (O_show_past : Ok P w K mg base 3 A.show_past ["room", "p", "past"] (sp_show_past K A)) (O_lift : Ok P w K mg base 3 A.lift ["room", "p", "q"] (sp_lift K A)) (O_put_out : Ok P w K mg base 3 A.put_out ["room", "p", "q"] (sp_put_out K A)) (O_invite : Ok P w K mg base 3 A.invite ["room", "p", "q"] (sp_invite K A)) : Ok P w K mg base 4 A.answer_of_keeper ["room", "call", "p", "value"] (sp_answer_of_keeper K A) := by
  obtain ⟨fd, F⟩ := T.d_answer_of_keeper
  obtain ⟨fd_show_past, G_show_past, B_show_past⟩ := O_show_past.ex
  obtain ⟨fd_lift, G_lift, B_lift⟩ := O_lift.ex
  obtain ⟨fd_put_out, G_put_out, B_put_out⟩ := O_put_out.ex
  obtain ⟨fd_invite, G_invite, B_invite⟩ := O_invite.ex
  refine ⟨⟨fd, F.ok sc_answer_of_keeper (fun vs H Q E h => ?_) (fun cdv Ar outer s H vs Q E hr h => ?_), F.binds fun _ _ _ _ _ _ us hl => match us, hl with | [_, _, _, _], _ => rfl⟩, F.kp⟩
  · obtain ⟨L, r, x, p, f, kk, v, d, rfl, hd, hf, R, hx, k⟩ := h
    rfl
  · obtain ⟨L, r, x, p, f, kk, v, d, rfl, hd, hf, R, hx, k⟩ := h
    refine ⟨_, (pss_cons (ps_if (pt_cmpR op_eq (pv 1) (pe_glob (v := .int (2)) (by rfl) T.g_INVITE ⟨_, rfl⟩) (nomark _)) (pss_one (ps_ret (pe_call G_invite (hr.mono (by decide)) (by rfl) T.g_invite O_invite.kp B_invite .nil pass0 (pa_cons (pv 0) (pa_cons (pv 2) (pa_cons (pv 3) pa_nil)))))) pss_nil)
      (pss_cons (ps_if (pt_cmpR op_eq (pv 1) (pe_glob (v := .int (5)) (by rfl) T.g_OUT ⟨_, rfl⟩) (nomark _)) (pss_one (ps_ret (pe_call G_put_out (hr.mono (by decide)) (by rfl) T.g_put_out O_put_out.kp B_put_out .nil pass0 (pa_cons (pv 0) (pa_cons (pv 2) (pa_cons (pv 3) pa_nil)))))) pss_nil)
      (pss_cons (ps_if (pt_cmpR op_eq (pv 1) (pe_glob (v := .int (6)) (by rfl) T.g_LIFT ⟨_, rfl⟩) (nomark _)) (pss_one (ps_ret (pe_call G_lift (hr.mono (by decide)) (by rfl) T.g_lift O_lift.kp B_lift .nil pass0 (pa_cons (pv 0) (pa_cons (pv 2) (pa_cons (pv 3) pa_nil)))))) pss_nil)
      (pss_one (ps_ret (pe_call G_show_past (hr.mono (by decide)) (by rfl) T.g_show_past O_show_past.kp B_show_past .nil pass0 (pa_cons (pv 0) (pa_cons (pv 2) (pa_cons (pv 3) pa_nil))))))))), ?_⟩
    rcases hd with rfl | rfl | rfl | rfl
    · refine ⟨_, rfl, rfl, _, rfl, if_true_of rfl ?_⟩
      exact ⟨_, rfl, _, rfl, _, rfl, L, r, p, v, x, rfl, R, hx, k⟩
    · refine ⟨_, rfl, rfl, _, rfl, if_false_of rfl ?_⟩
      refine ⟨_, rfl, rfl, _, rfl, if_true_of rfl ?_⟩
      exact ⟨_, rfl, _, rfl, _, rfl, L, r, p, v, x, rfl, R, hx, k⟩
    · iterate 2 refine ⟨_, rfl, rfl, _, rfl, if_false_of rfl ?_⟩
      refine ⟨_, rfl, rfl, _, rfl, if_true_of rfl ?_⟩
      exact ⟨_, rfl, _, rfl, _, rfl, L, r, p, v, x, rfl, R, hx, k⟩
    · iterate 3 refine ⟨_, rfl, rfl, _, rfl, if_false_of rfl ?_⟩
      exact ⟨_, rfl, _, rfl, _, rfl, L, r, p, v, x, rfl, of_decide_eq_true hf, R, hx, k⟩
end TR
namespace TR
open PySem PySem.Spec PyProof.Rows L2
def ansR (r : Kcs8.Room) (x : Kcs8.Member) : Kcs8.Call → Kcs8.Room × Kcs8.Ans
  | .read _ _ _ n => (r, readR r x n)
  | .unread _ _ _ => (r, .num (Kcs8.unread r x))
  | .people _ _ _ j => (r, peopleR r j)
  | d => numR (stepR r x d)
/-- a call in a room: join, or of who is in it -/
theorem room_call {d : Kcs8.Call} {p f k : Nat} (hp : Kcs8.caller d = some p) (h3 : (argsC d).take 3 = [p, f, k]) : d = .join p f k ∨ (numC d ≠ 3 ∧ ∀ m, doesM m d = withinM m f k p fun r x => ansR r x d) := by
  cases d with
  | begin_ => cases hp
  | found p' b => cases h3
  | rooms p' j => cases h3
  | find p' w j => cases h3
  | join p' f' k' =>
    cases h3
    exact .inl rfl
  | _ =>
    cases h3
    exact .inr ⟨by simp [numC], fun m => rfl⟩
def sp_answer_in_room (K : PySem.W.Frag) (A : Ad) : Sp := fun vs H Q _ => ∃ (L : HL) (m : M) (d : Kcs8.Call) (g t : Addr) (p f k : Nat), vs = [.ref (L.a .house), .int (numC d), .ref g, .ref t] ∧ Kcs8.caller d = some p ∧ (argsC d).take 3 = [p, f, k] ∧ p < 16 ∧ Kcs8.fair d = true ∧ HouseOk A H L m ∧
  H g = some (.lst (vN (argsC d))) ∧ H t = some (.lst (vN ((rowC d).getD []))) ∧ ¬ Own L.a (houseC A L m) t ∧ GivesAt A (del H t) L m (doesM m d).1 (Kcs8Neutral.told (doesM m d).2) Q
theorem ok_answer_in_room {P : Program} {w : World} {K : PySem.W.Frag} {mg : Str → Option Value} {base : Heap} {A : Ad} (T : Txt K mg A) (O_answer_on_message : Ok P w K mg base 6 A.answer_on_message ["room", "call", "p", "m", "row"] (sp_answer_on_message K A)) (O_mark : Ok P w K mg base 4 A.mark ["room", "p", "m", "kind"] (sp_mark K A)) (O_answer_of_keeper : Ok P w K mg base 4 A.answer_of_keeper ["room", "call", "p", "value"] (sp_answer_of_keeper K A)) (O_unread : Ok P w K mg base 2 A.unread ["room", "p"] (sp_unread K A)) (O_leave : Ok P w K mg base 2 A.leave ["room", "p"] (sp_leave K A)) (O_kth_person : Ok P w K mg base 1 A.kth_person ["room", "k"] (sp_kth_person K A)) (O_read : Ok P w K mg base 3 A.read ["room", "p", "m"] (sp_read K A)) (O_Room_find_member : Ok P w K mg base 1 A.Room_find_member ["self", "p"] (sp_Room_find_member K A)) (O_join : Ok P w K mg base 4 A.join ["room", "p"] (sp_join K A)) (O_House_find_room : Ok P w K mg base 1 A.House_find_room ["self", "founder", "number"] (sp_House_find_room K A)) : Ok P w K mg base 7 A.answer_in_room ["house", "call", "given", "row"] (sp_answer_in_room K A) := by
  obtain ⟨fd, F⟩ := T.d_answer_in_room
  obtain ⟨fd_answer_on_message, G_answer_on_message, B_answer_on_message⟩ := O_answer_on_message.ex
  obtain ⟨fd_mark, G_mark, B_mark⟩ := O_mark.ex
  obtain ⟨fd_answer_of_keeper, G_answer_of_keeper, B_answer_of_keeper⟩ := O_answer_of_keeper.ex
  obtain ⟨fd_unread, G_unread, B_unread⟩ := O_unread.ex
  obtain ⟨fd_leave, G_leave, B_leave⟩ := O_leave.ex
  obtain ⟨fd_kth_person, G_kth_person, B_kth_person⟩ := O_kth_person.ex
  obtain ⟨fd_read, G_read, B_read⟩ := O_read.ex
  obtain ⟨fd_Room_find_member, G_Room_find_member, B_Room_find_member⟩ := O_Room_find_member.ex
  obtain ⟨fd_join, G_join, B_join⟩ := O_join.ex
  obtain ⟨fd_House_find_room, G_House_find_room, B_House_find_room⟩ := O_House_find_room.ex
  refine ⟨⟨fd, F.ok sc_answer_in_room (fun vs H Q E h => ?_) (fun cdv Ar outer s H vs Q E hr h => ?_), F.binds fun _ _ _ _ _ _ us hl => match us, hl with | [_, _, _, _], _ => rfl⟩, F.kp⟩
  · obtain ⟨L, m, d, g, t, p, f, kk, rfl, hp, h3, p16, hf, R, hg, ht, nt, k⟩ := h
    rfl
  · obtain ⟨L, m, d, g, t, p, f, kk, rfl, hp, h3, p16, hf, R, hg, ht, nt, k⟩ := h
    refine ⟨_, (pss_cons (ps_set (i := 4) sc_answer_in_room.nd rfl (by first | exact Or.inl rfl | exact Or.inr rfl) (pe_ix ix_list (pv 2) pe_int (fun _ _ => rfl)))
      (pss_cons (ps_set (i := 5) sc_answer_in_room.nd rfl (by first | exact Or.inl rfl | exact Or.inr rfl) (pe_meth (pv 0) T.cl_House T.me_House_find_room G_House_find_room (hr.mono (by decide)) B_House_find_room .nil pass0 (pa_cons (pe_ix ix_list (pv 2) pe_int (fun _ _ => rfl)) (pa_cons (pe_ix ix_list (pv 2) pe_int (fun _ _ => rfl)) pa_nil))))
      (pss_cons (ps_if (pt_cmpR op_isN (pv 5) pe_non (nomark _)) (pss_one (ps_ret (pe_lst (pa_cons (pe_glob (v := .int (-2)) (by rfl) T.g_UNKNOWN_ROOM ⟨_, rfl⟩) pa_nil)))) pss_nil)
      (pss_cons (ps_if (pt_cmpR op_eq (pv 1) (pe_glob (v := .int (3)) (by rfl) T.g_JOIN ⟨_, rfl⟩) (nomark _)) (pss_one (ps_ret (pe_lst (pa_cons (pe_call G_join (hr.mono (by decide)) (by rfl) T.g_join O_join.kp B_join .nil pass0 (pa_cons (pv 5) (pa_cons (pv 4) pa_nil))) pa_nil)))) pss_nil)
      (pss_cons (ps_if (pt_cmpR op_isN (pe_meth (pv 5) T.cl_Room T.me_Room_find_member G_Room_find_member (hr.mono (by decide)) B_Room_find_member .nil pass0 (pa_cons (pv 4) pa_nil)) pe_non (nomark _)) (pss_one (ps_ret (pe_lst (pa_cons (pe_glob (v := .int (-2)) (by rfl) T.g_UNKNOWN_ROOM ⟨_, rfl⟩) pa_nil)))) pss_nil)
      (pss_cons (ps_if (pt_cmpR op_eq (pv 1) (pe_glob (v := .int (13)) (by rfl) T.g_READ ⟨_, rfl⟩) (nomark _)) (pss_one (ps_ret (pe_call G_read (hr.mono (by decide)) (by rfl) T.g_read O_read.kp B_read .nil pass0 (pa_cons (pv 5) (pa_cons (pv 4) (pa_cons (pe_ix ix_list (pv 2) pe_int (fun _ _ => rfl)) pa_nil)))))) pss_nil)
      (pss_cons (ps_if (pt_cmpR op_eq (pv 1) (pe_glob (v := .int (16)) (by rfl) T.g_KTH_PERSON ⟨_, rfl⟩) (nomark _)) (pss_one (ps_ret (pe_call G_kth_person (hr.mono (by decide)) (by rfl) T.g_kth_person O_kth_person.kp B_kth_person .nil pass0 (pa_cons (pv 5) (pa_cons (pe_ix ix_list (pv 2) pe_int (fun _ _ => rfl)) pa_nil))))) pss_nil)
      (pss_cons (ps_if (pt_cmpR op_eq (pv 1) (pe_glob (v := .int (4)) (by rfl) T.g_LEAVE ⟨_, rfl⟩) (nomark _)) (pss_one (ps_ret (pe_lst (pa_cons (pe_call G_leave (hr.mono (by decide)) (by rfl) T.g_leave O_leave.kp B_leave .nil pass0 (pa_cons (pv 5) (pa_cons (pv 4) pa_nil))) pa_nil)))) pss_nil)
      (pss_cons (ps_if (pt_cmpR op_eq (pv 1) (pe_glob (v := .int (14)) (by rfl) T.g_UNREAD ⟨_, rfl⟩) (nomark _)) (pss_one (ps_ret (pe_lst (pa_cons (pe_call G_unread (hr.mono (by decide)) (by rfl) T.g_unread O_unread.kp B_unread .nil pass0 (pa_cons (pv 5) (pa_cons (pv 4) pa_nil))) pa_nil)))) pss_nil)
      (pss_cons (ps_if (PW.pt (pw_or (pt_cmpR op_eq (pv 1) (pe_glob (v := .int (2)) (by rfl) T.g_INVITE ⟨_, rfl⟩) (nomark _)) (pw_or (pt_cmpR op_eq (pv 1) (pe_glob (v := .int (5)) (by rfl) T.g_OUT ⟨_, rfl⟩) (nomark _)) (pw_or (pt_cmpR op_eq (pv 1) (pe_glob (v := .int (6)) (by rfl) T.g_LIFT ⟨_, rfl⟩) (nomark _)) (pw_or1 (pt_cmpR op_eq (pv 1) (pe_glob (v := .int (7)) (by rfl) T.g_PAST ⟨_, rfl⟩) (nomark _))))))) (pss_one (ps_ret (pe_lst (pa_cons (pe_call G_answer_of_keeper (hr.mono (by decide)) (by rfl) T.g_answer_of_keeper O_answer_of_keeper.kp B_answer_of_keeper .nil pass0 (pa_cons (pv 5) (pa_cons (pv 1) (pa_cons (pv 4) (pa_cons (pe_ix ix_list (pv 2) pe_int (fun _ _ => rfl)) pa_nil))))) pa_nil)))) pss_nil)
      (pss_cons (ps_if (pt_cmpR op_eq (pv 1) (pe_glob (v := .int (11)) (by rfl) T.g_MARK ⟨_, rfl⟩) (nomark _)) (pss_one (ps_ret (pe_lst (pa_cons (pe_call G_mark (hr.mono (by decide)) (by rfl) T.g_mark O_mark.kp B_mark .nil pass0 (pa_cons (pv 5) (pa_cons (pv 4) (pa_cons (pe_ix ix_list (pv 2) pe_int (fun _ _ => rfl)) (pa_cons (pe_ix ix_list (pv 2) pe_int (fun _ _ => rfl)) pa_nil))))) pa_nil)))) pss_nil)
      (pss_one (ps_ret (pe_lst (pa_cons (pe_call G_answer_on_message (hr.mono (by decide)) (by rfl) T.g_answer_on_message O_answer_on_message.kp B_answer_on_message .nil pass0 (pa_cons (pv 5) (pa_cons (pv 1) (pa_cons (pv 4) (pa_cons (pe_ix ix_list (pv 2) pe_int (fun _ _ => rfl)) (pa_cons (pv 3) pa_nil)))))) pa_nil))))))))))))))), ?_⟩
    have same : HouseGoes A (del H t) L m H L m := (HouseGoes.refl R).del t
    have ha : ∀ i : Nat, i < 3 → atI (vN (argsC d)) (i : Int) = (([p, f, kk] : List Nat)[i]?).map fun z => V.int (z : Nat) := fun i hi => by
      have e3 : (argsC d)[i]? = ([p, f, kk] : List Nat)[i]? := by rw [← h3, List.getElem?_take, if_pos hi]
      obtain ⟨z, hz⟩ : ∃ z, ([p, f, kk] : List Nat)[i]? = some z := ⟨_, List.getElem?_eq_getElem hi⟩
      rw [hz] at e3 ⊢
      exact at_of (j := i) rfl (by unfold vN; rw [List.getElem?_map, e3]; rfl)
    have ha0 := ha 0 (by decide)
    have ha1 := ha 1 (by decide)
    have ha2 := ha 2 (by decide)
    refine ⟨_, rfl, _, _, _, _, rfl, rfl, SqL.of hg, ha0, ?_⟩
    refine ⟨_, rfl, _, _, _, rfl, R.house, houseF_no (by decide +kernel), _, rfl, _, _, _, _, rfl, rfl, SqL.of hg, ha1, _, rfl, _, _, _, _, rfl, rfl, SqL.of hg, ha2, L, m, f, kk, rfl, R, fun er => ?_, fun r er => ?_⟩
    · refine ⟨_, rfl, rfl, _, rfl, if_true_of rfl ?_⟩
      have ed : doesM m d = (m, .num (-2)) := by
        rcases room_call hp h3 with rfl | ⟨_, ed⟩
        · exact doesM_join_none er
        · rw [ed]
          exact withinM_none er
      rw [ed] at k
      exact ⟨(by show 1 ≤ sizeLine; decide), fun q nq => k.one same nq⟩
    refine ⟨_, rfl, rfl, _, rfl, if_false_of rfl ?_⟩
    have Rr := R.room er
    rcases room_call hp h3 with rfl | ⟨n3, ed⟩
    · rw [doesM_join_some er] at k
      refine ⟨_, rfl, rfl, _, rfl, if_true_of rfl ?_⟩
      refine ⟨_, rfl, _, rfl, L.rm f kk, r, p, rfl, Rr, fun c => ?_, fun c H' L' G => ?_⟩
      · rw [if_pos c] at k
        exact ⟨(by show 1 ≤ sizeLine; decide), fun q nq => k.one same nq⟩
      · rw [if_neg (by rw [c]; exact Bool.noConfusion)] at k
        exact ⟨(by show 1 ≤ sizeLine; decide), fun q nq => k.one ((R.lift er G rfl rfl).del t) nq⟩
    refine ⟨_, rfl, rfl, _, rfl, if_false_of (decide_eq_false fun z => n3 (by injection z with z; exact Int.ofNat.inj z)) ?_⟩
    rw [ed] at k
    refine ⟨_, rfl, _, _, _, rfl, Rr.room, noM (by decide +kernel), _, rfl, L.rm f kk, r, p, rfl, Rr, fun ex => ?_, fun x ex => ?_⟩
    · rw [withinM_out er ex] at k
      exact ⟨rfl, _, rfl, if_true_of rfl ⟨(by show 1 ≤ sizeLine; decide), fun q nq => k.one same nq⟩⟩
    rw [withinM_in er ex] at k
    refine ⟨rfl, _, rfl, if_false_of rfl ?_⟩
    have key := stepR_key r x d
    cases d with
    | begin_ => cases hp
    | found p' b => cases h3
    | rooms p' j => cases h3
    | find p' w j => cases h3
    | join p' f' k' => exact absurd rfl n3
    | read p' f' k' n =>
      cases h3
      have k1 : GivesAt A (del H t) L m (setRm m f kk r) (Kcs8Neutral.told (readR r x n)) Q := k
      rw [setRm_same er] at k1
      refine ⟨_, rfl, rfl, _, rfl, if_true_of rfl ?_⟩
      exact ⟨_, rfl, _, rfl, _, rfl, _, _, _, _, rfl, rfl, SqL.of hg, rfl, L.rm f kk, r, p, n, x, rfl, Rr, ex, k1.read same⟩
    | people p' f' k' j =>
      cases h3
      have k1 : GivesAt A (del H t) L m (setRm m f kk r) (Kcs8Neutral.told (peopleR r j)) Q := k
      rw [setRm_same er] at k1
      refine ⟨_, rfl, rfl, _, rfl, if_false_of rfl ?_⟩
      refine ⟨_, rfl, rfl, _, rfl, if_true_of rfl ?_⟩
      exact ⟨_, rfl, _, rfl, _, _, _, _, rfl, rfl, SqL.of hg, rfl, L.rm f kk, r, j, rfl, Rr, k1.read same⟩
    | leave p' f' k' =>
      cases h3
      iterate 2 refine ⟨_, rfl, rfl, _, rfl, if_false_of rfl ?_⟩
      refine ⟨_, rfl, rfl, _, rfl, if_true_of rfl ?_⟩
      exact ⟨_, rfl, _, rfl, L.rm f kk, r, p, x, rfl, Rr, ex, fun H' L' G => ⟨(by show 1 ≤ sizeLine; decide), fun q nq => GivesAt.one k ((R.lift er G key.1 key.2).del t) nq⟩⟩
    | unread p' f' k' =>
      cases h3
      have k1 : GivesAt A (del H t) L m (setRm m f kk r) [((Kcs8.unread r x : Nat) : Int)] Q := k
      rw [setRm_same er] at k1
      iterate 3 refine ⟨_, rfl, rfl, _, rfl, if_false_of rfl ?_⟩
      refine ⟨_, rfl, rfl, _, rfl, if_true_of rfl ?_⟩
      exact ⟨_, rfl, _, rfl, L.rm f kk, r, p, x, rfl, Rr, ex, fun H' S => ⟨(by show 1 ≤ sizeLine; decide), fun q nq => k1.one (same.same S) nq⟩⟩
    | invite p' f' k' v =>
      cases h3
      iterate 4 refine ⟨_, rfl, rfl, _, rfl, if_false_of rfl ?_⟩
      refine ⟨_, rfl, rfl, _, rfl, if_true_of rfl ?_⟩
      refine if_true_of rfl ?_
      exact ⟨_, rfl, _, rfl, _, rfl, _, rfl, _, _, _, _, rfl, rfl, SqL.of hg, rfl, L.rm f kk, r, x, p, f, kk, v, _, rfl, .inl rfl, hf, Rr, ex, fun H' L' G => ⟨(by show 1 ≤ sizeLine; decide), fun q nq => GivesAt.one k ((R.lift er G key.1 key.2).del t) nq⟩⟩
    | out p' f' k' v =>
      cases h3
      iterate 5 refine ⟨_, rfl, rfl, _, rfl, if_false_of rfl ?_⟩
      refine ⟨_, rfl, rfl, _, rfl, if_true_of rfl ?_⟩
      refine if_true_of rfl ?_
      exact ⟨_, rfl, _, rfl, _, rfl, _, rfl, _, _, _, _, rfl, rfl, SqL.of hg, rfl, L.rm f kk, r, x, p, f, kk, v, _, rfl, .inr (.inl rfl), hf, Rr, ex, fun H' L' G => ⟨(by show 1 ≤ sizeLine; decide), fun q nq => GivesAt.one k ((R.lift er G key.1 key.2).del t) nq⟩⟩
    | lift p' f' k' v =>
      cases h3
      iterate 6 refine ⟨_, rfl, rfl, _, rfl, if_false_of rfl ?_⟩
      refine ⟨_, rfl, rfl, _, rfl, if_true_of rfl ?_⟩
      refine if_true_of rfl ?_
      exact ⟨_, rfl, _, rfl, _, rfl, _, rfl, _, _, _, _, rfl, rfl, SqL.of hg, rfl, L.rm f kk, r, x, p, f, kk, v, _, rfl, .inr (.inr (.inl rfl)), hf, Rr, ex, fun H' L' G => ⟨(by show 1 ≤ sizeLine; decide), fun q nq => GivesAt.one k ((R.lift er G key.1 key.2).del t) nq⟩⟩
    | past p' f' k' v =>
      cases h3
      iterate 7 refine ⟨_, rfl, rfl, _, rfl, if_false_of rfl ?_⟩
      refine ⟨_, rfl, rfl, _, rfl, if_true_of rfl ?_⟩
      exact ⟨_, rfl, _, rfl, _, rfl, _, rfl, _, _, _, _, rfl, rfl, SqL.of hg, rfl, L.rm f kk, r, x, p, f, kk, v, _, rfl, .inr (.inr (.inr rfl)), hf, Rr, ex, fun H' L' G => ⟨(by show 1 ≤ sizeLine; decide), fun q nq => GivesAt.one k ((R.lift er G key.1 key.2).del t) nq⟩⟩
    | mark p' f' k' n j =>
      cases h3
      iterate 8 refine ⟨_, rfl, rfl, _, rfl, if_false_of rfl ?_⟩
      refine ⟨_, rfl, rfl, _, rfl, if_true_of rfl ?_⟩
      exact ⟨_, rfl, _, rfl, _, rfl, _, _, _, _, rfl, rfl, SqL.of hg, rfl, _, rfl, _, _, _, _, rfl, rfl, SqL.of hg, rfl, L.rm f kk, r, p, n, j, x, rfl, p16, of_decide_eq_true hf, Rr, ex, fun H' L' G => ⟨(by show 1 ≤ sizeLine; decide), fun q nq => GivesAt.one k ((R.lift er G key.1 key.2).del t) nq⟩⟩
    | say p' f' k' n l =>
      cases h3
      iterate 9 refine ⟨_, rfl, rfl, _, rfl, if_false_of rfl ?_⟩
      exact ⟨_, rfl, _, rfl, _, rfl, _, rfl, _, _, _, _, rfl, rfl, SqL.of hg, rfl, _, rfl, L.rm f kk, r, x, p, f, kk, n, l, _, t, rfl, .inl rfl, hf, Rr, ex, ht, HouseOk.out er nt, fun H' L' G => ⟨(by show 1 ≤ sizeLine; decide), fun q nq => GivesAt.one k ((R.del nt).lift er G key.1 key.2) nq⟩⟩
    | change p' f' k' n l =>
      cases h3
      iterate 9 refine ⟨_, rfl, rfl, _, rfl, if_false_of rfl ?_⟩
      exact ⟨_, rfl, _, rfl, _, rfl, _, rfl, _, _, _, _, rfl, rfl, SqL.of hg, rfl, _, rfl, L.rm f kk, r, x, p, f, kk, n, l, _, t, rfl, .inr (.inl rfl), hf, Rr, ex, ht, HouseOk.out er nt, fun H' L' G => ⟨(by show 1 ≤ sizeLine; decide), fun q nq => GivesAt.one k ((R.del nt).lift er G key.1 key.2) nq⟩⟩
    | remove p' f' k' n =>
      cases h3
      iterate 9 refine ⟨_, rfl, rfl, _, rfl, if_false_of rfl ?_⟩
      exact ⟨_, rfl, _, rfl, _, rfl, _, rfl, _, _, _, _, rfl, rfl, SqL.of hg, rfl, _, rfl, L.rm f kk, r, x, p, f, kk, n, [], _, t, rfl, .inr (.inr (.inl rfl)), hf, Rr, ex, ht, HouseOk.out er nt, fun H' L' G => ⟨(by show 1 ≤ sizeLine; decide), fun q nq => GivesAt.one k ((R.del nt).lift er G key.1 key.2) nq⟩⟩
    | seen p' f' k' n =>
      cases h3
      iterate 9 refine ⟨_, rfl, rfl, _, rfl, if_false_of rfl ?_⟩
      exact ⟨_, rfl, _, rfl, _, rfl, _, rfl, _, _, _, _, rfl, rfl, SqL.of hg, rfl, _, rfl, L.rm f kk, r, x, p, f, kk, n, [], _, t, rfl, .inr (.inr (.inr rfl)), hf, Rr, ex, ht, HouseOk.out er nt, fun H' L' G => ⟨(by show 1 ≤ sizeLine; decide), fun q nq => GivesAt.one k ((R.del nt).lift er G key.1 key.2) nq⟩⟩
end TR
namespace TR
open PySem PySem.Spec PyProof.Rows L2

def sp_is_invalid (K : PySem.W.Frag) (A : Ad) : Sp := fun vs H Q _ => ∃ (d : Kcs8.Call) (g t : Addr) (p : Nat), vs = [.int (numC d), .ref g, .ref t] ∧ Kcs8.caller d = some p ∧
  H g = some (.lst (vN (argsC d))) ∧ H t = some (.lst (vN ((rowC d).getD []))) ∧ ∀ H', Same H H' → Q (.bl (decide (16 ≤ p) || !Kcs8.fair d)) H'
theorem ok_is_invalid {P : Program} {w : World} {K : PySem.W.Frag} {mg : Str → Option Value} {base : Heap} {A : Ad} (T : Txt K mg A) (O_is_word : Ok P w K mg base 2 A.is_word ["word"] (sp_is_word K A)) (O_is_text : Ok P w K mg base 1 A.is_text ["text"] (sp_is_text K A)) : Ok P w K mg base 3 A.is_invalid ["call", "given", "row"] (sp_is_invalid K A) := by
  obtain ⟨fd, F⟩ := T.d_is_invalid
  obtain ⟨fd_is_word, G_is_word, B_is_word⟩ := O_is_word.ex
  obtain ⟨fd_is_text, G_is_text, B_is_text⟩ := O_is_text.ex
  refine ⟨⟨fd, F.ok sc_is_invalid (fun vs H Q E h => ?_) (fun cdv Ar outer s H vs Q E hr h => ?_), F.binds fun _ _ _ _ _ _ us hl => match us, hl with | [_, _, _], _ => rfl⟩, F.kp⟩
  · obtain ⟨d, g, t, p, rfl, hp, hg, ht, k⟩ := h
    rfl
  · obtain ⟨d, g, t, p, rfl, hp, hg, ht, k⟩ := h
    refine ⟨_, (pss_cons (ps_if (pt_cmpR op_ge (pe_ix ix_list (pv 1) pe_int (fun _ _ => rfl)) (pe_glob (v := .int (16)) (by rfl) T.g_PEOPLE ⟨_, rfl⟩) (nomark _)) (pss_one (ps_ret pe_bl)) pss_nil)
      (pss_cons (ps_if (pt_cmpR op_eq (pv 0) (pe_glob (v := .int (1)) (by rfl) T.g_FOUND ⟨_, rfl⟩) (nomark _)) (pss_one (ps_ret (pe_cmpR op_gt (pe_ix ix_list (pv 1) pe_int (fun _ _ => rfl)) pe_int (nomark _)))) pss_nil)
      (pss_cons (ps_if (pt_cmpR op_eq (pv 0) (pe_glob (v := .int (7)) (by rfl) T.g_PAST ⟨_, rfl⟩) (nomark _)) (pss_one (ps_ret (pe_cmpR op_gt (pe_ix ix_list (pv 1) pe_int (fun _ _ => rfl)) pe_int (nomark _)))) pss_nil)
      (pss_cons (ps_if (PW.pt (pw_or (pt_cmpR op_eq (pv 0) (pe_glob (v := .int (8)) (by rfl) T.g_SAY ⟨_, rfl⟩) (nomark _)) (pw_or1 (pt_cmpR op_eq (pv 0) (pe_glob (v := .int (9)) (by rfl) T.g_CHANGE ⟨_, rfl⟩) (nomark _))))) (pss_one (ps_ret (pe_not (pe_call G_is_text (hr.mono (by decide)) (by rfl) T.g_is_text O_is_text.kp B_is_text .nil pass0 (pa_cons (pv 2) pa_nil))))) pss_nil)
      (pss_cons (ps_if (pt_cmpR op_eq (pv 0) (pe_glob (v := .int (17)) (by rfl) T.g_FIND ⟨_, rfl⟩) (nomark _)) (pss_one (ps_ret (pe_not (pe_call G_is_word (hr.mono (by decide)) (by rfl) T.g_is_word O_is_word.kp B_is_word .nil pass0 (pa_cons (pv 2) pa_nil))))) pss_nil)
      (pss_cons (ps_if (pt_cmpR op_eq (pv 0) (pe_glob (v := .int (11)) (by rfl) T.g_MARK ⟨_, rfl⟩) (nomark _)) (pss_one (ps_ret (pe_cmpR op_ge (pe_ix ix_list (pv 1) pe_int (fun _ _ => rfl)) (pe_glob (v := .int (16)) (by rfl) T.g_KINDS ⟨_, rfl⟩) (nomark _)))) pss_nil)
      (pss_cons (ps_if (PW.pt (pw_or (pt_cmpR op_eq (pv 0) (pe_glob (v := .int (2)) (by rfl) T.g_INVITE ⟨_, rfl⟩) (nomark _)) (pw_or (pt_cmpR op_eq (pv 0) (pe_glob (v := .int (5)) (by rfl) T.g_OUT ⟨_, rfl⟩) (nomark _)) (pw_or1 (pt_cmpR op_eq (pv 0) (pe_glob (v := .int (6)) (by rfl) T.g_LIFT ⟨_, rfl⟩) (nomark _)))))) (pss_one (ps_ret (pe_cmpR op_ge (pe_ix ix_list (pv 1) pe_int (fun _ _ => rfl)) (pe_glob (v := .int (16)) (by rfl) T.g_PEOPLE ⟨_, rfl⟩) (nomark _)))) pss_nil)
      (pss_one (ps_ret pe_bl))))))))), ?_⟩
    have a0 : atI (vN (argsC d)) 0 = some (.int (p : Nat)) := by
      cases d <;> first | (cases hp; rfl) | (cases hp)
    refine ⟨_, rfl, _, _, _, _, rfl, rfl, SqL.of hg, a0, _, _, rfl, rfl, _, rfl, ?_⟩
    by_cases c : 16 ≤ p
    · rw [decide_eq_true c, Bool.true_or] at k
      exact if_true_of (decide_eq_true (by omega)) (k H (Same.refl H))
    refine if_false_of (decide_eq_false (by omega)) ?_
    rw [decide_eq_false c, Bool.false_or] at k
    have k0 := k H (Same.refl H)
    cases d with
    | begin_ => cases hp
    | found p b =>
      refine ⟨_, rfl, rfl, _, rfl, if_true_of rfl ?_⟩
      refine ⟨_, rfl, _, _, _, _, rfl, rfl, SqL.of hg, rfl, _, _, rfl, rfl, ?_⟩
      have e : (!Kcs8.fair (.found p b)) = decide ((1 : Int) < (b : Int)) := by
        show (!decide (b ≤ 1)) = _
        rw [← decide_not]
        exact decide_eq_decide.mpr (by omega)
      rw [e] at k0
      exact k0
    | past p f kk b =>
      refine ⟨_, rfl, rfl, _, rfl, if_false_of rfl ?_⟩
      refine ⟨_, rfl, rfl, _, rfl, if_true_of rfl ?_⟩
      refine ⟨_, rfl, _, _, _, _, rfl, rfl, SqL.of hg, rfl, _, _, rfl, rfl, ?_⟩
      have e : (!Kcs8.fair (.past p f kk b)) = decide ((1 : Int) < (b : Int)) := by
        show (!decide (b ≤ 1)) = _
        rw [← decide_not]
        exact decide_eq_decide.mpr (by omega)
      rw [e] at k0
      exact k0
    | say p f kk n tt =>
      iterate 2 refine ⟨_, rfl, rfl, _, rfl, if_false_of rfl ?_⟩
      refine ⟨_, rfl, rfl, _, rfl, if_true_of rfl ?_⟩
      exact if_true_of rfl ⟨_, rfl, t, tt, rfl, SqL.of ht, fun H' S => ⟨_, rfl, k H' S⟩⟩
    | change p f kk n tt =>
      iterate 3 refine ⟨_, rfl, rfl, _, rfl, if_false_of rfl ?_⟩
      refine ⟨_, rfl, rfl, _, rfl, if_true_of rfl ?_⟩
      exact ⟨_, rfl, t, tt, rfl, SqL.of ht, fun H' S => ⟨_, rfl, k H' S⟩⟩
    | find p w j =>
      iterate 4 refine ⟨_, rfl, rfl, _, rfl, if_false_of rfl ?_⟩
      refine ⟨_, rfl, rfl, _, rfl, if_true_of rfl ?_⟩
      exact ⟨_, rfl, t, w, rfl, SqL.of ht, fun H' S => ⟨_, rfl, k H' S⟩⟩
    | mark p f kk n j =>
      iterate 5 refine ⟨_, rfl, rfl, _, rfl, if_false_of rfl ?_⟩
      refine ⟨_, rfl, rfl, _, rfl, if_true_of rfl ?_⟩
      refine ⟨_, rfl, _, _, _, _, rfl, rfl, SqL.of hg, rfl, _, _, rfl, rfl, ?_⟩
      have e : (!Kcs8.fair (.mark p f kk n j)) = decide ((16 : Int) ≤ (j : Int)) := by
        show (!decide (j < 16)) = _
        rw [← decide_not]
        exact decide_eq_decide.mpr (by omega)
      rw [e] at k0
      exact k0
    | invite p f kk q =>
      iterate 6 refine ⟨_, rfl, rfl, _, rfl, if_false_of rfl ?_⟩
      refine ⟨_, rfl, rfl, _, rfl, if_true_of rfl ?_⟩
      refine if_true_of rfl ?_
      refine ⟨_, rfl, _, _, _, _, rfl, rfl, SqL.of hg, rfl, _, _, rfl, rfl, ?_⟩
      have e : (!Kcs8.fair (.invite p f kk q)) = decide ((16 : Int) ≤ (q : Int)) := by
        show (!decide (q < 16)) = _
        rw [← decide_not]
        exact decide_eq_decide.mpr (by omega)
      rw [e] at k0
      exact k0
    | out p f kk q =>
      iterate 7 refine ⟨_, rfl, rfl, _, rfl, if_false_of rfl ?_⟩
      refine ⟨_, rfl, rfl, _, rfl, if_true_of rfl ?_⟩
      refine if_true_of rfl ?_
      refine ⟨_, rfl, _, _, _, _, rfl, rfl, SqL.of hg, rfl, _, _, rfl, rfl, ?_⟩
      have e : (!Kcs8.fair (.out p f kk q)) = decide ((16 : Int) ≤ (q : Int)) := by
        show (!decide (q < 16)) = _
        rw [← decide_not]
        exact decide_eq_decide.mpr (by omega)
      rw [e] at k0
      exact k0
    | lift p f kk q =>
      iterate 8 refine ⟨_, rfl, rfl, _, rfl, if_false_of rfl ?_⟩
      refine ⟨_, rfl, rfl, _, rfl, if_true_of rfl ?_⟩
      refine ⟨_, rfl, _, _, _, _, rfl, rfl, SqL.of hg, rfl, _, _, rfl, rfl, ?_⟩
      have e : (!Kcs8.fair (.lift p f kk q)) = decide ((16 : Int) ≤ (q : Int)) := by
        show (!decide (q < 16)) = _
        rw [← decide_not]
        exact decide_eq_decide.mpr (by omega)
      rw [e] at k0
      exact k0
    | _ =>
      iterate 9 refine ⟨_, rfl, rfl, _, rfl, if_false_of rfl ?_⟩
      exact k0
end TR
namespace TR
open PySem PySem.Spec PyProof.Rows L2
theorem stepM_bad {m : M} {d : Kcs8.Call} {p : Nat} (hp : Kcs8.caller d = some p) (h : (decide (16 ≤ p) || !Kcs8.fair d) = true) : stepM m d = (m, .num (-22)) := by
  unfold stepM
  rw [hp]
  show (if 16 ≤ p ∨ Kcs8.fair d = false then _ else _) = _
  rw [if_pos]
  rw [Bool.or_eq_true, decide_eq_true_eq] at h
  exact h.imp id fun z => by simpa using z
theorem stepM_good {m : M} {d : Kcs8.Call} {p : Nat} (hp : Kcs8.caller d = some p) (h : (decide (16 ≤ p) || !Kcs8.fair d) = false) : stepM m d = doesM m d ∧ p < 16 ∧ Kcs8.fair d = true := by
  rw [Bool.or_eq_false_iff, decide_eq_false_iff_not] at h
  have hf : Kcs8.fair d = true := by simpa using h.2
  refine ⟨?_, by omega, hf⟩
  unfold stepM
  rw [hp]
  show (if 16 ≤ p ∨ Kcs8.fair d = false then _ else _) = _
  rw [if_neg]
  rintro (z | z)
  · exact h.1 z
  · rw [hf] at z
    cases z
/-- what kind of call it is -/
theorem call_kind {d : Kcs8.Call} {p : Nat} (hp : Kcs8.caller d = some p) : (∃ b, d = .found p b) ∨ (∃ j, d = .rooms p j) ∨ (∃ w j, d = .find p w j) ∨ (numC d ≠ 1 ∧ numC d ≠ 15 ∧ numC d ≠ 17 ∧ ∃ f k, (argsC d).take 3 = [p, f, k]) := by
  cases d with
  | begin_ => cases hp
  | found p' b => cases hp; exact .inl ⟨b, rfl⟩
  | rooms p' j => cases hp; exact .inr (.inl ⟨j, rfl⟩)
  | find p' w j => cases hp; exact .inr (.inr (.inl ⟨w, j, rfl⟩))
  | _ =>
    cases hp
    exact .inr (.inr (.inr ⟨by simp [numC], by simp [numC], by simp [numC], _, _, rfl⟩))
def sp_answer_to (K : PySem.W.Frag) (A : Ad) : Sp := fun vs H Q _ => ∃ (L : HL) (m : M) (d : Kcs8.Call) (g t : Addr), vs = [.ref (L.a .house), .int (numC d), .ref g, .ref t] ∧ HouseOk A H L m ∧
  H g = some (.lst (vN (argsC d))) ∧ H t = some (.lst (vN ((rowC d).getD []))) ∧ ¬ Own L.a (houseC A L m) t ∧ GivesAt A (del H t) L m (stepM m d).1 (Kcs8Neutral.told (stepM m d).2) Q
theorem ok_answer_to {P : Program} {w : World} {K : PySem.W.Frag} {mg : Str → Option Value} {base : Heap} {A : Ad} (T : Txt K mg A) (O_answer_in_room : Ok P w K mg base 7 A.answer_in_room ["house", "call", "given", "row"] (sp_answer_in_room K A)) (O_kth_found : Ok P w K mg base 3 A.kth_found ["house", "p", "word", "k"] (sp_kth_found K A)) (O_kth_room : Ok P w K mg base 4 A.kth_room ["house", "p", "k"] (sp_kth_room K A)) (O_found : Ok P w K mg base 4 A.found ["house", "p", "past"] (sp_found K A)) (O_is_invalid : Ok P w K mg base 3 A.is_invalid ["call", "given", "row"] (sp_is_invalid K A)) (O_House_begin : Ok P w K mg base 1 A.House_begin ["self"] (sp_House_begin K A)) : Ok P w K mg base 8 A.answer_to ["house", "call", "given", "row"] (sp_answer_to K A) := by
  obtain ⟨fd, F⟩ := T.d_answer_to
  obtain ⟨fd_answer_in_room, G_answer_in_room, B_answer_in_room⟩ := O_answer_in_room.ex
  obtain ⟨fd_kth_found, G_kth_found, B_kth_found⟩ := O_kth_found.ex
  obtain ⟨fd_kth_room, G_kth_room, B_kth_room⟩ := O_kth_room.ex
  obtain ⟨fd_found, G_found, B_found⟩ := O_found.ex
  obtain ⟨fd_is_invalid, G_is_invalid, B_is_invalid⟩ := O_is_invalid.ex
  obtain ⟨fd_House_begin, G_House_begin, B_House_begin⟩ := O_House_begin.ex
  refine ⟨⟨fd, F.ok sc_answer_to (fun vs H Q E h => ?_) (fun cdv Ar outer s H vs Q E hr h => ?_), F.binds fun _ _ _ _ _ _ us hl => match us, hl with | [_, _, _, _], _ => rfl⟩, F.kp⟩
  · obtain ⟨L, m, d, g, t, rfl, R, hg, ht, nt, k⟩ := h
    rfl
  · obtain ⟨L, m, d, g, t, rfl, R, hg, ht, nt, k⟩ := h
    refine ⟨_, (pss_cons (ps_if (pt_cmpR op_eq (pv 1) (pe_glob (v := .int (0)) (by rfl) T.g_BEGIN ⟨_, rfl⟩) (nomark _)) (pss_cons (ps_expr (pe_meth0 (pv 0) T.cl_House T.me_House_begin G_House_begin (hr.mono (by decide)) B_House_begin .nil pass0))
      (pss_one (ps_ret (pe_lst (pa_cons pe_int pa_nil))))) pss_nil)
      (pss_cons (ps_if (pt_val (pe_call G_is_invalid (hr.mono (by decide)) (by rfl) T.g_is_invalid O_is_invalid.kp B_is_invalid .nil pass0 (pa_cons (pv 1) (pa_cons (pv 2) (pa_cons (pv 3) pa_nil))))) (pss_one (ps_ret (pe_lst (pa_cons (pe_glob (v := .int (-22)) (by rfl) T.g_INVALID ⟨_, rfl⟩) pa_nil)))) pss_nil)
      (pss_cons (ps_if (pt_cmpR op_eq (pv 1) (pe_glob (v := .int (1)) (by rfl) T.g_FOUND ⟨_, rfl⟩) (nomark _)) (pss_one (ps_ret (pe_lst (pa_cons (pe_call G_found (hr.mono (by decide)) (by rfl) T.g_found O_found.kp B_found .nil pass0 (pa_cons (pv 0) (pa_cons (pe_ix ix_list (pv 2) pe_int (fun _ _ => rfl)) (pa_cons (pe_ix ix_list (pv 2) pe_int (fun _ _ => rfl)) pa_nil)))) pa_nil)))) pss_nil)
      (pss_cons (ps_if (pt_cmpR op_eq (pv 1) (pe_glob (v := .int (15)) (by rfl) T.g_KTH_ROOM ⟨_, rfl⟩) (nomark _)) (pss_one (ps_ret (pe_call G_kth_room (hr.mono (by decide)) (by rfl) T.g_kth_room O_kth_room.kp B_kth_room .nil pass0 (pa_cons (pv 0) (pa_cons (pe_ix ix_list (pv 2) pe_int (fun _ _ => rfl)) (pa_cons (pe_ix ix_list (pv 2) pe_int (fun _ _ => rfl)) pa_nil)))))) pss_nil)
      (pss_cons (ps_if (pt_cmpR op_eq (pv 1) (pe_glob (v := .int (17)) (by rfl) T.g_FIND ⟨_, rfl⟩) (nomark _)) (pss_one (ps_ret (pe_call G_kth_found (hr.mono (by decide)) (by rfl) T.g_kth_found O_kth_found.kp B_kth_found .nil pass0 (pa_cons (pv 0) (pa_cons (pe_ix ix_list (pv 2) pe_int (fun _ _ => rfl)) (pa_cons (pv 3) (pa_cons (pe_ix ix_list (pv 2) pe_int (fun _ _ => rfl)) pa_nil))))))) pss_nil)
      (pss_one (ps_ret (pe_call G_answer_in_room (hr.mono (by decide)) (by rfl) T.g_answer_in_room O_answer_in_room.kp B_answer_in_room .nil pass0 (pa_cons (pv 0) (pa_cons (pv 1) (pa_cons (pv 2) (pa_cons (pv 3) pa_nil)))))))))))), ?_⟩
    refine ⟨_, rfl, rfl, _, rfl, ?_⟩
    by_cases c0 : numC d = 0
    · have e : d = .begin_ := by cases d <;> first | rfl | (simp [numC] at c0)
      subst e
      refine if_true_of rfl ?_
      refine ⟨_, rfl, _, _, _, rfl, R.house, houseF_no (by decide +kernel), _, _, _, rfl, R.house, fun H' L' e R' fr => ?_⟩
      have G : HouseGoes A H L m H' L' m0 := ⟨e, R', fun b o h n => (fr b o h fun q => n ⟨.house, _, rfl, q.symm⟩).1, fun b z => by
        by_cases c : b = L.a .house
        · exact .inl ⟨.house, _, rfl, c.symm⟩
        · cases h : H b with
          | none => exact .inr rfl
          | some o => exact absurd z (fr b o h c).2⟩
      exact ⟨(by show 1 ≤ sizeLine; decide), fun q nq => GivesAt.one k (G.del t) nq⟩
    obtain ⟨p, hp⟩ : ∃ p, Kcs8.caller d = some p := by
      cases d <;> first | exact ⟨_, rfl⟩ | exact absurd rfl c0
    refine if_false_of (decide_eq_false fun z => c0 (by injection z with z; exact Int.ofNat.inj z)) ?_
    refine ⟨_, rfl, _, rfl, _, rfl, d, g, t, p, rfl, hp, hg, ht, fun H1 S => ⟨_, rfl, ?_⟩⟩
    have R1 : HouseOk A H1 L m := R.same S
    have same : HouseGoes A (del H t) L m H1 L m := ((HouseGoes.refl R).del t).same S
    cases cb : (decide (16 ≤ p) || !Kcs8.fair d) with
    | true =>
      have e := stepM_bad (m := m) hp cb
      rw [e] at k
      exact if_true_of rfl ⟨(by show 1 ≤ sizeLine; decide), fun q nq => GivesAt.one k same nq⟩
    | false =>
      obtain ⟨e, p16, hf⟩ := stepM_good (m := m) hp cb
      rw [e] at k
      refine if_false_of rfl ?_
      have hg1 := S _ _ hg
      have ht1 := S _ _ ht
      have base : ∀ {H' L' m'}, HouseGoes A (del H1 t) L m H' L' m' → HouseGoes A (del H t) L m H' L' m' := fun G => HouseGoes.from (R.del nt) (fun b o h => by
        by_cases c : b = t
        · rw [c, del_same] at h
          cases h
        · rw [del_ne c] at h ⊢
          exact S b o h) G
      rcases call_kind hp with ⟨b, rfl⟩ | ⟨j, rfl⟩ | ⟨w, j, rfl⟩ | ⟨n1, n15, n17, f, kk, h3⟩
      · refine ⟨_, rfl, rfl, _, rfl, if_true_of rfl ?_⟩
        obtain ⟨row, hrow⟩ : ∃ row, m[p]? = some row := ⟨_, List.getElem?_eq_getElem (by rw [R.wf.wf.len]; exact p16)⟩
        have hb : b ≤ 1 := of_decide_eq_true hf
        have eb : (b : Int) = b2i' (b == 1) := by
          rcases Nat.le_one_iff_eq_zero_or_eq_one.mp hb with h | h <;> rw [h] <;> rfl
        have ed := doesM_found (b := b) hrow
        rw [ed] at k
        refine ⟨_, rfl, _, rfl, _, _, _, _, rfl, rfl, SqL.of hg1, rfl, _, rfl, _, _, _, _, rfl, rfl, SqL.of hg1, rfl, L, m, p, b == 1, row, ?_, R1, hrow, fun c => ?_, fun c H' L' G => ?_⟩
        · show [V.ref (L.a .house), V.int (p : Nat), V.int (b : Nat)] = _
          rw [eb]
        · rw [if_pos c] at k
          exact ⟨(by show 1 ≤ sizeLine; decide), fun q nq => GivesAt.one k same nq⟩
        · rw [if_neg (by omega)] at k
          exact ⟨(by show 1 ≤ sizeLine; decide), fun q nq => GivesAt.one k (base (G.del t)) nq⟩
      · refine ⟨_, rfl, rfl, _, rfl, if_false_of rfl ?_⟩
        refine ⟨_, rfl, rfl, _, rfl, if_true_of rfl ?_⟩
        exact ⟨_, rfl, _, rfl, _, _, _, _, rfl, rfl, SqL.of hg1, rfl, _, rfl, _, _, _, _, rfl, rfl, SqL.of hg1, rfl, L, m, p, j, rfl, R1, GivesAt.read k same⟩
      · iterate 2 refine ⟨_, rfl, rfl, _, rfl, if_false_of rfl ?_⟩
        refine ⟨_, rfl, rfl, _, rfl, if_true_of rfl ?_⟩
        exact ⟨_, rfl, _, rfl, _, _, _, _, rfl, rfl, SqL.of hg1, rfl, _, rfl, _, rfl, _, _, _, _, rfl, rfl, SqL.of hg1, rfl, L, m, p, j, t, w, rfl, R1, SqL.of ht1, Nat.le_trans (isWord_len hf) (by decide), GivesAt.read k same⟩
      · have no : ∀ {n : Nat}, numC d ≠ n → decide (V.int ((numC d : Nat) : Int) = V.int ((n : Nat) : Int)) = false := fun h => decide_eq_false fun z => h (by injection z with z; exact Int.ofNat.inj z)
        refine ⟨_, rfl, rfl, _, rfl, if_false_of (no n1) ⟨_, rfl, rfl, _, rfl, if_false_of (no n15) ⟨_, rfl, rfl, _, rfl, if_false_of (no n17) ?_⟩⟩⟩
        exact ⟨_, rfl, _, rfl, _, rfl, _, rfl, L, m, d, g, t, p, f, kk, rfl, hp, h3, p16, hf, R1, hg1, ht1, nt, fun H2 H' L' q G nq S2 hq => k H2 H' L' q (base G) nq S2 hq⟩
end TR
namespace TR
open PySem PySem.Spec PyProof.Rows L2
theorem nums_at (d : Kcs8.Call) : atI (([0, 2, 4, 3, 3, 4, 4, 4, 4, 4, 4, 5, 4, 4, 3, 2, 4, 2] : List Int).map V.int) ((numC d : Nat) : Int) = some (.int ((argsC d).length : Nat)) := by
  cases d <;> rfl
theorem row_at (d : Kcs8.Call) : (∃ t, rowC d = some t ∧ (((numC d : Nat) : Int) = 8 ∨ ((numC d : Nat) : Int) = 9 ∨ ((numC d : Nat) : Int) = 17)) ∨ (((numC d : Nat) : Int) ≠ 8 ∧ ((numC d : Nat) : Int) ≠ 9 ∧ ((numC d : Nat) : Int) ≠ 17 ∧ rowC d = none) := by
  cases d with
  | say p f k n t => exact .inl ⟨t, rfl, .inl rfl⟩
  | change p f k n t => exact .inl ⟨t, rfl, .inr (.inl rfl)⟩
  | find p w j => exact .inl ⟨w, rfl, .inr (.inr rfl)⟩
  | _ => exact .inr ⟨by simp [numC], by simp [numC], by simp [numC], rfl⟩
theorem told_pos (a : Kcs8.Ans) : 1 ≤ (Kcs8Neutral.told a).length := by
  cases a <;> simp [Kcs8Neutral.told]
theorem or3_yes {σ : L2.St} {H : Hp} {Q : Bool → Hp → Prop} {i : Nat} {n a b c : Int} (hσ : σ[i]? = some (some (.int n))) (h : n = a ∨ n = b ∨ n = c) (hQ : Q true H) :
    tOr (tTest (tOp rEq (tVar i) (tC (.int a)))) (tOr (tTest (tOp rEq (tVar i) (tC (.int b)))) (tTest (tOp rEq (tVar i) (tC (.int c))))) σ H Q := by
  by_cases ha : n = a
  · exact ⟨_, hσ, rfl, _, rfl, if_true_of (decide_eq_true (by rw [ha])) hQ⟩
  · refine ⟨_, hσ, rfl, _, rfl, if_false_of (decide_eq_false fun z => ha (by injection z)) ?_⟩
    by_cases hb : n = b
    · exact ⟨_, hσ, rfl, _, rfl, if_true_of (decide_eq_true (by rw [hb])) hQ⟩
    · refine ⟨_, hσ, rfl, _, rfl, if_false_of (decide_eq_false fun z => hb (by injection z)) ⟨_, hσ, rfl, _, rfl, ?_⟩⟩
      have hc : n = c := h.resolve_left ha |>.resolve_left hb
      rw [decide_eq_true (show V.int n = V.int c by rw [hc])]
      exact hQ
theorem or3_no {σ : L2.St} {H : Hp} {Q : Bool → Hp → Prop} {i : Nat} {n a b c : Int} (hσ : σ[i]? = some (some (.int n))) (ha : n ≠ a) (hb : n ≠ b) (hc : n ≠ c) (hQ : Q false H) :
    tOr (tTest (tOp rEq (tVar i) (tC (.int a)))) (tOr (tTest (tOp rEq (tVar i) (tC (.int b)))) (tTest (tOp rEq (tVar i) (tC (.int c))))) σ H Q := by
  refine ⟨_, hσ, rfl, _, rfl, if_false_of (decide_eq_false fun z => ha (by injection z)) ⟨_, hσ, rfl, _, rfl, if_false_of (decide_eq_false fun z => hb (by injection z)) ⟨_, hσ, rfl, _, rfl, ?_⟩⟩⟩
  rw [decide_eq_false (show ¬ V.int n = V.int c from fun z => hc (by injection z))]
  exact hQ
def sp_answers (K : PySem.W.Frag) (A : Ad) : Sp := fun vs H Q _ => ∃ (a : Addr) (ds : List Kcs8.Call), vs = [.ref a] ∧ SqL K H a (flatCs ds) ∧ (PyFlat.told (runM m0 ds)).length ≤ 10000000 ∧
  ∀ (H' : Hp) (p : Addr), H' p = some (.lst (vI (PyFlat.told (runM m0 ds)))) → Q (.ref p) H'
theorem okF_answers {P : Program} {w : World} {K : PySem.W.Frag} {mg : Str → Option Value} {base : Heap} {A : Ad} (T : Txt K mg A) (O_answer_to : Ok P w K mg base 8 A.answer_to ["house", "call", "given", "row"] (sp_answer_to K A)) (O_House_init : Ok P w K mg base 2 A.House_init ["self"] (sp_House_init K A)) {fd : FuncData} (F : Fun K "answers" "answers" s_answers A.answers fd) : FnOk P w K mg base CX0 9 A.answers fd ["calls"] (sp_answers K A) := by
  obtain ⟨fd_answer_to, G_answer_to, B_answer_to⟩ := O_answer_to.ex
  obtain ⟨fd_House_init, G_House_init, B_House_init⟩ := O_House_init.ex
  refine F.ok sc_answers (fun vs H Q E h => ?_) (fun cdv Ar outer s H vs Q E hr h => ?_)
  · obtain ⟨a, ds, rfl, hS, hlen, k⟩ := h
    rfl
  · obtain ⟨a, ds, rfl, hS, hlen, k⟩ := h
    refine ⟨_, (pss_cons (ps_set (i := 1) sc_answers.nd rfl (by first | exact Or.inl rfl | exact Or.inr rfl) (pe_make0 T.mk_House G_House_init (hr.mono (by decide)) (by rfl) T.g_House B_House_init .nil pass0))
      (pss_cons (ps_set (i := 2) sc_answers.nd rfl (by first | exact Or.inl rfl | exact Or.inr rfl) (pe_lst pa_nil))
      (pss_cons (ps_set (i := 3) sc_answers.nd rfl (by first | exact Or.inl rfl | exact Or.inr rfl) pe_int)
      (pss_cons (ps_while PassesOwn.never (pt_cmpR op_lt (pv 3) (pe_callB call_len_seq (by rfl) T.b_len (by decide +kernel) (pa_cons (pv 0) pa_nil)) (nomark _))
        (pss_cons (ps_set (i := 4) sc_answers.nd rfl (by first | exact Or.inl rfl | exact Or.inr rfl) (pe_ix ix_list (pv 0) (pv 3) (fun _ _ => rfl)))
      (pss_cons (ps_set (i := 5) sc_answers.nd rfl (by first | exact Or.inl rfl | exact Or.inr rfl) (pe_op op_add (pe_op op_add (pv 3) pe_int) (pe_ix ix_tup (pe_glob (v := .ref A.NUMBERS) (by rfl) T.g_NUMBERS rfl) (pv 4) (fun _ _ => rfl))))
      (pss_cons (ps_set (i := 6) sc_answers.nd rfl (by first | exact Or.inl rfl | exact Or.inr rfl) (pe_slice sl_list (pv 0) (po_some (pe_op op_add (pv 3) pe_int)) (po_some (pv 5))))
      (pss_cons (ps_set (i := 7) sc_answers.nd rfl (by first | exact Or.inl rfl | exact Or.inr rfl) (pe_lst pa_nil))
      (C8.pss_cut (ps_if (PW.pt (pw_or (pt_cmpR op_eq (pv 4) (pe_glob (v := .int (8)) (by rfl) T.g_SAY ⟨_, rfl⟩) (nomark _)) (pw_or (pt_cmpR op_eq (pv 4) (pe_glob (v := .int (9)) (by rfl) T.g_CHANGE ⟨_, rfl⟩) (nomark _)) (pw_or1 (pt_cmpR op_eq (pv 4) (pe_glob (v := .int (17)) (by rfl) T.g_FIND ⟨_, rfl⟩) (nomark _)))))) (pss_cons (ps_set (i := 7) sc_answers.nd rfl (by first | exact Or.inl rfl | exact Or.inr rfl) (pe_slice sl_list (pv 0) (po_some (pe_op op_add (pv 5) pe_int)) (po_some (pe_op op_add (pe_op op_add (pv 5) pe_int) (pe_ix ix_list (pv 0) (pv 5) (fun _ _ => rfl))))))
      (pss_one (ps_set (i := 5) sc_answers.nd rfl (by first | exact Or.inl rfl | exact Or.inr rfl) (pe_op op_add (pe_op op_add (pv 5) pe_int) (pe_callB call_len_seq (by rfl) T.b_len (by decide +kernel) (pa_cons (pv 7) pa_nil)))))) pss_nil)
      (pss_cons (ps_set (i := 8) sc_answers.nd rfl (by first | exact Or.inl rfl | exact Or.inr rfl) (pe_call G_answer_to (hr.mono (by decide)) (by rfl) T.g_answer_to O_answer_to.kp B_answer_to .nil pass0 (pa_cons (pv 1) (pa_cons (pv 4) (pa_cons (pv 6) (pa_cons (pv 7) pa_nil))))))
      (pss_cons (ps_expr (pe_bm PySem.F.plainAttrs_list PySem.F.slot_list_append PySem.F.type_list_append mt_append (pv 2) (pa_cons (pe_callB call_len_seq (by rfl) T.b_len (by decide +kernel) (pa_cons (pv 8) pa_nil)) pa_nil)))
      (pss_cons (ps_expr (pe_bm PySem.F.plainAttrs_list PySem.F.slot_list_extend PySem.F.type_list_extend mt_extend (pv 2) (pa_cons (pv 8) pa_nil)))
      (pss_one (ps_set (i := 3) sc_answers.nd rfl (by first | exact Or.inl rfl | exact Or.inr rfl) (pv 5))))))))))))
      (pss_one (ps_ret (pv 2))))))), ?_⟩
    intro x dx nx nd ne
    refine ⟨x, dx, rfl, upd_same, fun H1 L0 e0 R0 fr => ⟨rfl, ?_⟩⟩
    subst e0
    refine ⟨Nat.zero_le _, fun t nt => ?_⟩
    have S0 : ∀ b o, H b = some o → H1 b = some o ∧ ¬ Own L0.a (houseC A L0 m0) b := fun b o e => fr b o (by rw [upd_ne (ne_of_none e nx), upd_ne (ne_of_none e nd)]; exact e) (ne_of_none e nx)
    refine ⟨fun n σ H' => ∃ (done rest : List Kcs8.Call) (L : HL) (v4 v5 v6 v7 v8 : Option V), rest.length = n ∧ ds = done ++ rest ∧ σ = [some (.ref a), some (.ref (L.a .house)), some (.ref t), some (.int ((flatCs done).length : Nat)), v4, v5, v6, v7, v8] ∧
      HouseOk A H' L (endM m0 done) ∧ H' t = some (.lst (vI (PyFlat.told (runM m0 done)))) ∧ ¬ Own L.a (houseC A L (endM m0 done)) t ∧ ∀ b o, H b = some o → H' b = some o ∧ ¬ Own L.a (houseC A L (endM m0 done)) b,
      ⟨_, [], ds, L0, none, none, none, none, none, rfl, rfl, rfl, ⟨R0.reg.same fun y o _ h => by rw [upd_ne (ne_of_none h nt)]; exact h, R0.wf⟩, upd_same, R0.reg.free nt, fun b o e => ⟨by rw [upd_ne (ne_of_none (S0 b o e).1 nt)]; exact (S0 b o e).1, (S0 b o e).2⟩⟩, ?_⟩
    rintro n σ H' ⟨done, rest, L, v4, v5, v6, v7, v8, rfl, rfl, rfl, R, ht, nO, S⟩
    have Sa : SqL K H' a (flatCs (done ++ rest)) := Same.seq (fun b o e => (S b o e).1) hS
    refine ⟨_, rfl, _, rfl, _, _, rfl, .inl Sa, _, _, rfl, rfl, _, rfl, ?_⟩
    rw [flatCs_append] at Sa
    rw [flatCs_append, List.length_append]
    cases rest with
    | nil =>
      refine if_false_of (decide_eq_false (by show ¬ _ < (((flatCs done).length + 0 : Nat) : Int); omega)) ?_
      rw [List.append_nil] at k
      exact ⟨_, rfl, k _ _ ht⟩
    | cons d rest =>
      refine if_true_of (decide_eq_true (by show _ < (((flatCs done).length + (flatC d ++ flatCs rest).length : Nat) : Int); rw [List.length_append]; unfold flatC; rw [List.length_cons]; omega)) ?_
      refine ⟨fun σ' H'' => ∃ (L : HL) (v4 v5 v6 v7 v8 : Option V), σ' = [some (.ref a), some (.ref (L.a .house)), some (.ref t), some (.int ((flatCs (done ++ [d])).length : Nat)), v4, v5, v6, v7, v8] ∧
        HouseOk A H'' L (endM m0 (done ++ [d])) ∧ H'' t = some (.lst (vI (PyFlat.told (runM m0 (done ++ [d]))))) ∧ ¬ Own L.a (houseC A L (endM m0 (done ++ [d]))) t ∧ ∀ b o, H b = some o → H'' b = some o ∧ ¬ Own L.a (houseC A L (endM m0 (done ++ [d]))) b,
        fun σ' H'' ⟨L, v4, v5, v6, v7, v8, h⟩ => ⟨rest.length, Nat.lt_succ_self _, done ++ [d], rest, L, v4, v5, v6, v7, v8, rfl, by rw [List.append_assoc]; rfl, h⟩, ?_⟩
      -- call = calls[place]
      have ef : flatCs (d :: rest) = V.int (numC d) :: (vN (argsC d) ++ (rowV (rowC d) ++ flatCs rest)) := by
        show flatC d ++ flatCs rest = _
        unfold flatC
        rw [List.cons_append, List.append_assoc]
      rw [ef] at Sa
      refine ⟨_, rfl, _, rfl, _, _, _, _, rfl, rfl, Sa, at_mid rfl, ?_⟩
      -- behind = place + 1 + NUMBERS[call]
      refine ⟨_, rfl, _, _, rfl, rfl, _, rfl, _, _, _, _, rfl, rfl, T.q_NUMBERS _, nums_at d, _, _, rfl, rfl, ?_⟩
      -- given = calls[place + 1:behind]
      refine ⟨_, rfl, _, rfl, _, _, rfl, rfl, _, rfl, _, rfl, _, rfl, a, _, rfl, Sa, fun g ng => ?_⟩
      have eg : cutV (flatCs done ++ V.int (numC d) :: (vN (argsC d) ++ (rowV (rowC d) ++ flatCs rest))) (some (((flatCs done).length : Nat) + 1)) (some (((flatCs done).length : Nat) + 1 + ((argsC d).length : Nat))) = vN (argsC d) := by
        have e1 : flatCs done ++ V.int (numC d) :: (vN (argsC d) ++ (rowV (rowC d) ++ flatCs rest)) = (flatCs done ++ [V.int (numC d)]) ++ (vN (argsC d) ++ (rowV (rowC d) ++ flatCs rest)) := by
          rw [List.append_assoc]
          rfl
        rw [e1]
        exact cut_mid (by rw [List.length_append, List.length_singleton]; omega) (by rw [List.length_append, List.length_singleton, vN_length]; omega)
      rw [eg]
      have Hg : ∀ b o, H' b = some o → upd H' g (.lst (vN (argsC d))) b = some o := fun b o e => by rw [upd_ne (ne_of_none e ng)]; exact e
      -- text = []
      refine ⟨Nat.zero_le _, fun tx ntx => ?_⟩
      have hg1 : upd H' g (.lst (vN (argsC d))) g = some (.lst (vN (argsC d))) := upd_same
      have gtx : g ≠ tx := ne_of_none hg1 ntx
      have ntx0 : H' tx = none := by rw [upd_ne gtx.symm] at ntx; exact ntx
      have el : ((flatCs (done ++ [d])).length : Int) = ((flatCs done).length : Nat) + 1 + ((argsC d).length : Nat) + ((rowV (rowC d)).length : Nat) := by
        rw [flatCs_append, List.length_append]
        show (((flatCs done).length + (flatC d ++ []).length : Nat) : Int) = _
        rw [List.append_nil]
        unfold flatC
        rw [List.length_cons, List.length_append, vN_length]
        omega
      have Htx : ∀ b o, H' b = some o → upd (upd H' g (.lst (vN (argsC d)))) tx (.lst []) b = some o := fun b o e => by rw [upd_ne (ne_of_none (Hg b o e) ntx)]; exact Hg b o e
      have hg2 : upd (upd H' g (.lst (vN (argsC d)))) tx (.lst []) g = some (.lst (vN (argsC d))) := by rw [upd_ne gtx]; exact hg1
      refine ⟨fun σ' H2 => ∃ (tx : Addr), σ' = [some (.ref a), some (.ref (L.a .house)), some (.ref t), some (.int ((flatCs done).length : Nat)), some (.int (numC d)), some (.int ((flatCs (done ++ [d])).length : Nat)), some (.ref g), some (.ref tx), v8] ∧
        (∀ b o, H' b = some o → H2 b = some o) ∧ H2 g = some (.lst (vN (argsC d))) ∧ H2 tx = some (.lst (vN ((rowC d).getD []))) ∧ H' tx = none ∧ g ≠ tx, ?_, ?_⟩
      · rcases row_at d with ⟨tt, er, h8⟩ | ⟨n8, n9, n17, er⟩
        · refine or3_yes rfl h8 (if_true_of rfl ?_)
          have Sb : SqL K (upd (upd H' g (.lst (vN (argsC d)))) tx (.lst [])) a ((flatCs done ++ V.int (numC d) :: vN (argsC d)) ++ (V.int (tt.length : Nat) :: (vN tt ++ flatCs rest))) := by
            have e1 : flatCs done ++ V.int (numC d) :: (vN (argsC d) ++ (rowV (rowC d) ++ flatCs rest)) = (flatCs done ++ V.int (numC d) :: vN (argsC d)) ++ (V.int (tt.length : Nat) :: (vN tt ++ flatCs rest)) := by
              rw [er, List.append_assoc]
              rfl
            rw [e1] at Sa
            exact Same.seq (fun b o e => by rw [upd_ne (ne_of_none (Hg b o e) ntx)]; exact Hg b o e) Sa
          have xl : ((flatCs done ++ V.int (numC d) :: vN (argsC d)).length : Int) = ((flatCs done).length : Nat) + 1 + ((argsC d).length : Nat) := by
            rw [List.length_append, List.length_cons, vN_length]
            omega
          refine ⟨_, rfl, _, rfl, _, _, rfl, rfl, _, rfl, _, rfl, _, _, rfl, rfl, _, rfl, _, rfl, _, _, _, _, rfl, rfl, Sb, at_mid xl.symm, _, _, rfl, rfl, _, rfl, a, _, rfl, Sb, fun ty nty => ?_⟩
          have ey : cutV ((flatCs done ++ V.int (numC d) :: vN (argsC d)) ++ (V.int (tt.length : Nat) :: (vN tt ++ flatCs rest))) (some (((flatCs done).length : Nat) + 1 + ((argsC d).length : Nat) + 1)) (some (((flatCs done).length : Nat) + 1 + ((argsC d).length : Nat) + 1 + (tt.length : Nat))) = vN tt := by
            have e1 : (flatCs done ++ V.int (numC d) :: vN (argsC d)) ++ (V.int (tt.length : Nat) :: (vN tt ++ flatCs rest)) = ((flatCs done ++ V.int (numC d) :: vN (argsC d)) ++ [V.int (tt.length : Nat)]) ++ (vN tt ++ flatCs rest) := by
              rw [List.append_assoc _ [V.int (tt.length : Nat)]]
              rfl
            rw [e1]
            exact cut_mid (by rw [List.length_append, List.length_singleton]; omega) (by rw [List.length_append, List.length_singleton, vN_length]; omega)
          rw [ey]
          have e5 : (((flatCs done).length : Nat) + 1 + ((argsC d).length : Nat) + 1 + ((vN tt).length : Nat) : Int) = ((flatCs (done ++ [d])).length : Nat) := by
            rw [el, er]
            show _ = _ + (((V.int (tt.length : Nat) :: vN tt).length : Nat) : Int)
            rw [List.length_cons, vN_length]
            omega
          refine ⟨_, rfl, _, _, rfl, rfl, _, rfl, _, _, rfl, .inl (SqL.of upd_same), _, _, rfl, rfl, ty, ?_, fun b o e => ?_, ?_, ?_, Same.free Htx nty, ne_of_none hg2 nty⟩
          · rw [← e5]
            rfl
          · rw [upd_ne (ne_of_none (Htx b o e) nty)]
            exact Htx b o e
          · rw [upd_ne (ne_of_none hg2 nty)]
            exact hg2
          · rw [upd_same, er]
            rfl
        · refine or3_no rfl n8 n9 n17 (if_false_of rfl ⟨tx, ?_, Htx, hg2, ?_, ntx0, gtx⟩)
          · have e5 : (((flatCs done).length : Nat) + 1 + ((argsC d).length : Nat) : Int) = ((flatCs (done ++ [d])).length : Nat) := by
              rw [el, er]
              show _ = _ + ((([] : List V).length : Nat) : Int)
              rw [List.length_nil]
              omega
            rw [← e5]
            rfl
          · rw [upd_same, er]
            rfl
      · rintro σ' H2 ⟨tx, rfl, S2, hg, htx, nt2, gtx⟩
        have ht2 := S2 _ _ ht
        have ttx : t ≠ tx := ne_of_none ht nt2
        have R2 : HouseOk A H2 L (endM m0 done) := ⟨R.reg.same fun y o _ h => S2 _ _ h, R.wf⟩
        -- answer = answer_to(house, call, given, row)
        refine ⟨_, rfl, _, rfl, _, rfl, _, rfl, L, endM m0 done, d, g, tx, rfl, R2, hg, htx, R.reg.free nt2, fun H3 H4 L4 q G3 nq S4 hq => ?_⟩
        have big : (vI (PyFlat.told (runM m0 done))).length + (1 + (Kcs8Neutral.told (stepM (endM m0 done) d).2).length) ≤ 10000000 := by
          unfold vI
          rw [List.length_map]
          rw [runM_append, told_append, List.length_append] at hlen
          have : 1 + (Kcs8Neutral.told (stepM (endM m0 done) d).2).length ≤ (PyFlat.told (runM (endM m0 done) (d :: rest))).length := by
            show _ ≤ (((Kcs8Neutral.told (stepM (endM m0 done) d).2).length : Int) :: (Kcs8Neutral.told (stepM (endM m0 done) d).2 ++ PyFlat.told (runM (stepM (endM m0 done) d).1 rest))).length
            rw [List.length_cons, List.length_append]
            omega
          omega
        have h3 := G3.frm.out (b := t) (by rw [del_ne ttx]; exact ht2) nO
        have tq : t ≠ q := ne_of_none h3.1 nq
        have ht4 := S4 _ _ h3.1
        have G4 := G3.same S4
        have nq4 : ¬ Own L4.a (houseC A L4 (stepM (endM m0 done) d).1) q := G3.ok.reg.free nq
        generalize ht' : Kcs8Neutral.told (stepM (endM m0 done) d).2 = ans at *
        have lv : (vI ans).length = ans.length := List.length_map _
        -- told.append(len(answer))
        refine ⟨_, rfl, .inl ⟨rfl, _, SqL.of ht4⟩, _, rfl, _, _, rfl, .inl (SqL.of hq), _, _, _, rfl, rfl, ht4, Nat.lt_of_le_of_lt (show _ ≤ 10000000 by omega) (by decide), ?_⟩
        -- told.extend(answer)
        refine ⟨_, rfl, .inl ⟨rfl, _, SqL.of upd_same⟩, _, rfl, _, q, _, _, rfl, rfl, upd_same, (by rw [upd_ne tq.symm]; exact hq), Nat.le_trans (show _ ≤ 10000000 by rw [List.length_append, List.length_singleton, lv]; omega) (by decide), ?_⟩
        refine ⟨_, rfl, L4, some (.int (numC d)), some (.int ((flatCs (done ++ [d])).length : Nat)), some (.ref g), some (.ref tx), some (.ref q), ?_, ?_, ?_, ?_, fun b o e => ?_⟩
        · rw [G4.here]
          rfl
        · rw [endM_append]
          exact ⟨G4.ok.reg.same fun y o e h => by
            have ny : L4.a y ≠ t := fun z => h3.2 ⟨y, o, e, z⟩
            rw [upd_ne ny, upd_ne ny]
            exact h, G4.ok.wf⟩
        · rw [upd_same, runM_append, told_append]
          show some (HO.lst ((vI (PyFlat.told (runM m0 done)) ++ [V.int ((vI ans).length : Nat)]) ++ vI ans)) = some (HO.lst (vI (PyFlat.told (runM m0 done) ++ PyFlat.told [Kcs8Neutral.told (stepM (endM m0 done) d).2])))
          rw [ht', lv]
          unfold PyFlat.told
          rw [List.flatMap_cons, List.flatMap_nil, List.append_nil]
          unfold vI
          rw [List.map_append, List.append_assoc]
          rfl
        · rw [endM_append]
          exact h3.2
        · have h1 := S b o e
          have bt : b ≠ t := ne_of_none (S0 b o e).1 nt
          have btx : b ≠ tx := ne_of_none h1.1 nt2
          have h5 := G3.frm.out (b := b) (o := o) (by rw [del_ne btx]; exact S2 _ _ h1.1) h1.2
          refine ⟨?_, ?_⟩
          · rw [upd_ne bt, upd_ne bt]
            exact S4 _ _ h5.1
          · rw [endM_append]
            exact h5.2
end TR
namespace TR
open PySem PySem.Spec PyProof.Rows L2
theorem txt_mk {K : PySem.W.Frag} {h : Heap} {mg : Str → Option Value} (X : K.In h) (G : h.Ns mainGlobals mg) {f_Message f_Member f_Room f_House f_is_text f_is_word f_small f_is_of_words f_word_key f_words_of f_kth_room f_standing_in f_kth_person f_kth_found f_seen_with_word f_Message_init f_Message_put_text f_Message_take_away f_Member_init f_Room_init f_Room_find_member f_Room_is_keeper f_Room_is_invited f_Room_has_or_awaits f_Room_enter f_Room_forget f_Room_seen_message f_Room_standing_message f_House_init f_House_begin f_House_find_room f_House_all_rooms f_found f_invite f_join f_leave f_put_out f_lift f_show_past f_seen f_read f_unread f_say f_change f_remove f_mark f_answers f_answer_to f_is_invalid f_answer_in_room f_answer_of_keeper f_answer_on_message f_NUMBERS : Addr} {t_LONGEST_TEXT t_LONGEST_WORD t_BLANK t_FIRST_BYTE t_LAST_BYTE t_DIGIT_0 t_DIGIT_9 t_CAPITAL_A t_CAPITAL_Z t_SMALL_A t_SMALL_Z t_NOT_ALLOWED t_UNKNOWN_ROOM t_ALREADY_SO t_INVALID t_FULL t_NOT_THERE t_PEOPLE t_KINDS t_ROOMS_OF_ONE_FOUNDER t_PLACES t_MOST_MESSAGES t_MOST_CHANGES t_BEGIN t_FOUND t_INVITE t_JOIN t_LEAVE t_OUT t_LIFT t_PAST t_SAY t_CHANGE t_REMOVE t_MARK t_READ t_UNREAD t_KTH_ROOM t_KTH_PERSON t_FIND : Tok} {u0_NUMBERS u1_NUMBERS u2_NUMBERS u3_NUMBERS u4_NUMBERS u5_NUMBERS u6_NUMBERS u7_NUMBERS u8_NUMBERS u9_NUMBERS u10_NUMBERS u11_NUMBERS u12_NUMBERS u13_NUMBERS u14_NUMBERS u15_NUMBERS u16_NUMBERS u17_NUMBERS : Tok} {od_NUMBERS : Option Addr} {n_NUMBERS : Nat} {sl_NUMBERS : Array (Option Value)} {od_is_text an_is_text od_is_word an_is_word od_small an_small od_is_of_words an_is_of_words od_word_key an_word_key od_words_of an_words_of od_kth_room an_kth_room od_standing_in an_standing_in od_kth_person an_kth_person od_kth_found an_kth_found od_seen_with_word an_seen_with_word od_Message_init an_Message_init od_Message_put_text an_Message_put_text od_Message_take_away an_Message_take_away od_Member_init an_Member_init od_Room_init an_Room_init od_Room_find_member an_Room_find_member od_Room_is_keeper an_Room_is_keeper od_Room_is_invited an_Room_is_invited od_Room_has_or_awaits an_Room_has_or_awaits od_Room_enter an_Room_enter od_Room_forget an_Room_forget od_Room_seen_message an_Room_seen_message od_Room_standing_message an_Room_standing_message od_House_init an_House_init od_House_begin an_House_begin od_House_find_room an_House_find_room od_House_all_rooms an_House_all_rooms od_found an_found od_invite an_invite od_join an_join od_leave an_leave od_put_out an_put_out od_lift an_lift od_show_past an_show_past od_seen an_seen od_read an_read od_unread an_unread od_say an_say od_change an_change od_remove an_remove od_mark an_mark od_answers an_answers od_answer_to an_answer_to od_is_invalid an_is_invalid od_answer_in_room an_answer_in_room od_answer_of_keeper an_answer_of_keeper od_answer_on_message an_answer_on_message : Option Addr} {sl_is_text sl_is_word sl_small sl_is_of_words sl_word_key sl_words_of sl_kth_room sl_standing_in sl_kth_person sl_kth_found sl_seen_with_word sl_Message_init sl_Message_put_text sl_Message_take_away sl_Member_init sl_Room_init sl_Room_find_member sl_Room_is_keeper sl_Room_is_invited sl_Room_has_or_awaits sl_Room_enter sl_Room_forget sl_Room_seen_message sl_Room_standing_message sl_House_init sl_House_begin sl_House_find_room sl_House_all_rooms sl_found sl_invite sl_join sl_leave sl_put_out sl_lift sl_show_past sl_seen sl_read sl_unread sl_say sl_change sl_remove sl_mark sl_answers sl_answer_to sl_is_invalid sl_answer_in_room sl_answer_of_keeper sl_answer_on_message : Array (Option Value)} {oc_is_text kV_is_text dc_is_text pm_is_text cd_is_text ct_is_text oc_is_word kV_is_word dc_is_word pm_is_word cd_is_word ct_is_word oc_small kV_small dc_small pm_small cd_small ct_small oc_is_of_words kV_is_of_words dc_is_of_words pm_is_of_words cd_is_of_words ct_is_of_words oc_word_key kV_word_key dc_word_key pm_word_key cd_word_key ct_word_key oc_words_of kV_words_of dc_words_of pm_words_of cd_words_of ct_words_of oc_kth_room kV_kth_room dc_kth_room pm_kth_room cd_kth_room ct_kth_room oc_standing_in kV_standing_in dc_standing_in pm_standing_in cd_standing_in ct_standing_in oc_kth_person kV_kth_person dc_kth_person pm_kth_person cd_kth_person ct_kth_person oc_kth_found kV_kth_found dc_kth_found pm_kth_found cd_kth_found ct_kth_found oc_seen_with_word kV_seen_with_word dc_seen_with_word pm_seen_with_word cd_seen_with_word ct_seen_with_word oc_Message_init kV_Message_init dc_Message_init pm_Message_init cd_Message_init ct_Message_init oc_Message_put_text kV_Message_put_text dc_Message_put_text pm_Message_put_text cd_Message_put_text ct_Message_put_text oc_Message_take_away kV_Message_take_away dc_Message_take_away pm_Message_take_away cd_Message_take_away ct_Message_take_away oc_Member_init kV_Member_init dc_Member_init pm_Member_init cd_Member_init ct_Member_init oc_Room_init kV_Room_init dc_Room_init pm_Room_init cd_Room_init ct_Room_init oc_Room_find_member kV_Room_find_member dc_Room_find_member pm_Room_find_member cd_Room_find_member ct_Room_find_member oc_Room_is_keeper kV_Room_is_keeper dc_Room_is_keeper pm_Room_is_keeper cd_Room_is_keeper ct_Room_is_keeper oc_Room_is_invited kV_Room_is_invited dc_Room_is_invited pm_Room_is_invited cd_Room_is_invited ct_Room_is_invited oc_Room_has_or_awaits kV_Room_has_or_awaits dc_Room_has_or_awaits pm_Room_has_or_awaits cd_Room_has_or_awaits ct_Room_has_or_awaits oc_Room_enter kV_Room_enter dc_Room_enter pm_Room_enter cd_Room_enter ct_Room_enter oc_Room_forget kV_Room_forget dc_Room_forget pm_Room_forget cd_Room_forget ct_Room_forget oc_Room_seen_message kV_Room_seen_message dc_Room_seen_message pm_Room_seen_message cd_Room_seen_message ct_Room_seen_message oc_Room_standing_message kV_Room_standing_message dc_Room_standing_message pm_Room_standing_message cd_Room_standing_message ct_Room_standing_message oc_House_init kV_House_init dc_House_init pm_House_init cd_House_init ct_House_init oc_House_begin kV_House_begin dc_House_begin pm_House_begin cd_House_begin ct_House_begin oc_House_find_room kV_House_find_room dc_House_find_room pm_House_find_room cd_House_find_room ct_House_find_room oc_House_all_rooms kV_House_all_rooms dc_House_all_rooms pm_House_all_rooms cd_House_all_rooms ct_House_all_rooms oc_found kV_found dc_found pm_found cd_found ct_found oc_invite kV_invite dc_invite pm_invite cd_invite ct_invite oc_join kV_join dc_join pm_join cd_join ct_join oc_leave kV_leave dc_leave pm_leave cd_leave ct_leave oc_put_out kV_put_out dc_put_out pm_put_out cd_put_out ct_put_out oc_lift kV_lift dc_lift pm_lift cd_lift ct_lift oc_show_past kV_show_past dc_show_past pm_show_past cd_show_past ct_show_past oc_seen kV_seen dc_seen pm_seen cd_seen ct_seen oc_read kV_read dc_read pm_read cd_read ct_read oc_unread kV_unread dc_unread pm_unread cd_unread ct_unread oc_say kV_say dc_say pm_say cd_say ct_say oc_change kV_change dc_change pm_change cd_change ct_change oc_remove kV_remove dc_remove pm_remove cd_remove ct_remove oc_mark kV_mark dc_mark pm_mark cd_mark ct_mark oc_answers kV_answers dc_answers pm_answers cd_answers ct_answers oc_answer_to kV_answer_to dc_answer_to pm_answer_to cd_answer_to ct_answer_to oc_is_invalid kV_is_invalid dc_is_invalid pm_is_invalid cd_is_invalid ct_is_invalid oc_answer_in_room kV_answer_in_room dc_answer_in_room pm_answer_in_room cd_answer_in_room ct_answer_in_room oc_answer_of_keeper kV_answer_of_keeper dc_answer_of_keeper pm_answer_of_keeper cd_answer_of_keeper ct_answer_of_keeper oc_answer_on_message kV_answer_on_message dc_answer_on_message pm_answer_on_message cd_answer_on_message ct_answer_on_message : Value}
    (h_g_Message : PySem.W.nsIn K mainGlobals "Message" = some (some (.ref f_Message)))
    (h_a_Message_init : PySem.W.findIn K (.ref f_Message) "__init__" = some (some (.ref f_Message_init)))
    (h_i_Message_init : PySem.W.isFn K (.ref f_Message_init) = true)
    (h_l_Message_init : K.lookup f_Message_init = some ⟨oc_Message_init, od_Message_init, .func (PySem.W.fnOf "__init__" "Message.__init__" (defArgs s_Message_init) (defBody s_Message_init) (defScope s_Message_init) .none kV_Message_init dc_Message_init pm_Message_init an_Message_init cd_Message_init ct_Message_init), sl_Message_init⟩)
    (h_c_Message_init : PySem.W.codeIn K cd_Message_init "Message.__init__" = true)
    (h_k_Message_init : PySem.W.keepIn K (.ref f_Message_init) = true)
    (h_a_Message_put_text : PySem.W.findIn K (.ref f_Message) "put_text" = some (some (.ref f_Message_put_text)))
    (h_i_Message_put_text : PySem.W.isFn K (.ref f_Message_put_text) = true)
    (h_l_Message_put_text : K.lookup f_Message_put_text = some ⟨oc_Message_put_text, od_Message_put_text, .func (PySem.W.fnOf "put_text" "Message.put_text" (defArgs s_Message_put_text) (defBody s_Message_put_text) (defScope s_Message_put_text) .none kV_Message_put_text dc_Message_put_text pm_Message_put_text an_Message_put_text cd_Message_put_text ct_Message_put_text), sl_Message_put_text⟩)
    (h_c_Message_put_text : PySem.W.codeIn K cd_Message_put_text "Message.put_text" = true)
    (h_k_Message_put_text : PySem.W.keepIn K (.ref f_Message_put_text) = true)
    (h_a_Message_take_away : PySem.W.findIn K (.ref f_Message) "take_away" = some (some (.ref f_Message_take_away)))
    (h_i_Message_take_away : PySem.W.isFn K (.ref f_Message_take_away) = true)
    (h_l_Message_take_away : K.lookup f_Message_take_away = some ⟨oc_Message_take_away, od_Message_take_away, .func (PySem.W.fnOf "take_away" "Message.take_away" (defArgs s_Message_take_away) (defBody s_Message_take_away) (defScope s_Message_take_away) .none kV_Message_take_away dc_Message_take_away pm_Message_take_away an_Message_take_away cd_Message_take_away ct_Message_take_away), sl_Message_take_away⟩)
    (h_c_Message_take_away : PySem.W.codeIn K cd_Message_take_away "Message.take_away" = true)
    (h_k_Message_take_away : PySem.W.keepIn K (.ref f_Message_take_away) = true)
    (h_pg_Message : PySem.W.plainGet K f_Message Str.empty = true)
    (h_hd_Message : PySem.W.hasDictIn K f_Message = true)
    (h_po_Message : PySem.W.plainOver K f_Message = true)
    (h_sa_Message : PySem.W.findIn K (.ref f_Message) "__setattr__" = some (some (.builtin "object.__setattr__")))
    (h_mk_Message : PySem.W.makesIn K f_Message = true)
    (h_kc_Message : PySem.W.keepIn K (.ref f_Message) = true)
    (h_na_Message_who : PySem.W.findIn K (.ref f_Message) "who" = some none)
    (h_na_Message_answered : PySem.W.findIn K (.ref f_Message) "answered" = some none)
    (h_na_Message_changes : PySem.W.findIn K (.ref f_Message) "changes" = some none)
    (h_na_Message_gone : PySem.W.findIn K (.ref f_Message) "gone" = some none)
    (h_na_Message_text : PySem.W.findIn K (.ref f_Message) "text" = some none)
    (h_na_Message_words : PySem.W.findIn K (.ref f_Message) "words" = some none)
    (h_na_Message_marks : PySem.W.findIn K (.ref f_Message) "marks" = some none)
    (h_g_Member : PySem.W.nsIn K mainGlobals "Member" = some (some (.ref f_Member)))
    (h_a_Member_init : PySem.W.findIn K (.ref f_Member) "__init__" = some (some (.ref f_Member_init)))
    (h_i_Member_init : PySem.W.isFn K (.ref f_Member_init) = true)
    (h_l_Member_init : K.lookup f_Member_init = some ⟨oc_Member_init, od_Member_init, .func (PySem.W.fnOf "__init__" "Member.__init__" (defArgs s_Member_init) (defBody s_Member_init) (defScope s_Member_init) .none kV_Member_init dc_Member_init pm_Member_init an_Member_init cd_Member_init ct_Member_init), sl_Member_init⟩)
    (h_c_Member_init : PySem.W.codeIn K cd_Member_init "Member.__init__" = true)
    (h_k_Member_init : PySem.W.keepIn K (.ref f_Member_init) = true)
    (h_pg_Member : PySem.W.plainGet K f_Member Str.empty = true)
    (h_hd_Member : PySem.W.hasDictIn K f_Member = true)
    (h_po_Member : PySem.W.plainOver K f_Member = true)
    (h_sa_Member : PySem.W.findIn K (.ref f_Member) "__setattr__" = some (some (.builtin "object.__setattr__")))
    (h_mk_Member : PySem.W.makesIn K f_Member = true)
    (h_kc_Member : PySem.W.keepIn K (.ref f_Member) = true)
    (h_na_Member_who : PySem.W.findIn K (.ref f_Member) "who" = some none)
    (h_na_Member_keeper : PySem.W.findIn K (.ref f_Member) "keeper" = some none)
    (h_na_Member_first : PySem.W.findIn K (.ref f_Member) "first" = some none)
    (h_na_Member_read : PySem.W.findIn K (.ref f_Member) "read" = some none)
    (h_g_Room : PySem.W.nsIn K mainGlobals "Room" = some (some (.ref f_Room)))
    (h_a_Room_init : PySem.W.findIn K (.ref f_Room) "__init__" = some (some (.ref f_Room_init)))
    (h_i_Room_init : PySem.W.isFn K (.ref f_Room_init) = true)
    (h_l_Room_init : K.lookup f_Room_init = some ⟨oc_Room_init, od_Room_init, .func (PySem.W.fnOf "__init__" "Room.__init__" (defArgs s_Room_init) (defBody s_Room_init) (defScope s_Room_init) .none kV_Room_init dc_Room_init pm_Room_init an_Room_init cd_Room_init ct_Room_init), sl_Room_init⟩)
    (h_c_Room_init : PySem.W.codeIn K cd_Room_init "Room.__init__" = true)
    (h_k_Room_init : PySem.W.keepIn K (.ref f_Room_init) = true)
    (h_a_Room_find_member : PySem.W.findIn K (.ref f_Room) "find_member" = some (some (.ref f_Room_find_member)))
    (h_i_Room_find_member : PySem.W.isFn K (.ref f_Room_find_member) = true)
    (h_l_Room_find_member : K.lookup f_Room_find_member = some ⟨oc_Room_find_member, od_Room_find_member, .func (PySem.W.fnOf "find_member" "Room.find_member" (defArgs s_Room_find_member) (defBody s_Room_find_member) (defScope s_Room_find_member) .none kV_Room_find_member dc_Room_find_member pm_Room_find_member an_Room_find_member cd_Room_find_member ct_Room_find_member), sl_Room_find_member⟩)
    (h_c_Room_find_member : PySem.W.codeIn K cd_Room_find_member "Room.find_member" = true)
    (h_k_Room_find_member : PySem.W.keepIn K (.ref f_Room_find_member) = true)
    (h_a_Room_is_keeper : PySem.W.findIn K (.ref f_Room) "is_keeper" = some (some (.ref f_Room_is_keeper)))
    (h_i_Room_is_keeper : PySem.W.isFn K (.ref f_Room_is_keeper) = true)
    (h_l_Room_is_keeper : K.lookup f_Room_is_keeper = some ⟨oc_Room_is_keeper, od_Room_is_keeper, .func (PySem.W.fnOf "is_keeper" "Room.is_keeper" (defArgs s_Room_is_keeper) (defBody s_Room_is_keeper) (defScope s_Room_is_keeper) .none kV_Room_is_keeper dc_Room_is_keeper pm_Room_is_keeper an_Room_is_keeper cd_Room_is_keeper ct_Room_is_keeper), sl_Room_is_keeper⟩)
    (h_c_Room_is_keeper : PySem.W.codeIn K cd_Room_is_keeper "Room.is_keeper" = true)
    (h_k_Room_is_keeper : PySem.W.keepIn K (.ref f_Room_is_keeper) = true)
    (h_a_Room_is_invited : PySem.W.findIn K (.ref f_Room) "is_invited" = some (some (.ref f_Room_is_invited)))
    (h_i_Room_is_invited : PySem.W.isFn K (.ref f_Room_is_invited) = true)
    (h_l_Room_is_invited : K.lookup f_Room_is_invited = some ⟨oc_Room_is_invited, od_Room_is_invited, .func (PySem.W.fnOf "is_invited" "Room.is_invited" (defArgs s_Room_is_invited) (defBody s_Room_is_invited) (defScope s_Room_is_invited) .none kV_Room_is_invited dc_Room_is_invited pm_Room_is_invited an_Room_is_invited cd_Room_is_invited ct_Room_is_invited), sl_Room_is_invited⟩)
    (h_c_Room_is_invited : PySem.W.codeIn K cd_Room_is_invited "Room.is_invited" = true)
    (h_k_Room_is_invited : PySem.W.keepIn K (.ref f_Room_is_invited) = true)
    (h_a_Room_has_or_awaits : PySem.W.findIn K (.ref f_Room) "has_or_awaits" = some (some (.ref f_Room_has_or_awaits)))
    (h_i_Room_has_or_awaits : PySem.W.isFn K (.ref f_Room_has_or_awaits) = true)
    (h_l_Room_has_or_awaits : K.lookup f_Room_has_or_awaits = some ⟨oc_Room_has_or_awaits, od_Room_has_or_awaits, .func (PySem.W.fnOf "has_or_awaits" "Room.has_or_awaits" (defArgs s_Room_has_or_awaits) (defBody s_Room_has_or_awaits) (defScope s_Room_has_or_awaits) .none kV_Room_has_or_awaits dc_Room_has_or_awaits pm_Room_has_or_awaits an_Room_has_or_awaits cd_Room_has_or_awaits ct_Room_has_or_awaits), sl_Room_has_or_awaits⟩)
    (h_c_Room_has_or_awaits : PySem.W.codeIn K cd_Room_has_or_awaits "Room.has_or_awaits" = true)
    (h_k_Room_has_or_awaits : PySem.W.keepIn K (.ref f_Room_has_or_awaits) = true)
    (h_a_Room_enter : PySem.W.findIn K (.ref f_Room) "enter" = some (some (.ref f_Room_enter)))
    (h_i_Room_enter : PySem.W.isFn K (.ref f_Room_enter) = true)
    (h_l_Room_enter : K.lookup f_Room_enter = some ⟨oc_Room_enter, od_Room_enter, .func (PySem.W.fnOf "enter" "Room.enter" (defArgs s_Room_enter) (defBody s_Room_enter) (defScope s_Room_enter) .none kV_Room_enter dc_Room_enter pm_Room_enter an_Room_enter cd_Room_enter ct_Room_enter), sl_Room_enter⟩)
    (h_c_Room_enter : PySem.W.codeIn K cd_Room_enter "Room.enter" = true)
    (h_k_Room_enter : PySem.W.keepIn K (.ref f_Room_enter) = true)
    (h_a_Room_forget : PySem.W.findIn K (.ref f_Room) "forget" = some (some (.ref f_Room_forget)))
    (h_i_Room_forget : PySem.W.isFn K (.ref f_Room_forget) = true)
    (h_l_Room_forget : K.lookup f_Room_forget = some ⟨oc_Room_forget, od_Room_forget, .func (PySem.W.fnOf "forget" "Room.forget" (defArgs s_Room_forget) (defBody s_Room_forget) (defScope s_Room_forget) .none kV_Room_forget dc_Room_forget pm_Room_forget an_Room_forget cd_Room_forget ct_Room_forget), sl_Room_forget⟩)
    (h_c_Room_forget : PySem.W.codeIn K cd_Room_forget "Room.forget" = true)
    (h_k_Room_forget : PySem.W.keepIn K (.ref f_Room_forget) = true)
    (h_a_Room_seen_message : PySem.W.findIn K (.ref f_Room) "seen_message" = some (some (.ref f_Room_seen_message)))
    (h_i_Room_seen_message : PySem.W.isFn K (.ref f_Room_seen_message) = true)
    (h_l_Room_seen_message : K.lookup f_Room_seen_message = some ⟨oc_Room_seen_message, od_Room_seen_message, .func (PySem.W.fnOf "seen_message" "Room.seen_message" (defArgs s_Room_seen_message) (defBody s_Room_seen_message) (defScope s_Room_seen_message) .none kV_Room_seen_message dc_Room_seen_message pm_Room_seen_message an_Room_seen_message cd_Room_seen_message ct_Room_seen_message), sl_Room_seen_message⟩)
    (h_c_Room_seen_message : PySem.W.codeIn K cd_Room_seen_message "Room.seen_message" = true)
    (h_k_Room_seen_message : PySem.W.keepIn K (.ref f_Room_seen_message) = true)
    (h_a_Room_standing_message : PySem.W.findIn K (.ref f_Room) "standing_message" = some (some (.ref f_Room_standing_message)))
    (h_i_Room_standing_message : PySem.W.isFn K (.ref f_Room_standing_message) = true)
    (h_l_Room_standing_message : K.lookup f_Room_standing_message = some ⟨oc_Room_standing_message, od_Room_standing_message, .func (PySem.W.fnOf "standing_message" "Room.standing_message" (defArgs s_Room_standing_message) (defBody s_Room_standing_message) (defScope s_Room_standing_message) .none kV_Room_standing_message dc_Room_standing_message pm_Room_standing_message an_Room_standing_message cd_Room_standing_message ct_Room_standing_message), sl_Room_standing_message⟩)
    (h_c_Room_standing_message : PySem.W.codeIn K cd_Room_standing_message "Room.standing_message" = true)
    (h_k_Room_standing_message : PySem.W.keepIn K (.ref f_Room_standing_message) = true)
    (h_pg_Room : PySem.W.plainGet K f_Room Str.empty = true)
    (h_hd_Room : PySem.W.hasDictIn K f_Room = true)
    (h_po_Room : PySem.W.plainOver K f_Room = true)
    (h_sa_Room : PySem.W.findIn K (.ref f_Room) "__setattr__" = some (some (.builtin "object.__setattr__")))
    (h_mk_Room : PySem.W.makesIn K f_Room = true)
    (h_kc_Room : PySem.W.keepIn K (.ref f_Room) = true)
    (h_na_Room_past : PySem.W.findIn K (.ref f_Room) "past" = some none)
    (h_na_Room_members : PySem.W.findIn K (.ref f_Room) "members" = some none)
    (h_na_Room_invited : PySem.W.findIn K (.ref f_Room) "invited" = some none)
    (h_na_Room_messages : PySem.W.findIn K (.ref f_Room) "messages" = some none)
    (h_g_House : PySem.W.nsIn K mainGlobals "House" = some (some (.ref f_House)))
    (h_a_House_init : PySem.W.findIn K (.ref f_House) "__init__" = some (some (.ref f_House_init)))
    (h_i_House_init : PySem.W.isFn K (.ref f_House_init) = true)
    (h_l_House_init : K.lookup f_House_init = some ⟨oc_House_init, od_House_init, .func (PySem.W.fnOf "__init__" "House.__init__" (defArgs s_House_init) (defBody s_House_init) (defScope s_House_init) .none kV_House_init dc_House_init pm_House_init an_House_init cd_House_init ct_House_init), sl_House_init⟩)
    (h_c_House_init : PySem.W.codeIn K cd_House_init "House.__init__" = true)
    (h_k_House_init : PySem.W.keepIn K (.ref f_House_init) = true)
    (h_a_House_begin : PySem.W.findIn K (.ref f_House) "begin" = some (some (.ref f_House_begin)))
    (h_i_House_begin : PySem.W.isFn K (.ref f_House_begin) = true)
    (h_l_House_begin : K.lookup f_House_begin = some ⟨oc_House_begin, od_House_begin, .func (PySem.W.fnOf "begin" "House.begin" (defArgs s_House_begin) (defBody s_House_begin) (defScope s_House_begin) .none kV_House_begin dc_House_begin pm_House_begin an_House_begin cd_House_begin ct_House_begin), sl_House_begin⟩)
    (h_c_House_begin : PySem.W.codeIn K cd_House_begin "House.begin" = true)
    (h_k_House_begin : PySem.W.keepIn K (.ref f_House_begin) = true)
    (h_a_House_find_room : PySem.W.findIn K (.ref f_House) "find_room" = some (some (.ref f_House_find_room)))
    (h_i_House_find_room : PySem.W.isFn K (.ref f_House_find_room) = true)
    (h_l_House_find_room : K.lookup f_House_find_room = some ⟨oc_House_find_room, od_House_find_room, .func (PySem.W.fnOf "find_room" "House.find_room" (defArgs s_House_find_room) (defBody s_House_find_room) (defScope s_House_find_room) .none kV_House_find_room dc_House_find_room pm_House_find_room an_House_find_room cd_House_find_room ct_House_find_room), sl_House_find_room⟩)
    (h_c_House_find_room : PySem.W.codeIn K cd_House_find_room "House.find_room" = true)
    (h_k_House_find_room : PySem.W.keepIn K (.ref f_House_find_room) = true)
    (h_a_House_all_rooms : PySem.W.findIn K (.ref f_House) "all_rooms" = some (some (.ref f_House_all_rooms)))
    (h_i_House_all_rooms : PySem.W.isFn K (.ref f_House_all_rooms) = true)
    (h_l_House_all_rooms : K.lookup f_House_all_rooms = some ⟨oc_House_all_rooms, od_House_all_rooms, .func (PySem.W.fnOf "all_rooms" "House.all_rooms" (defArgs s_House_all_rooms) (defBody s_House_all_rooms) (defScope s_House_all_rooms) .none kV_House_all_rooms dc_House_all_rooms pm_House_all_rooms an_House_all_rooms cd_House_all_rooms ct_House_all_rooms), sl_House_all_rooms⟩)
    (h_c_House_all_rooms : PySem.W.codeIn K cd_House_all_rooms "House.all_rooms" = true)
    (h_k_House_all_rooms : PySem.W.keepIn K (.ref f_House_all_rooms) = true)
    (h_pg_House : PySem.W.plainGet K f_House Str.empty = true)
    (h_hd_House : PySem.W.hasDictIn K f_House = true)
    (h_po_House : PySem.W.plainOver K f_House = true)
    (h_sa_House : PySem.W.findIn K (.ref f_House) "__setattr__" = some (some (.builtin "object.__setattr__")))
    (h_mk_House : PySem.W.makesIn K f_House = true)
    (h_kc_House : PySem.W.keepIn K (.ref f_House) = true)
    (h_na_House_founded : PySem.W.findIn K (.ref f_House) "founded" = some none)
    (h_a_is_text : PySem.W.nsIn K mainGlobals "is_text" = some (some (.ref f_is_text)))
    (h_l_is_text : K.lookup f_is_text = some ⟨oc_is_text, od_is_text, .func (PySem.W.fnOf "is_text" "is_text" (defArgs s_is_text) (defBody s_is_text) (defScope s_is_text) .none kV_is_text dc_is_text pm_is_text an_is_text cd_is_text ct_is_text), sl_is_text⟩)
    (h_c_is_text : PySem.W.codeIn K cd_is_text "is_text" = true)
    (h_k_is_text : PySem.W.keepIn K (.ref f_is_text) = true)
    (h_a_is_word : PySem.W.nsIn K mainGlobals "is_word" = some (some (.ref f_is_word)))
    (h_l_is_word : K.lookup f_is_word = some ⟨oc_is_word, od_is_word, .func (PySem.W.fnOf "is_word" "is_word" (defArgs s_is_word) (defBody s_is_word) (defScope s_is_word) .none kV_is_word dc_is_word pm_is_word an_is_word cd_is_word ct_is_word), sl_is_word⟩)
    (h_c_is_word : PySem.W.codeIn K cd_is_word "is_word" = true)
    (h_k_is_word : PySem.W.keepIn K (.ref f_is_word) = true)
    (h_a_small : PySem.W.nsIn K mainGlobals "small" = some (some (.ref f_small)))
    (h_l_small : K.lookup f_small = some ⟨oc_small, od_small, .func (PySem.W.fnOf "small" "small" (defArgs s_small) (defBody s_small) (defScope s_small) .none kV_small dc_small pm_small an_small cd_small ct_small), sl_small⟩)
    (h_c_small : PySem.W.codeIn K cd_small "small" = true)
    (h_k_small : PySem.W.keepIn K (.ref f_small) = true)
    (h_a_is_of_words : PySem.W.nsIn K mainGlobals "is_of_words" = some (some (.ref f_is_of_words)))
    (h_l_is_of_words : K.lookup f_is_of_words = some ⟨oc_is_of_words, od_is_of_words, .func (PySem.W.fnOf "is_of_words" "is_of_words" (defArgs s_is_of_words) (defBody s_is_of_words) (defScope s_is_of_words) .none kV_is_of_words dc_is_of_words pm_is_of_words an_is_of_words cd_is_of_words ct_is_of_words), sl_is_of_words⟩)
    (h_c_is_of_words : PySem.W.codeIn K cd_is_of_words "is_of_words" = true)
    (h_k_is_of_words : PySem.W.keepIn K (.ref f_is_of_words) = true)
    (h_a_word_key : PySem.W.nsIn K mainGlobals "word_key" = some (some (.ref f_word_key)))
    (h_l_word_key : K.lookup f_word_key = some ⟨oc_word_key, od_word_key, .func (PySem.W.fnOf "word_key" "word_key" (defArgs s_word_key) (defBody s_word_key) (defScope s_word_key) .none kV_word_key dc_word_key pm_word_key an_word_key cd_word_key ct_word_key), sl_word_key⟩)
    (h_c_word_key : PySem.W.codeIn K cd_word_key "word_key" = true)
    (h_k_word_key : PySem.W.keepIn K (.ref f_word_key) = true)
    (h_a_words_of : PySem.W.nsIn K mainGlobals "words_of" = some (some (.ref f_words_of)))
    (h_l_words_of : K.lookup f_words_of = some ⟨oc_words_of, od_words_of, .func (PySem.W.fnOf "words_of" "words_of" (defArgs s_words_of) (defBody s_words_of) (defScope s_words_of) .none kV_words_of dc_words_of pm_words_of an_words_of cd_words_of ct_words_of), sl_words_of⟩)
    (h_c_words_of : PySem.W.codeIn K cd_words_of "words_of" = true)
    (h_k_words_of : PySem.W.keepIn K (.ref f_words_of) = true)
    (h_a_kth_room : PySem.W.nsIn K mainGlobals "kth_room" = some (some (.ref f_kth_room)))
    (h_l_kth_room : K.lookup f_kth_room = some ⟨oc_kth_room, od_kth_room, .func (PySem.W.fnOf "kth_room" "kth_room" (defArgs s_kth_room) (defBody s_kth_room) (defScope s_kth_room) .none kV_kth_room dc_kth_room pm_kth_room an_kth_room cd_kth_room ct_kth_room), sl_kth_room⟩)
    (h_c_kth_room : PySem.W.codeIn K cd_kth_room "kth_room" = true)
    (h_k_kth_room : PySem.W.keepIn K (.ref f_kth_room) = true)
    (h_a_standing_in : PySem.W.nsIn K mainGlobals "standing_in" = some (some (.ref f_standing_in)))
    (h_l_standing_in : K.lookup f_standing_in = some ⟨oc_standing_in, od_standing_in, .func (PySem.W.fnOf "standing_in" "standing_in" (defArgs s_standing_in) (defBody s_standing_in) (defScope s_standing_in) .none kV_standing_in dc_standing_in pm_standing_in an_standing_in cd_standing_in ct_standing_in), sl_standing_in⟩)
    (h_c_standing_in : PySem.W.codeIn K cd_standing_in "standing_in" = true)
    (h_k_standing_in : PySem.W.keepIn K (.ref f_standing_in) = true)
    (h_a_kth_person : PySem.W.nsIn K mainGlobals "kth_person" = some (some (.ref f_kth_person)))
    (h_l_kth_person : K.lookup f_kth_person = some ⟨oc_kth_person, od_kth_person, .func (PySem.W.fnOf "kth_person" "kth_person" (defArgs s_kth_person) (defBody s_kth_person) (defScope s_kth_person) .none kV_kth_person dc_kth_person pm_kth_person an_kth_person cd_kth_person ct_kth_person), sl_kth_person⟩)
    (h_c_kth_person : PySem.W.codeIn K cd_kth_person "kth_person" = true)
    (h_k_kth_person : PySem.W.keepIn K (.ref f_kth_person) = true)
    (h_a_kth_found : PySem.W.nsIn K mainGlobals "kth_found" = some (some (.ref f_kth_found)))
    (h_l_kth_found : K.lookup f_kth_found = some ⟨oc_kth_found, od_kth_found, .func (PySem.W.fnOf "kth_found" "kth_found" (defArgs s_kth_found) (defBody s_kth_found) (defScope s_kth_found) .none kV_kth_found dc_kth_found pm_kth_found an_kth_found cd_kth_found ct_kth_found), sl_kth_found⟩)
    (h_c_kth_found : PySem.W.codeIn K cd_kth_found "kth_found" = true)
    (h_k_kth_found : PySem.W.keepIn K (.ref f_kth_found) = true)
    (h_a_seen_with_word : PySem.W.nsIn K mainGlobals "seen_with_word" = some (some (.ref f_seen_with_word)))
    (h_l_seen_with_word : K.lookup f_seen_with_word = some ⟨oc_seen_with_word, od_seen_with_word, .func (PySem.W.fnOf "seen_with_word" "seen_with_word" (defArgs s_seen_with_word) (defBody s_seen_with_word) (defScope s_seen_with_word) .none kV_seen_with_word dc_seen_with_word pm_seen_with_word an_seen_with_word cd_seen_with_word ct_seen_with_word), sl_seen_with_word⟩)
    (h_c_seen_with_word : PySem.W.codeIn K cd_seen_with_word "seen_with_word" = true)
    (h_k_seen_with_word : PySem.W.keepIn K (.ref f_seen_with_word) = true)
    (h_a_found : PySem.W.nsIn K mainGlobals "found" = some (some (.ref f_found)))
    (h_l_found : K.lookup f_found = some ⟨oc_found, od_found, .func (PySem.W.fnOf "found" "found" (defArgs s_found) (defBody s_found) (defScope s_found) .none kV_found dc_found pm_found an_found cd_found ct_found), sl_found⟩)
    (h_c_found : PySem.W.codeIn K cd_found "found" = true)
    (h_k_found : PySem.W.keepIn K (.ref f_found) = true)
    (h_a_invite : PySem.W.nsIn K mainGlobals "invite" = some (some (.ref f_invite)))
    (h_l_invite : K.lookup f_invite = some ⟨oc_invite, od_invite, .func (PySem.W.fnOf "invite" "invite" (defArgs s_invite) (defBody s_invite) (defScope s_invite) .none kV_invite dc_invite pm_invite an_invite cd_invite ct_invite), sl_invite⟩)
    (h_c_invite : PySem.W.codeIn K cd_invite "invite" = true)
    (h_k_invite : PySem.W.keepIn K (.ref f_invite) = true)
    (h_a_join : PySem.W.nsIn K mainGlobals "join" = some (some (.ref f_join)))
    (h_l_join : K.lookup f_join = some ⟨oc_join, od_join, .func (PySem.W.fnOf "join" "join" (defArgs s_join) (defBody s_join) (defScope s_join) .none kV_join dc_join pm_join an_join cd_join ct_join), sl_join⟩)
    (h_c_join : PySem.W.codeIn K cd_join "join" = true)
    (h_k_join : PySem.W.keepIn K (.ref f_join) = true)
    (h_a_leave : PySem.W.nsIn K mainGlobals "leave" = some (some (.ref f_leave)))
    (h_l_leave : K.lookup f_leave = some ⟨oc_leave, od_leave, .func (PySem.W.fnOf "leave" "leave" (defArgs s_leave) (defBody s_leave) (defScope s_leave) .none kV_leave dc_leave pm_leave an_leave cd_leave ct_leave), sl_leave⟩)
    (h_c_leave : PySem.W.codeIn K cd_leave "leave" = true)
    (h_k_leave : PySem.W.keepIn K (.ref f_leave) = true)
    (h_a_put_out : PySem.W.nsIn K mainGlobals "put_out" = some (some (.ref f_put_out)))
    (h_l_put_out : K.lookup f_put_out = some ⟨oc_put_out, od_put_out, .func (PySem.W.fnOf "put_out" "put_out" (defArgs s_put_out) (defBody s_put_out) (defScope s_put_out) .none kV_put_out dc_put_out pm_put_out an_put_out cd_put_out ct_put_out), sl_put_out⟩)
    (h_c_put_out : PySem.W.codeIn K cd_put_out "put_out" = true)
    (h_k_put_out : PySem.W.keepIn K (.ref f_put_out) = true)
    (h_a_lift : PySem.W.nsIn K mainGlobals "lift" = some (some (.ref f_lift)))
    (h_l_lift : K.lookup f_lift = some ⟨oc_lift, od_lift, .func (PySem.W.fnOf "lift" "lift" (defArgs s_lift) (defBody s_lift) (defScope s_lift) .none kV_lift dc_lift pm_lift an_lift cd_lift ct_lift), sl_lift⟩)
    (h_c_lift : PySem.W.codeIn K cd_lift "lift" = true)
    (h_k_lift : PySem.W.keepIn K (.ref f_lift) = true)
    (h_a_show_past : PySem.W.nsIn K mainGlobals "show_past" = some (some (.ref f_show_past)))
    (h_l_show_past : K.lookup f_show_past = some ⟨oc_show_past, od_show_past, .func (PySem.W.fnOf "show_past" "show_past" (defArgs s_show_past) (defBody s_show_past) (defScope s_show_past) .none kV_show_past dc_show_past pm_show_past an_show_past cd_show_past ct_show_past), sl_show_past⟩)
    (h_c_show_past : PySem.W.codeIn K cd_show_past "show_past" = true)
    (h_k_show_past : PySem.W.keepIn K (.ref f_show_past) = true)
    (h_a_seen : PySem.W.nsIn K mainGlobals "seen" = some (some (.ref f_seen)))
    (h_l_seen : K.lookup f_seen = some ⟨oc_seen, od_seen, .func (PySem.W.fnOf "seen" "seen" (defArgs s_seen) (defBody s_seen) (defScope s_seen) .none kV_seen dc_seen pm_seen an_seen cd_seen ct_seen), sl_seen⟩)
    (h_c_seen : PySem.W.codeIn K cd_seen "seen" = true)
    (h_k_seen : PySem.W.keepIn K (.ref f_seen) = true)
    (h_a_read : PySem.W.nsIn K mainGlobals "read" = some (some (.ref f_read)))
    (h_l_read : K.lookup f_read = some ⟨oc_read, od_read, .func (PySem.W.fnOf "read" "read" (defArgs s_read) (defBody s_read) (defScope s_read) .none kV_read dc_read pm_read an_read cd_read ct_read), sl_read⟩)
    (h_c_read : PySem.W.codeIn K cd_read "read" = true)
    (h_k_read : PySem.W.keepIn K (.ref f_read) = true)
    (h_a_unread : PySem.W.nsIn K mainGlobals "unread" = some (some (.ref f_unread)))
    (h_l_unread : K.lookup f_unread = some ⟨oc_unread, od_unread, .func (PySem.W.fnOf "unread" "unread" (defArgs s_unread) (defBody s_unread) (defScope s_unread) .none kV_unread dc_unread pm_unread an_unread cd_unread ct_unread), sl_unread⟩)
    (h_c_unread : PySem.W.codeIn K cd_unread "unread" = true)
    (h_k_unread : PySem.W.keepIn K (.ref f_unread) = true)
    (h_a_say : PySem.W.nsIn K mainGlobals "say" = some (some (.ref f_say)))
    (h_l_say : K.lookup f_say = some ⟨oc_say, od_say, .func (PySem.W.fnOf "say" "say" (defArgs s_say) (defBody s_say) (defScope s_say) .none kV_say dc_say pm_say an_say cd_say ct_say), sl_say⟩)
    (h_c_say : PySem.W.codeIn K cd_say "say" = true)
    (h_k_say : PySem.W.keepIn K (.ref f_say) = true)
    (h_a_change : PySem.W.nsIn K mainGlobals "change" = some (some (.ref f_change)))
    (h_l_change : K.lookup f_change = some ⟨oc_change, od_change, .func (PySem.W.fnOf "change" "change" (defArgs s_change) (defBody s_change) (defScope s_change) .none kV_change dc_change pm_change an_change cd_change ct_change), sl_change⟩)
    (h_c_change : PySem.W.codeIn K cd_change "change" = true)
    (h_k_change : PySem.W.keepIn K (.ref f_change) = true)
    (h_a_remove : PySem.W.nsIn K mainGlobals "remove" = some (some (.ref f_remove)))
    (h_l_remove : K.lookup f_remove = some ⟨oc_remove, od_remove, .func (PySem.W.fnOf "remove" "remove" (defArgs s_remove) (defBody s_remove) (defScope s_remove) .none kV_remove dc_remove pm_remove an_remove cd_remove ct_remove), sl_remove⟩)
    (h_c_remove : PySem.W.codeIn K cd_remove "remove" = true)
    (h_k_remove : PySem.W.keepIn K (.ref f_remove) = true)
    (h_a_mark : PySem.W.nsIn K mainGlobals "mark" = some (some (.ref f_mark)))
    (h_l_mark : K.lookup f_mark = some ⟨oc_mark, od_mark, .func (PySem.W.fnOf "mark" "mark" (defArgs s_mark) (defBody s_mark) (defScope s_mark) .none kV_mark dc_mark pm_mark an_mark cd_mark ct_mark), sl_mark⟩)
    (h_c_mark : PySem.W.codeIn K cd_mark "mark" = true)
    (h_k_mark : PySem.W.keepIn K (.ref f_mark) = true)
    (h_a_answers : PySem.W.nsIn K mainGlobals "answers" = some (some (.ref f_answers)))
    (h_l_answers : K.lookup f_answers = some ⟨oc_answers, od_answers, .func (PySem.W.fnOf "answers" "answers" (defArgs s_answers) (defBody s_answers) (defScope s_answers) .none kV_answers dc_answers pm_answers an_answers cd_answers ct_answers), sl_answers⟩)
    (h_c_answers : PySem.W.codeIn K cd_answers "answers" = true)
    (h_k_answers : PySem.W.keepIn K (.ref f_answers) = true)
    (h_a_answer_to : PySem.W.nsIn K mainGlobals "answer_to" = some (some (.ref f_answer_to)))
    (h_l_answer_to : K.lookup f_answer_to = some ⟨oc_answer_to, od_answer_to, .func (PySem.W.fnOf "answer_to" "answer_to" (defArgs s_answer_to) (defBody s_answer_to) (defScope s_answer_to) .none kV_answer_to dc_answer_to pm_answer_to an_answer_to cd_answer_to ct_answer_to), sl_answer_to⟩)
    (h_c_answer_to : PySem.W.codeIn K cd_answer_to "answer_to" = true)
    (h_k_answer_to : PySem.W.keepIn K (.ref f_answer_to) = true)
    (h_a_is_invalid : PySem.W.nsIn K mainGlobals "is_invalid" = some (some (.ref f_is_invalid)))
    (h_l_is_invalid : K.lookup f_is_invalid = some ⟨oc_is_invalid, od_is_invalid, .func (PySem.W.fnOf "is_invalid" "is_invalid" (defArgs s_is_invalid) (defBody s_is_invalid) (defScope s_is_invalid) .none kV_is_invalid dc_is_invalid pm_is_invalid an_is_invalid cd_is_invalid ct_is_invalid), sl_is_invalid⟩)
    (h_c_is_invalid : PySem.W.codeIn K cd_is_invalid "is_invalid" = true)
    (h_k_is_invalid : PySem.W.keepIn K (.ref f_is_invalid) = true)
    (h_a_answer_in_room : PySem.W.nsIn K mainGlobals "answer_in_room" = some (some (.ref f_answer_in_room)))
    (h_l_answer_in_room : K.lookup f_answer_in_room = some ⟨oc_answer_in_room, od_answer_in_room, .func (PySem.W.fnOf "answer_in_room" "answer_in_room" (defArgs s_answer_in_room) (defBody s_answer_in_room) (defScope s_answer_in_room) .none kV_answer_in_room dc_answer_in_room pm_answer_in_room an_answer_in_room cd_answer_in_room ct_answer_in_room), sl_answer_in_room⟩)
    (h_c_answer_in_room : PySem.W.codeIn K cd_answer_in_room "answer_in_room" = true)
    (h_k_answer_in_room : PySem.W.keepIn K (.ref f_answer_in_room) = true)
    (h_a_answer_of_keeper : PySem.W.nsIn K mainGlobals "answer_of_keeper" = some (some (.ref f_answer_of_keeper)))
    (h_l_answer_of_keeper : K.lookup f_answer_of_keeper = some ⟨oc_answer_of_keeper, od_answer_of_keeper, .func (PySem.W.fnOf "answer_of_keeper" "answer_of_keeper" (defArgs s_answer_of_keeper) (defBody s_answer_of_keeper) (defScope s_answer_of_keeper) .none kV_answer_of_keeper dc_answer_of_keeper pm_answer_of_keeper an_answer_of_keeper cd_answer_of_keeper ct_answer_of_keeper), sl_answer_of_keeper⟩)
    (h_c_answer_of_keeper : PySem.W.codeIn K cd_answer_of_keeper "answer_of_keeper" = true)
    (h_k_answer_of_keeper : PySem.W.keepIn K (.ref f_answer_of_keeper) = true)
    (h_a_answer_on_message : PySem.W.nsIn K mainGlobals "answer_on_message" = some (some (.ref f_answer_on_message)))
    (h_l_answer_on_message : K.lookup f_answer_on_message = some ⟨oc_answer_on_message, od_answer_on_message, .func (PySem.W.fnOf "answer_on_message" "answer_on_message" (defArgs s_answer_on_message) (defBody s_answer_on_message) (defScope s_answer_on_message) .none kV_answer_on_message dc_answer_on_message pm_answer_on_message an_answer_on_message cd_answer_on_message ct_answer_on_message), sl_answer_on_message⟩)
    (h_c_answer_on_message : PySem.W.codeIn K cd_answer_on_message "answer_on_message" = true)
    (h_k_answer_on_message : PySem.W.keepIn K (.ref f_answer_on_message) = true)
    (h_g_LONGEST_TEXT : PySem.W.nsIn K mainGlobals "LONGEST_TEXT" = some (some (.int (256) t_LONGEST_TEXT)))
    (h_g_LONGEST_WORD : PySem.W.nsIn K mainGlobals "LONGEST_WORD" = some (some (.int (32) t_LONGEST_WORD)))
    (h_g_BLANK : PySem.W.nsIn K mainGlobals "BLANK" = some (some (.int (32) t_BLANK)))
    (h_g_FIRST_BYTE : PySem.W.nsIn K mainGlobals "FIRST_BYTE" = some (some (.int (32) t_FIRST_BYTE)))
    (h_g_LAST_BYTE : PySem.W.nsIn K mainGlobals "LAST_BYTE" = some (some (.int (126) t_LAST_BYTE)))
    (h_g_DIGIT_0 : PySem.W.nsIn K mainGlobals "DIGIT_0" = some (some (.int (48) t_DIGIT_0)))
    (h_g_DIGIT_9 : PySem.W.nsIn K mainGlobals "DIGIT_9" = some (some (.int (57) t_DIGIT_9)))
    (h_g_CAPITAL_A : PySem.W.nsIn K mainGlobals "CAPITAL_A" = some (some (.int (65) t_CAPITAL_A)))
    (h_g_CAPITAL_Z : PySem.W.nsIn K mainGlobals "CAPITAL_Z" = some (some (.int (90) t_CAPITAL_Z)))
    (h_g_SMALL_A : PySem.W.nsIn K mainGlobals "SMALL_A" = some (some (.int (97) t_SMALL_A)))
    (h_g_SMALL_Z : PySem.W.nsIn K mainGlobals "SMALL_Z" = some (some (.int (122) t_SMALL_Z)))
    (h_g_NOT_ALLOWED : PySem.W.nsIn K mainGlobals "NOT_ALLOWED" = some (some (.int (-1) t_NOT_ALLOWED)))
    (h_g_UNKNOWN_ROOM : PySem.W.nsIn K mainGlobals "UNKNOWN_ROOM" = some (some (.int (-2) t_UNKNOWN_ROOM)))
    (h_g_ALREADY_SO : PySem.W.nsIn K mainGlobals "ALREADY_SO" = some (some (.int (-17) t_ALREADY_SO)))
    (h_g_INVALID : PySem.W.nsIn K mainGlobals "INVALID" = some (some (.int (-22) t_INVALID)))
    (h_g_FULL : PySem.W.nsIn K mainGlobals "FULL" = some (some (.int (-28) t_FULL)))
    (h_g_NOT_THERE : PySem.W.nsIn K mainGlobals "NOT_THERE" = some (some (.int (-61) t_NOT_THERE)))
    (h_g_PEOPLE : PySem.W.nsIn K mainGlobals "PEOPLE" = some (some (.int (16) t_PEOPLE)))
    (h_g_KINDS : PySem.W.nsIn K mainGlobals "KINDS" = some (some (.int (16) t_KINDS)))
    (h_g_ROOMS_OF_ONE_FOUNDER : PySem.W.nsIn K mainGlobals "ROOMS_OF_ONE_FOUNDER" = some (some (.int (4) t_ROOMS_OF_ONE_FOUNDER)))
    (h_g_PLACES : PySem.W.nsIn K mainGlobals "PLACES" = some (some (.int (12) t_PLACES)))
    (h_g_MOST_MESSAGES : PySem.W.nsIn K mainGlobals "MOST_MESSAGES" = some (some (.int (128) t_MOST_MESSAGES)))
    (h_g_MOST_CHANGES : PySem.W.nsIn K mainGlobals "MOST_CHANGES" = some (some (.int (255) t_MOST_CHANGES)))
    (h_g_BEGIN : PySem.W.nsIn K mainGlobals "BEGIN" = some (some (.int (0) t_BEGIN)))
    (h_g_FOUND : PySem.W.nsIn K mainGlobals "FOUND" = some (some (.int (1) t_FOUND)))
    (h_g_INVITE : PySem.W.nsIn K mainGlobals "INVITE" = some (some (.int (2) t_INVITE)))
    (h_g_JOIN : PySem.W.nsIn K mainGlobals "JOIN" = some (some (.int (3) t_JOIN)))
    (h_g_LEAVE : PySem.W.nsIn K mainGlobals "LEAVE" = some (some (.int (4) t_LEAVE)))
    (h_g_OUT : PySem.W.nsIn K mainGlobals "OUT" = some (some (.int (5) t_OUT)))
    (h_g_LIFT : PySem.W.nsIn K mainGlobals "LIFT" = some (some (.int (6) t_LIFT)))
    (h_g_PAST : PySem.W.nsIn K mainGlobals "PAST" = some (some (.int (7) t_PAST)))
    (h_g_SAY : PySem.W.nsIn K mainGlobals "SAY" = some (some (.int (8) t_SAY)))
    (h_g_CHANGE : PySem.W.nsIn K mainGlobals "CHANGE" = some (some (.int (9) t_CHANGE)))
    (h_g_REMOVE : PySem.W.nsIn K mainGlobals "REMOVE" = some (some (.int (10) t_REMOVE)))
    (h_g_MARK : PySem.W.nsIn K mainGlobals "MARK" = some (some (.int (11) t_MARK)))
    (h_g_READ : PySem.W.nsIn K mainGlobals "READ" = some (some (.int (13) t_READ)))
    (h_g_UNREAD : PySem.W.nsIn K mainGlobals "UNREAD" = some (some (.int (14) t_UNREAD)))
    (h_g_KTH_ROOM : PySem.W.nsIn K mainGlobals "KTH_ROOM" = some (some (.int (15) t_KTH_ROOM)))
    (h_g_KTH_PERSON : PySem.W.nsIn K mainGlobals "KTH_PERSON" = some (some (.int (16) t_KTH_PERSON)))
    (h_g_FIND : PySem.W.nsIn K mainGlobals "FIND" = some (some (.int (17) t_FIND)))
    (h_g_NUMBERS : PySem.W.nsIn K mainGlobals "NUMBERS" = some (some (.ref f_NUMBERS)))
    (h_q_NUMBERS : K.lookup f_NUMBERS = some ⟨.type "tuple", od_NUMBERS, .seq #[.int (0) u0_NUMBERS, .int (2) u1_NUMBERS, .int (4) u2_NUMBERS, .int (3) u3_NUMBERS, .int (3) u4_NUMBERS, .int (4) u5_NUMBERS, .int (4) u6_NUMBERS, .int (4) u7_NUMBERS, .int (4) u8_NUMBERS, .int (4) u9_NUMBERS, .int (4) u10_NUMBERS, .int (5) u11_NUMBERS, .int (4) u12_NUMBERS, .int (4) u13_NUMBERS, .int (3) u14_NUMBERS, .int (2) u15_NUMBERS, .int (4) u16_NUMBERS, .int (2) u17_NUMBERS] n_NUMBERS, sl_NUMBERS⟩)
    (h_b_all : PySem.W.nsIn K mainGlobals "all" = some none)
    (h_b_any : PySem.W.nsIn K mainGlobals "any" = some none)
    (h_b_enumerate : PySem.W.nsIn K mainGlobals "enumerate" = some none)
    (h_b_len : PySem.W.nsIn K mainGlobals "len" = some none)
    (h_b_range : PySem.W.nsIn K mainGlobals "range" = some none)
    (h_b_tuple : PySem.W.nsIn K mainGlobals "tuple" = some none) :
    Txt K mg ⟨f_Message, f_Member, f_Room, f_House, f_is_text, f_is_word, f_small, f_is_of_words, f_word_key, f_words_of, f_kth_room, f_standing_in, f_kth_person, f_kth_found, f_seen_with_word, f_Message_init, f_Message_put_text, f_Message_take_away, f_Member_init, f_Room_init, f_Room_find_member, f_Room_is_keeper, f_Room_is_invited, f_Room_has_or_awaits, f_Room_enter, f_Room_forget, f_Room_seen_message, f_Room_standing_message, f_House_init, f_House_begin, f_House_find_room, f_House_all_rooms, f_found, f_invite, f_join, f_leave, f_put_out, f_lift, f_show_past, f_seen, f_read, f_unread, f_say, f_change, f_remove, f_mark, f_answers, f_answer_to, f_is_invalid, f_answer_in_room, f_answer_of_keeper, f_answer_on_message, f_NUMBERS, t_LONGEST_TEXT, t_LONGEST_WORD, t_BLANK, t_FIRST_BYTE, t_LAST_BYTE, t_DIGIT_0, t_DIGIT_9, t_CAPITAL_A, t_CAPITAL_Z, t_SMALL_A, t_SMALL_Z, t_NOT_ALLOWED, t_UNKNOWN_ROOM, t_ALREADY_SO, t_INVALID, t_FULL, t_NOT_THERE, t_PEOPLE, t_KINDS, t_ROOMS_OF_ONE_FOUNDER, t_PLACES, t_MOST_MESSAGES, t_MOST_CHANGES, t_BEGIN, t_FOUND, t_INVITE, t_JOIN, t_LEAVE, t_OUT, t_LIFT, t_PAST, t_SAY, t_CHANGE, t_REMOVE, t_MARK, t_READ, t_UNREAD, t_KTH_ROOM, t_KTH_PERSON, t_FIND⟩ where
  cl_Message := ⟨h_pg_Message, h_hd_Message, h_po_Message, h_sa_Message⟩
  mk_Message := ⟨h_mk_Message, h_a_Message_init, h_i_Message_init, h_kc_Message⟩
  g_Message := PySem.W.mg_of X G h_g_Message
  na_Message_who := h_na_Message_who
  na_Message_answered := h_na_Message_answered
  na_Message_changes := h_na_Message_changes
  na_Message_gone := h_na_Message_gone
  na_Message_text := h_na_Message_text
  na_Message_words := h_na_Message_words
  na_Message_marks := h_na_Message_marks
  me_Message_put_text := ⟨h_a_Message_put_text, h_i_Message_put_text, h_k_Message_put_text⟩
  me_Message_take_away := ⟨h_a_Message_take_away, h_i_Message_take_away, h_k_Message_take_away⟩
  cl_Member := ⟨h_pg_Member, h_hd_Member, h_po_Member, h_sa_Member⟩
  mk_Member := ⟨h_mk_Member, h_a_Member_init, h_i_Member_init, h_kc_Member⟩
  g_Member := PySem.W.mg_of X G h_g_Member
  na_Member_who := h_na_Member_who
  na_Member_keeper := h_na_Member_keeper
  na_Member_first := h_na_Member_first
  na_Member_read := h_na_Member_read
  cl_Room := ⟨h_pg_Room, h_hd_Room, h_po_Room, h_sa_Room⟩
  mk_Room := ⟨h_mk_Room, h_a_Room_init, h_i_Room_init, h_kc_Room⟩
  g_Room := PySem.W.mg_of X G h_g_Room
  na_Room_past := h_na_Room_past
  na_Room_members := h_na_Room_members
  na_Room_invited := h_na_Room_invited
  na_Room_messages := h_na_Room_messages
  me_Room_find_member := ⟨h_a_Room_find_member, h_i_Room_find_member, h_k_Room_find_member⟩
  me_Room_is_keeper := ⟨h_a_Room_is_keeper, h_i_Room_is_keeper, h_k_Room_is_keeper⟩
  me_Room_is_invited := ⟨h_a_Room_is_invited, h_i_Room_is_invited, h_k_Room_is_invited⟩
  me_Room_has_or_awaits := ⟨h_a_Room_has_or_awaits, h_i_Room_has_or_awaits, h_k_Room_has_or_awaits⟩
  me_Room_enter := ⟨h_a_Room_enter, h_i_Room_enter, h_k_Room_enter⟩
  me_Room_forget := ⟨h_a_Room_forget, h_i_Room_forget, h_k_Room_forget⟩
  me_Room_seen_message := ⟨h_a_Room_seen_message, h_i_Room_seen_message, h_k_Room_seen_message⟩
  me_Room_standing_message := ⟨h_a_Room_standing_message, h_i_Room_standing_message, h_k_Room_standing_message⟩
  cl_House := ⟨h_pg_House, h_hd_House, h_po_House, h_sa_House⟩
  mk_House := ⟨h_mk_House, h_a_House_init, h_i_House_init, h_kc_House⟩
  g_House := PySem.W.mg_of X G h_g_House
  na_House_founded := h_na_House_founded
  me_House_begin := ⟨h_a_House_begin, h_i_House_begin, h_k_House_begin⟩
  me_House_find_room := ⟨h_a_House_find_room, h_i_House_find_room, h_k_House_find_room⟩
  me_House_all_rooms := ⟨h_a_House_all_rooms, h_i_House_all_rooms, h_k_House_all_rooms⟩
  g_is_text := PySem.W.mg_of X G h_a_is_text
  g_is_word := PySem.W.mg_of X G h_a_is_word
  g_small := PySem.W.mg_of X G h_a_small
  g_is_of_words := PySem.W.mg_of X G h_a_is_of_words
  g_word_key := PySem.W.mg_of X G h_a_word_key
  g_words_of := PySem.W.mg_of X G h_a_words_of
  g_kth_room := PySem.W.mg_of X G h_a_kth_room
  g_standing_in := PySem.W.mg_of X G h_a_standing_in
  g_kth_person := PySem.W.mg_of X G h_a_kth_person
  g_kth_found := PySem.W.mg_of X G h_a_kth_found
  g_seen_with_word := PySem.W.mg_of X G h_a_seen_with_word
  g_found := PySem.W.mg_of X G h_a_found
  g_invite := PySem.W.mg_of X G h_a_invite
  g_join := PySem.W.mg_of X G h_a_join
  g_leave := PySem.W.mg_of X G h_a_leave
  g_put_out := PySem.W.mg_of X G h_a_put_out
  g_lift := PySem.W.mg_of X G h_a_lift
  g_show_past := PySem.W.mg_of X G h_a_show_past
  g_seen := PySem.W.mg_of X G h_a_seen
  g_read := PySem.W.mg_of X G h_a_read
  g_unread := PySem.W.mg_of X G h_a_unread
  g_say := PySem.W.mg_of X G h_a_say
  g_change := PySem.W.mg_of X G h_a_change
  g_remove := PySem.W.mg_of X G h_a_remove
  g_mark := PySem.W.mg_of X G h_a_mark
  g_answers := PySem.W.mg_of X G h_a_answers
  g_answer_to := PySem.W.mg_of X G h_a_answer_to
  g_is_invalid := PySem.W.mg_of X G h_a_is_invalid
  g_answer_in_room := PySem.W.mg_of X G h_a_answer_in_room
  g_answer_of_keeper := PySem.W.mg_of X G h_a_answer_of_keeper
  g_answer_on_message := PySem.W.mg_of X G h_a_answer_on_message
  g_LONGEST_TEXT := PySem.W.mg_of X G h_g_LONGEST_TEXT
  g_LONGEST_WORD := PySem.W.mg_of X G h_g_LONGEST_WORD
  g_BLANK := PySem.W.mg_of X G h_g_BLANK
  g_FIRST_BYTE := PySem.W.mg_of X G h_g_FIRST_BYTE
  g_LAST_BYTE := PySem.W.mg_of X G h_g_LAST_BYTE
  g_DIGIT_0 := PySem.W.mg_of X G h_g_DIGIT_0
  g_DIGIT_9 := PySem.W.mg_of X G h_g_DIGIT_9
  g_CAPITAL_A := PySem.W.mg_of X G h_g_CAPITAL_A
  g_CAPITAL_Z := PySem.W.mg_of X G h_g_CAPITAL_Z
  g_SMALL_A := PySem.W.mg_of X G h_g_SMALL_A
  g_SMALL_Z := PySem.W.mg_of X G h_g_SMALL_Z
  g_NOT_ALLOWED := PySem.W.mg_of X G h_g_NOT_ALLOWED
  g_UNKNOWN_ROOM := PySem.W.mg_of X G h_g_UNKNOWN_ROOM
  g_ALREADY_SO := PySem.W.mg_of X G h_g_ALREADY_SO
  g_INVALID := PySem.W.mg_of X G h_g_INVALID
  g_FULL := PySem.W.mg_of X G h_g_FULL
  g_NOT_THERE := PySem.W.mg_of X G h_g_NOT_THERE
  g_PEOPLE := PySem.W.mg_of X G h_g_PEOPLE
  g_KINDS := PySem.W.mg_of X G h_g_KINDS
  g_ROOMS_OF_ONE_FOUNDER := PySem.W.mg_of X G h_g_ROOMS_OF_ONE_FOUNDER
  g_PLACES := PySem.W.mg_of X G h_g_PLACES
  g_MOST_MESSAGES := PySem.W.mg_of X G h_g_MOST_MESSAGES
  g_MOST_CHANGES := PySem.W.mg_of X G h_g_MOST_CHANGES
  g_BEGIN := PySem.W.mg_of X G h_g_BEGIN
  g_FOUND := PySem.W.mg_of X G h_g_FOUND
  g_INVITE := PySem.W.mg_of X G h_g_INVITE
  g_JOIN := PySem.W.mg_of X G h_g_JOIN
  g_LEAVE := PySem.W.mg_of X G h_g_LEAVE
  g_OUT := PySem.W.mg_of X G h_g_OUT
  g_LIFT := PySem.W.mg_of X G h_g_LIFT
  g_PAST := PySem.W.mg_of X G h_g_PAST
  g_SAY := PySem.W.mg_of X G h_g_SAY
  g_CHANGE := PySem.W.mg_of X G h_g_CHANGE
  g_REMOVE := PySem.W.mg_of X G h_g_REMOVE
  g_MARK := PySem.W.mg_of X G h_g_MARK
  g_READ := PySem.W.mg_of X G h_g_READ
  g_UNREAD := PySem.W.mg_of X G h_g_UNREAD
  g_KTH_ROOM := PySem.W.mg_of X G h_g_KTH_ROOM
  g_KTH_PERSON := PySem.W.mg_of X G h_g_KTH_PERSON
  g_FIND := PySem.W.mg_of X G h_g_FIND
  g_NUMBERS := PySem.W.mg_of X G h_g_NUMBERS
  q_NUMBERS := fun H => Or.inr ⟨_, _, _, h_q_NUMBERS, rfl, rfl, (by show 18 ≤ sizeLine; decide), (.cons ⟨_, rfl⟩ (.cons ⟨_, rfl⟩ (.cons ⟨_, rfl⟩ (.cons ⟨_, rfl⟩ (.cons ⟨_, rfl⟩ (.cons ⟨_, rfl⟩ (.cons ⟨_, rfl⟩ (.cons ⟨_, rfl⟩ (.cons ⟨_, rfl⟩ (.cons ⟨_, rfl⟩ (.cons ⟨_, rfl⟩ (.cons ⟨_, rfl⟩ (.cons ⟨_, rfl⟩ (.cons ⟨_, rfl⟩ (.cons ⟨_, rfl⟩ (.cons ⟨_, rfl⟩ (.cons ⟨_, rfl⟩ (.cons ⟨_, rfl⟩ .nil))))))))))))))))))⟩
  b_all := PySem.W.mg_none_of X G h_b_all
  b_any := PySem.W.mg_none_of X G h_b_any
  b_enumerate := PySem.W.mg_none_of X G h_b_enumerate
  b_len := PySem.W.mg_none_of X G h_b_len
  b_range := PySem.W.mg_none_of X G h_b_range
  b_tuple := PySem.W.mg_none_of X G h_b_tuple
  d_is_text := ⟨_, fun_mk (st := s_is_text) h_l_is_text h_c_is_text h_k_is_text⟩
  d_is_word := ⟨_, fun_mk (st := s_is_word) h_l_is_word h_c_is_word h_k_is_word⟩
  d_small := ⟨_, fun_mk (st := s_small) h_l_small h_c_small h_k_small⟩
  d_is_of_words := ⟨_, fun_mk (st := s_is_of_words) h_l_is_of_words h_c_is_of_words h_k_is_of_words⟩
  d_word_key := ⟨_, fun_mk (st := s_word_key) h_l_word_key h_c_word_key h_k_word_key⟩
  d_words_of := ⟨_, fun_mk (st := s_words_of) h_l_words_of h_c_words_of h_k_words_of⟩
  d_kth_room := ⟨_, fun_mk (st := s_kth_room) h_l_kth_room h_c_kth_room h_k_kth_room⟩
  d_standing_in := ⟨_, fun_mk (st := s_standing_in) h_l_standing_in h_c_standing_in h_k_standing_in⟩
  d_kth_person := ⟨_, fun_mk (st := s_kth_person) h_l_kth_person h_c_kth_person h_k_kth_person⟩
  d_kth_found := ⟨_, fun_mk (st := s_kth_found) h_l_kth_found h_c_kth_found h_k_kth_found⟩
  d_seen_with_word := ⟨_, fun_mk (st := s_seen_with_word) h_l_seen_with_word h_c_seen_with_word h_k_seen_with_word⟩
  d_Message_init := ⟨_, fun_mk (st := s_Message_init) h_l_Message_init h_c_Message_init h_k_Message_init⟩
  d_Message_put_text := ⟨_, fun_mk (st := s_Message_put_text) h_l_Message_put_text h_c_Message_put_text h_k_Message_put_text⟩
  d_Message_take_away := ⟨_, fun_mk (st := s_Message_take_away) h_l_Message_take_away h_c_Message_take_away h_k_Message_take_away⟩
  d_Member_init := ⟨_, fun_mk (st := s_Member_init) h_l_Member_init h_c_Member_init h_k_Member_init⟩
  d_Room_init := ⟨_, fun_mk (st := s_Room_init) h_l_Room_init h_c_Room_init h_k_Room_init⟩
  d_Room_find_member := ⟨_, fun_mk (st := s_Room_find_member) h_l_Room_find_member h_c_Room_find_member h_k_Room_find_member⟩
  d_Room_is_keeper := ⟨_, fun_mk (st := s_Room_is_keeper) h_l_Room_is_keeper h_c_Room_is_keeper h_k_Room_is_keeper⟩
  d_Room_is_invited := ⟨_, fun_mk (st := s_Room_is_invited) h_l_Room_is_invited h_c_Room_is_invited h_k_Room_is_invited⟩
  d_Room_has_or_awaits := ⟨_, fun_mk (st := s_Room_has_or_awaits) h_l_Room_has_or_awaits h_c_Room_has_or_awaits h_k_Room_has_or_awaits⟩
  d_Room_enter := ⟨_, fun_mk (st := s_Room_enter) h_l_Room_enter h_c_Room_enter h_k_Room_enter⟩
  d_Room_forget := ⟨_, fun_mk (st := s_Room_forget) h_l_Room_forget h_c_Room_forget h_k_Room_forget⟩
  d_Room_seen_message := ⟨_, fun_mk (st := s_Room_seen_message) h_l_Room_seen_message h_c_Room_seen_message h_k_Room_seen_message⟩
  d_Room_standing_message := ⟨_, fun_mk (st := s_Room_standing_message) h_l_Room_standing_message h_c_Room_standing_message h_k_Room_standing_message⟩
  d_House_init := ⟨_, fun_mk (st := s_House_init) h_l_House_init h_c_House_init h_k_House_init⟩
  d_House_begin := ⟨_, fun_mk (st := s_House_begin) h_l_House_begin h_c_House_begin h_k_House_begin⟩
  d_House_find_room := ⟨_, fun_mk (st := s_House_find_room) h_l_House_find_room h_c_House_find_room h_k_House_find_room⟩
  d_House_all_rooms := ⟨_, fun_mk (st := s_House_all_rooms) h_l_House_all_rooms h_c_House_all_rooms h_k_House_all_rooms⟩
  d_found := ⟨_, fun_mk (st := s_found) h_l_found h_c_found h_k_found⟩
  d_invite := ⟨_, fun_mk (st := s_invite) h_l_invite h_c_invite h_k_invite⟩
  d_join := ⟨_, fun_mk (st := s_join) h_l_join h_c_join h_k_join⟩
  d_leave := ⟨_, fun_mk (st := s_leave) h_l_leave h_c_leave h_k_leave⟩
  d_put_out := ⟨_, fun_mk (st := s_put_out) h_l_put_out h_c_put_out h_k_put_out⟩
  d_lift := ⟨_, fun_mk (st := s_lift) h_l_lift h_c_lift h_k_lift⟩
  d_show_past := ⟨_, fun_mk (st := s_show_past) h_l_show_past h_c_show_past h_k_show_past⟩
  d_seen := ⟨_, fun_mk (st := s_seen) h_l_seen h_c_seen h_k_seen⟩
  d_read := ⟨_, fun_mk (st := s_read) h_l_read h_c_read h_k_read⟩
  d_unread := ⟨_, fun_mk (st := s_unread) h_l_unread h_c_unread h_k_unread⟩
  d_say := ⟨_, fun_mk (st := s_say) h_l_say h_c_say h_k_say⟩
  d_change := ⟨_, fun_mk (st := s_change) h_l_change h_c_change h_k_change⟩
  d_remove := ⟨_, fun_mk (st := s_remove) h_l_remove h_c_remove h_k_remove⟩
  d_mark := ⟨_, fun_mk (st := s_mark) h_l_mark h_c_mark h_k_mark⟩
  d_answers := ⟨_, fun_mk (st := s_answers) h_l_answers h_c_answers h_k_answers⟩
  d_answer_to := ⟨_, fun_mk (st := s_answer_to) h_l_answer_to h_c_answer_to h_k_answer_to⟩
  d_is_invalid := ⟨_, fun_mk (st := s_is_invalid) h_l_is_invalid h_c_is_invalid h_k_is_invalid⟩
  d_answer_in_room := ⟨_, fun_mk (st := s_answer_in_room) h_l_answer_in_room h_c_answer_in_room h_k_answer_in_room⟩
  d_answer_of_keeper := ⟨_, fun_mk (st := s_answer_of_keeper) h_l_answer_of_keeper h_c_answer_of_keeper h_k_answer_of_keeper⟩
  d_answer_on_message := ⟨_, fun_mk (st := s_answer_on_message) h_l_answer_on_message h_c_answer_on_message h_k_answer_on_message⟩
def sp_ans (K : PySem.W.Frag) : Sp := fun vs H Q _ => ∃ (a : Addr) (ns : List Int), vs = [.ref a] ∧ SqL K H a (ns.map V.int) ∧ PyKcs8.answers_asked ns = true ∧
  ∀ (H' : Hp) (p : Addr), H' p = some (.lst ((PyKcs8.answers ns).map V.int)) → Q (.ref p) H'
theorem ok_all {P : Program} {w : World} {K : PySem.W.Frag} {mg : Str → Option Value} {base : Heap} {A : Ad} (T : Txt K mg A) {fd : FuncData} (F : Fun K "answers" "answers" s_answers A.answers fd) : FnOk P w K mg base CX0 9 A.answers fd ["calls"] (sp_ans K) := by
  have O_is_text := ok_is_text (P := P) (w := w) (base := base) T 
  have O_is_of_words := ok_is_of_words (P := P) (w := w) (base := base) T 
  have O_small := ok_small (P := P) (w := w) (base := base) T 
  have O_is_word := ok_is_word (P := P) (w := w) (base := base) T O_is_of_words O_small
  have O_word_key := ok_word_key (P := P) (w := w) (base := base) T O_small
  have O_words_of := ok_words_of (P := P) (w := w) (base := base) T O_is_of_words O_small
  have O_Room_find_member := ok_Room_find_member (P := P) (w := w) (base := base) T 
  have O_Room_is_keeper := ok_Room_is_keeper (P := P) (w := w) (base := base) T O_Room_find_member
  have O_Room_is_invited := ok_Room_is_invited (P := P) (w := w) (base := base) T 
  have O_standing_in := ok_standing_in (P := P) (w := w) (base := base) T O_Room_is_keeper O_Room_is_invited
  have O_Room_has_or_awaits := ok_Room_has_or_awaits (P := P) (w := w) (base := base) T O_Room_find_member O_Room_is_invited
  have O_House_all_rooms := ok_House_all_rooms (P := P) (w := w) (base := base) T 
  have O_kth_room := ok_kth_room (P := P) (w := w) (base := base) T O_standing_in O_Room_has_or_awaits O_House_all_rooms
  have O_kth_person := ok_kth_person (P := P) (w := w) (base := base) T 
  have O_seen_with_word := ok_seen_with_word (P := P) (w := w) (base := base) T O_Room_find_member
  have O_kth_found := ok_kth_found (P := P) (w := w) (base := base) T O_House_all_rooms O_seen_with_word O_word_key
  have O_Message_init := ok_Message_init (P := P) (w := w) (base := base) T O_words_of
  have O_Message_put_text := ok_Message_put_text (P := P) (w := w) (base := base) T O_words_of
  have O_Message_take_away := ok_Message_take_away (P := P) (w := w) (base := base) T O_Message_put_text
  have O_Member_init := ok_Member_init (P := P) (w := w) (base := base) T 
  have O_Room_init := ok_Room_init (P := P) (w := w) (base := base) T 
  have O_Room_forget := ok_Room_forget (P := P) (w := w) (base := base) T 
  have O_Room_enter := ok_Room_enter (P := P) (w := w) (base := base) T O_Member_init O_Room_forget
  have O_Room_seen_message := ok_Room_seen_message (P := P) (w := w) (base := base) T O_Room_find_member
  have O_Room_standing_message := ok_Room_standing_message (P := P) (w := w) (base := base) T O_Room_seen_message
  have O_House_begin := ok_House_begin (P := P) (w := w) (base := base) T 
  have O_House_init := ok_House_init (P := P) (w := w) (base := base) T O_House_begin
  have O_House_find_room := ok_House_find_room (P := P) (w := w) (base := base) T 
  have O_found := ok_found (P := P) (w := w) (base := base) T O_Room_enter O_Room_init
  have O_invite := ok_invite (P := P) (w := w) (base := base) T O_Room_has_or_awaits O_Room_is_keeper
  have O_join := ok_join (P := P) (w := w) (base := base) T O_Room_enter O_Room_is_invited
  have O_leave := ok_leave (P := P) (w := w) (base := base) T O_Room_forget
  have O_put_out := ok_put_out (P := P) (w := w) (base := base) T O_Room_forget O_Room_has_or_awaits O_Room_is_keeper
  have O_lift := ok_lift (P := P) (w := w) (base := base) T O_Room_find_member O_Room_is_keeper
  have O_show_past := ok_show_past (P := P) (w := w) (base := base) T O_Room_is_keeper
  have O_seen := ok_seen (P := P) (w := w) (base := base) T O_Room_find_member O_Room_seen_message
  have O_read := ok_read (P := P) (w := w) (base := base) T O_Room_seen_message
  have O_unread := ok_unread (P := P) (w := w) (base := base) T O_Room_find_member
  have O_say := ok_say (P := P) (w := w) (base := base) T O_Message_init O_Room_standing_message
  have O_change := ok_change (P := P) (w := w) (base := base) T O_Message_put_text O_Room_standing_message
  have O_remove := ok_remove (P := P) (w := w) (base := base) T O_Message_take_away O_Room_is_keeper O_Room_standing_message
  have O_mark := ok_mark (P := P) (w := w) (base := base) T O_Room_standing_message
  have O_answer_on_message := ok_answer_on_message (P := P) (w := w) (base := base) T O_seen O_remove O_change O_say
  have O_answer_of_keeper := ok_answer_of_keeper (P := P) (w := w) (base := base) T O_show_past O_lift O_put_out O_invite
  have O_answer_in_room := ok_answer_in_room (P := P) (w := w) (base := base) T O_answer_on_message O_mark O_answer_of_keeper O_unread O_leave O_kth_person O_read O_Room_find_member O_join O_House_find_room
  have O_is_invalid := ok_is_invalid (P := P) (w := w) (base := base) T O_is_word O_is_text
  have O_answer_to := ok_answer_to (P := P) (w := w) (base := base) T O_answer_in_room O_kth_found O_kth_room O_found O_is_invalid O_House_begin
  refine (okF_answers (P := P) (w := w) (base := base) T O_answer_to O_House_init F).imp fun vs H Q E h => ?_
  obtain ⟨a, ns, rfl, hS, hask, k⟩ := h
  obtain ⟨ds, hds, hans, hlen⟩ := asked_calls hask
  refine ⟨a, ds, rfl, ?_, ?_, fun H' p hp => k H' p ?_⟩
  · rw [← flat_put, ← hds]
    exact hS
  · rw [← show PyKcs8.answers ns = PyFlat.told (runM m0 ds) from hans]
    exact hlen
  · rw [hp, hans]
    rfl
theorem fin_of {P : Program} {w : World} {K : PySem.W.Frag} {mg : Str → Option Value} {A : Ad} {fa : Addr} (T : Txt K mg A) (hfa : mg "answers" = some (.ref fa)) :
    ∃ fd : FuncData, (∀ (s : Shared) (us : List Value), us.length = (["calls"] : List Str).length → BindsTo s fd ⟨us, []⟩ ((["calls"] : List Str).zip us)) ∧ ∀ base : Heap, K.In base → base.Ns mainGlobals mg → FnOk P w K mg base CX0 9 fa fd ["calls"] (sp_ans K) := by
  have e := hfa.symm.trans T.g_answers
  cases e
  obtain ⟨fd, F⟩ := T.d_answers
  refine ⟨fd, fun s us hu => ?_, fun base _ _ => ok_all T F⟩
  obtain ⟨oc, od, kV, doc, pm, an, cdv, ct, osl, rfl, _, _⟩ := F.ex
  match us, hu with
  | [_], _ => exact .of_eq rfl
end TR
open PySem PySem.W PyProof.Rows
set_option maxRecDepth 100000 in
set_option maxHeartbeats 0 in
theorem PySem.Challenge.cw_talkrooms_s01_answers_holds : PySem.Challenge.rw_talkrooms_s01_answers.Holds := by
  w_on; k_headS; (case hw => exact ⟨[.list [.int 0]], by decide +kernel, by decide +kernel⟩)
  k_fillS
  refine L2.walk_specK (r := PySem.Challenge.rw_talkrooms_s01_answers) (k := 9) (CX := L2.CX0) (ps := ["calls"]) (sp := TR.sp_ans) (by decide +kernel) rfl rfl ⟨rfl, by decide, by decide⟩ (fun w h Y => PySem.W.kIn_of Y) ?F ?S (fun _ _ _ _ z => z)
  case F =>
    intro w mg fa h Y KX G hmg
    refine' TR.fin_of (TR.txt_mk KX G ?h_g_Message ?h_a_Message_init ?h_i_Message_init ?h_l_Message_init ?h_c_Message_init ?h_k_Message_init ?h_a_Message_put_text ?h_i_Message_put_text ?h_l_Message_put_text ?h_c_Message_put_text ?h_k_Message_put_text ?h_a_Message_take_away ?h_i_Message_take_away ?h_l_Message_take_away ?h_c_Message_take_away ?h_k_Message_take_away ?h_pg_Message ?h_hd_Message ?h_po_Message ?h_sa_Message ?h_mk_Message ?h_kc_Message ?h_na_Message_who ?h_na_Message_answered ?h_na_Message_changes ?h_na_Message_gone ?h_na_Message_text ?h_na_Message_words ?h_na_Message_marks ?h_g_Member ?h_a_Member_init ?h_i_Member_init ?h_l_Member_init ?h_c_Member_init ?h_k_Member_init ?h_pg_Member ?h_hd_Member ?h_po_Member ?h_sa_Member ?h_mk_Member ?h_kc_Member ?h_na_Member_who ?h_na_Member_keeper ?h_na_Member_first ?h_na_Member_read ?h_g_Room ?h_a_Room_init ?h_i_Room_init ?h_l_Room_init ?h_c_Room_init ?h_k_Room_init ?h_a_Room_find_member ?h_i_Room_find_member ?h_l_Room_find_member ?h_c_Room_find_member ?h_k_Room_find_member ?h_a_Room_is_keeper ?h_i_Room_is_keeper ?h_l_Room_is_keeper ?h_c_Room_is_keeper ?h_k_Room_is_keeper ?h_a_Room_is_invited ?h_i_Room_is_invited ?h_l_Room_is_invited ?h_c_Room_is_invited ?h_k_Room_is_invited ?h_a_Room_has_or_awaits ?h_i_Room_has_or_awaits ?h_l_Room_has_or_awaits ?h_c_Room_has_or_awaits ?h_k_Room_has_or_awaits ?h_a_Room_enter ?h_i_Room_enter ?h_l_Room_enter ?h_c_Room_enter ?h_k_Room_enter ?h_a_Room_forget ?h_i_Room_forget ?h_l_Room_forget ?h_c_Room_forget ?h_k_Room_forget ?h_a_Room_seen_message ?h_i_Room_seen_message ?h_l_Room_seen_message ?h_c_Room_seen_message ?h_k_Room_seen_message ?h_a_Room_standing_message ?h_i_Room_standing_message ?h_l_Room_standing_message ?h_c_Room_standing_message ?h_k_Room_standing_message ?h_pg_Room ?h_hd_Room ?h_po_Room ?h_sa_Room ?h_mk_Room ?h_kc_Room ?h_na_Room_past ?h_na_Room_members ?h_na_Room_invited ?h_na_Room_messages ?h_g_House ?h_a_House_init ?h_i_House_init ?h_l_House_init ?h_c_House_init ?h_k_House_init ?h_a_House_begin ?h_i_House_begin ?h_l_House_begin ?h_c_House_begin ?h_k_House_begin ?h_a_House_find_room ?h_i_House_find_room ?h_l_House_find_room ?h_c_House_find_room ?h_k_House_find_room ?h_a_House_all_rooms ?h_i_House_all_rooms ?h_l_House_all_rooms ?h_c_House_all_rooms ?h_k_House_all_rooms ?h_pg_House ?h_hd_House ?h_po_House ?h_sa_House ?h_mk_House ?h_kc_House ?h_na_House_founded ?h_a_is_text ?h_l_is_text ?h_c_is_text ?h_k_is_text ?h_a_is_word ?h_l_is_word ?h_c_is_word ?h_k_is_word ?h_a_small ?h_l_small ?h_c_small ?h_k_small ?h_a_is_of_words ?h_l_is_of_words ?h_c_is_of_words ?h_k_is_of_words ?h_a_word_key ?h_l_word_key ?h_c_word_key ?h_k_word_key ?h_a_words_of ?h_l_words_of ?h_c_words_of ?h_k_words_of ?h_a_kth_room ?h_l_kth_room ?h_c_kth_room ?h_k_kth_room ?h_a_standing_in ?h_l_standing_in ?h_c_standing_in ?h_k_standing_in ?h_a_kth_person ?h_l_kth_person ?h_c_kth_person ?h_k_kth_person ?h_a_kth_found ?h_l_kth_found ?h_c_kth_found ?h_k_kth_found ?h_a_seen_with_word ?h_l_seen_with_word ?h_c_seen_with_word ?h_k_seen_with_word ?h_a_found ?h_l_found ?h_c_found ?h_k_found ?h_a_invite ?h_l_invite ?h_c_invite ?h_k_invite ?h_a_join ?h_l_join ?h_c_join ?h_k_join ?h_a_leave ?h_l_leave ?h_c_leave ?h_k_leave ?h_a_put_out ?h_l_put_out ?h_c_put_out ?h_k_put_out ?h_a_lift ?h_l_lift ?h_c_lift ?h_k_lift ?h_a_show_past ?h_l_show_past ?h_c_show_past ?h_k_show_past ?h_a_seen ?h_l_seen ?h_c_seen ?h_k_seen ?h_a_read ?h_l_read ?h_c_read ?h_k_read ?h_a_unread ?h_l_unread ?h_c_unread ?h_k_unread ?h_a_say ?h_l_say ?h_c_say ?h_k_say ?h_a_change ?h_l_change ?h_c_change ?h_k_change ?h_a_remove ?h_l_remove ?h_c_remove ?h_k_remove ?h_a_mark ?h_l_mark ?h_c_mark ?h_k_mark ?h_a_answers ?h_l_answers ?h_c_answers ?h_k_answers ?h_a_answer_to ?h_l_answer_to ?h_c_answer_to ?h_k_answer_to ?h_a_is_invalid ?h_l_is_invalid ?h_c_is_invalid ?h_k_is_invalid ?h_a_answer_in_room ?h_l_answer_in_room ?h_c_answer_in_room ?h_k_answer_in_room ?h_a_answer_of_keeper ?h_l_answer_of_keeper ?h_c_answer_of_keeper ?h_k_answer_of_keeper ?h_a_answer_on_message ?h_l_answer_on_message ?h_c_answer_on_message ?h_k_answer_on_message ?h_g_LONGEST_TEXT ?h_g_LONGEST_WORD ?h_g_BLANK ?h_g_FIRST_BYTE ?h_g_LAST_BYTE ?h_g_DIGIT_0 ?h_g_DIGIT_9 ?h_g_CAPITAL_A ?h_g_CAPITAL_Z ?h_g_SMALL_A ?h_g_SMALL_Z ?h_g_NOT_ALLOWED ?h_g_UNKNOWN_ROOM ?h_g_ALREADY_SO ?h_g_INVALID ?h_g_FULL ?h_g_NOT_THERE ?h_g_PEOPLE ?h_g_KINDS ?h_g_ROOMS_OF_ONE_FOUNDER ?h_g_PLACES ?h_g_MOST_MESSAGES ?h_g_MOST_CHANGES ?h_g_BEGIN ?h_g_FOUND ?h_g_INVITE ?h_g_JOIN ?h_g_LEAVE ?h_g_OUT ?h_g_LIFT ?h_g_PAST ?h_g_SAY ?h_g_CHANGE ?h_g_REMOVE ?h_g_MARK ?h_g_READ ?h_g_UNREAD ?h_g_KTH_ROOM ?h_g_KTH_PERSON ?h_g_FIND ?h_g_NUMBERS ?h_q_NUMBERS ?h_b_all ?h_b_any ?h_b_enumerate ?h_b_len ?h_b_range ?h_b_tuple) hmg
    (case h_g_Message => k_is)
    (case h_a_Message_init => k_is)
    (case h_i_Message_init => k_is)
    (case h_l_Message_init => k_is)
    (case h_c_Message_init => k_is)
    (case h_k_Message_init => k_is)
    (case h_a_Message_put_text => k_is)
    (case h_i_Message_put_text => k_is)
    (case h_l_Message_put_text => k_is)
    (case h_c_Message_put_text => k_is)
    (case h_k_Message_put_text => k_is)
    (case h_a_Message_take_away => k_is)
    (case h_i_Message_take_away => k_is)
    (case h_l_Message_take_away => k_is)
    (case h_c_Message_take_away => k_is)
    (case h_k_Message_take_away => k_is)
    (case h_pg_Message => k_is)
    (case h_hd_Message => k_is)
    (case h_po_Message => k_is)
    (case h_sa_Message => k_is)
    (case h_mk_Message => k_is)
    (case h_kc_Message => k_is)
    (case h_na_Message_who => k_is)
    (case h_na_Message_answered => k_is)
    (case h_na_Message_changes => k_is)
    (case h_na_Message_gone => k_is)
    (case h_na_Message_text => k_is)
    (case h_na_Message_words => k_is)
    (case h_na_Message_marks => k_is)
    (case h_g_Member => k_is)
    (case h_a_Member_init => k_is)
    (case h_i_Member_init => k_is)
    (case h_l_Member_init => k_is)
    (case h_c_Member_init => k_is)
    (case h_k_Member_init => k_is)
    (case h_pg_Member => k_is)
    (case h_hd_Member => k_is)
    (case h_po_Member => k_is)
    (case h_sa_Member => k_is)
    (case h_mk_Member => k_is)
    (case h_kc_Member => k_is)
    (case h_na_Member_who => k_is)
    (case h_na_Member_keeper => k_is)
    (case h_na_Member_first => k_is)
    (case h_na_Member_read => k_is)
    (case h_g_Room => k_is)
    (case h_a_Room_init => k_is)
    (case h_i_Room_init => k_is)
    (case h_l_Room_init => k_is)
    (case h_c_Room_init => k_is)
    (case h_k_Room_init => k_is)
    (case h_a_Room_find_member => k_is)
    (case h_i_Room_find_member => k_is)
    (case h_l_Room_find_member => k_is)
    (case h_c_Room_find_member => k_is)
    (case h_k_Room_find_member => k_is)
    (case h_a_Room_is_keeper => k_is)
    (case h_i_Room_is_keeper => k_is)
    (case h_l_Room_is_keeper => k_is)
    (case h_c_Room_is_keeper => k_is)
    (case h_k_Room_is_keeper => k_is)
    (case h_a_Room_is_invited => k_is)
    (case h_i_Room_is_invited => k_is)
    (case h_l_Room_is_invited => k_is)
    (case h_c_Room_is_invited => k_is)
    (case h_k_Room_is_invited => k_is)
    (case h_a_Room_has_or_awaits => k_is)
    (case h_i_Room_has_or_awaits => k_is)
    (case h_l_Room_has_or_awaits => k_is)
    (case h_c_Room_has_or_awaits => k_is)
    (case h_k_Room_has_or_awaits => k_is)
    (case h_a_Room_enter => k_is)
    (case h_i_Room_enter => k_is)
    (case h_l_Room_enter => k_is)
    (case h_c_Room_enter => k_is)
    (case h_k_Room_enter => k_is)
    (case h_a_Room_forget => k_is)
    (case h_i_Room_forget => k_is)
    (case h_l_Room_forget => k_is)
    (case h_c_Room_forget => k_is)
    (case h_k_Room_forget => k_is)
    (case h_a_Room_seen_message => k_is)
    (case h_i_Room_seen_message => k_is)
    (case h_l_Room_seen_message => k_is)
    (case h_c_Room_seen_message => k_is)
    (case h_k_Room_seen_message => k_is)
    (case h_a_Room_standing_message => k_is)
    (case h_i_Room_standing_message => k_is)
    (case h_l_Room_standing_message => k_is)
    (case h_c_Room_standing_message => k_is)
    (case h_k_Room_standing_message => k_is)
    (case h_pg_Room => k_is)
    (case h_hd_Room => k_is)
    (case h_po_Room => k_is)
    (case h_sa_Room => k_is)
    (case h_mk_Room => k_is)
    (case h_kc_Room => k_is)
    (case h_na_Room_past => k_is)
    (case h_na_Room_members => k_is)
    (case h_na_Room_invited => k_is)
    (case h_na_Room_messages => k_is)
    (case h_g_House => k_is)
    (case h_a_House_init => k_is)
    (case h_i_House_init => k_is)
    (case h_l_House_init => k_is)
    (case h_c_House_init => k_is)
    (case h_k_House_init => k_is)
    (case h_a_House_begin => k_is)
    (case h_i_House_begin => k_is)
    (case h_l_House_begin => k_is)
    (case h_c_House_begin => k_is)
    (case h_k_House_begin => k_is)
    (case h_a_House_find_room => k_is)
    (case h_i_House_find_room => k_is)
    (case h_l_House_find_room => k_is)
    (case h_c_House_find_room => k_is)
    (case h_k_House_find_room => k_is)
    (case h_a_House_all_rooms => k_is)
    (case h_i_House_all_rooms => k_is)
    (case h_l_House_all_rooms => k_is)
    (case h_c_House_all_rooms => k_is)
    (case h_k_House_all_rooms => k_is)
    (case h_pg_House => k_is)
    (case h_hd_House => k_is)
    (case h_po_House => k_is)
    (case h_sa_House => k_is)
    (case h_mk_House => k_is)
    (case h_kc_House => k_is)
    (case h_na_House_founded => k_is)
    (case h_a_is_text => k_is)
    (case h_l_is_text => k_is)
    (case h_c_is_text => k_is)
    (case h_k_is_text => k_is)
    (case h_a_is_word => k_is)
    (case h_l_is_word => k_is)
    (case h_c_is_word => k_is)
    (case h_k_is_word => k_is)
    (case h_a_small => k_is)
    (case h_l_small => k_is)
    (case h_c_small => k_is)
    (case h_k_small => k_is)
    (case h_a_is_of_words => k_is)
    (case h_l_is_of_words => k_is)
    (case h_c_is_of_words => k_is)
    (case h_k_is_of_words => k_is)
    (case h_a_word_key => k_is)
    (case h_l_word_key => k_is)
    (case h_c_word_key => k_is)
    (case h_k_word_key => k_is)
    (case h_a_words_of => k_is)
    (case h_l_words_of => k_is)
    (case h_c_words_of => k_is)
    (case h_k_words_of => k_is)
    (case h_a_kth_room => k_is)
    (case h_l_kth_room => k_is)
    (case h_c_kth_room => k_is)
    (case h_k_kth_room => k_is)
    (case h_a_standing_in => k_is)
    (case h_l_standing_in => k_is)
    (case h_c_standing_in => k_is)
    (case h_k_standing_in => k_is)
    (case h_a_kth_person => k_is)
    (case h_l_kth_person => k_is)
    (case h_c_kth_person => k_is)
    (case h_k_kth_person => k_is)
    (case h_a_kth_found => k_is)
    (case h_l_kth_found => k_is)
    (case h_c_kth_found => k_is)
    (case h_k_kth_found => k_is)
    (case h_a_seen_with_word => k_is)
    (case h_l_seen_with_word => k_is)
    (case h_c_seen_with_word => k_is)
    (case h_k_seen_with_word => k_is)
    (case h_a_found => k_is)
    (case h_l_found => k_is)
    (case h_c_found => k_is)
    (case h_k_found => k_is)
    (case h_a_invite => k_is)
    (case h_l_invite => k_is)
    (case h_c_invite => k_is)
    (case h_k_invite => k_is)
    (case h_a_join => k_is)
    (case h_l_join => k_is)
    (case h_c_join => k_is)
    (case h_k_join => k_is)
    (case h_a_leave => k_is)
    (case h_l_leave => k_is)
    (case h_c_leave => k_is)
    (case h_k_leave => k_is)
    (case h_a_put_out => k_is)
    (case h_l_put_out => k_is)
    (case h_c_put_out => k_is)
    (case h_k_put_out => k_is)
    (case h_a_lift => k_is)
    (case h_l_lift => k_is)
    (case h_c_lift => k_is)
    (case h_k_lift => k_is)
    (case h_a_show_past => k_is)
    (case h_l_show_past => k_is)
    (case h_c_show_past => k_is)
    (case h_k_show_past => k_is)
    (case h_a_seen => k_is)
    (case h_l_seen => k_is)
    (case h_c_seen => k_is)
    (case h_k_seen => k_is)
    (case h_a_read => k_is)
    (case h_l_read => k_is)
    (case h_c_read => k_is)
    (case h_k_read => k_is)
    (case h_a_unread => k_is)
    (case h_l_unread => k_is)
    (case h_c_unread => k_is)
    (case h_k_unread => k_is)
    (case h_a_say => k_is)
    (case h_l_say => k_is)
    (case h_c_say => k_is)
    (case h_k_say => k_is)
    (case h_a_change => k_is)
    (case h_l_change => k_is)
    (case h_c_change => k_is)
    (case h_k_change => k_is)
    (case h_a_remove => k_is)
    (case h_l_remove => k_is)
    (case h_c_remove => k_is)
    (case h_k_remove => k_is)
    (case h_a_mark => k_is)
    (case h_l_mark => k_is)
    (case h_c_mark => k_is)
    (case h_k_mark => k_is)
    (case h_a_answers => k_is)
    (case h_l_answers => k_is)
    (case h_c_answers => k_is)
    (case h_k_answers => k_is)
    (case h_a_answer_to => k_is)
    (case h_l_answer_to => k_is)
    (case h_c_answer_to => k_is)
    (case h_k_answer_to => k_is)
    (case h_a_is_invalid => k_is)
    (case h_l_is_invalid => k_is)
    (case h_c_is_invalid => k_is)
    (case h_k_is_invalid => k_is)
    (case h_a_answer_in_room => k_is)
    (case h_l_answer_in_room => k_is)
    (case h_c_answer_in_room => k_is)
    (case h_k_answer_in_room => k_is)
    (case h_a_answer_of_keeper => k_is)
    (case h_l_answer_of_keeper => k_is)
    (case h_c_answer_of_keeper => k_is)
    (case h_k_answer_of_keeper => k_is)
    (case h_a_answer_on_message => k_is)
    (case h_l_answer_on_message => k_is)
    (case h_c_answer_on_message => k_is)
    (case h_k_answer_on_message => k_is)
    (case h_g_LONGEST_TEXT => k_is)
    (case h_g_LONGEST_WORD => k_is)
    (case h_g_BLANK => k_is)
    (case h_g_FIRST_BYTE => k_is)
    (case h_g_LAST_BYTE => k_is)
    (case h_g_DIGIT_0 => k_is)
    (case h_g_DIGIT_9 => k_is)
    (case h_g_CAPITAL_A => k_is)
    (case h_g_CAPITAL_Z => k_is)
    (case h_g_SMALL_A => k_is)
    (case h_g_SMALL_Z => k_is)
    (case h_g_NOT_ALLOWED => k_is)
    (case h_g_UNKNOWN_ROOM => k_is)
    (case h_g_ALREADY_SO => k_is)
    (case h_g_INVALID => k_is)
    (case h_g_FULL => k_is)
    (case h_g_NOT_THERE => k_is)
    (case h_g_PEOPLE => k_is)
    (case h_g_KINDS => k_is)
    (case h_g_ROOMS_OF_ONE_FOUNDER => k_is)
    (case h_g_PLACES => k_is)
    (case h_g_MOST_MESSAGES => k_is)
    (case h_g_MOST_CHANGES => k_is)
    (case h_g_BEGIN => k_is)
    (case h_g_FOUND => k_is)
    (case h_g_INVITE => k_is)
    (case h_g_JOIN => k_is)
    (case h_g_LEAVE => k_is)
    (case h_g_OUT => k_is)
    (case h_g_LIFT => k_is)
    (case h_g_PAST => k_is)
    (case h_g_SAY => k_is)
    (case h_g_CHANGE => k_is)
    (case h_g_REMOVE => k_is)
    (case h_g_MARK => k_is)
    (case h_g_READ => k_is)
    (case h_g_UNREAD => k_is)
    (case h_g_KTH_ROOM => k_is)
    (case h_g_KTH_PERSON => k_is)
    (case h_g_FIND => k_is)
    (case h_g_NUMBERS => k_is)
    (case h_q_NUMBERS => k_is)
    (case h_b_all => k_is)
    (case h_b_any => k_is)
    (case h_b_enumerate => k_is)
    (case h_b_len => k_is)
    (case h_b_range => k_is)
    (case h_b_tuple => k_is)
  case S =>
    intro K H xs a hO hwi hask hx
    cases hx with
    | cons h1 h2 =>
      cases h2
      cases h1 with
      | lst hs ha =>
        have e := L2.ints_dw a.1 _ ha
        subst e
        exact ⟨_, a.1, rfl, hs, hask, fun H' p hp => .lst (L2.SqL.of hp) (L2.dw_ints _)⟩
#print axioms PySem.Challenge.cw_talkrooms_s01_answers_holds

