import PyProof.Rows.All
import Wide.All
import OpenK.AllK
import Wide.FinOn
import HandS.ForMost
import HandS.Strs
import HandS.IsInst
import HandS.Wide
import HandS.Walk
import KE.GoesEnum
import KE.GoesMore
import HandS.TupAny
import HandS.DictComp
import HandS.Deep
import HandS.Style
import HandS.Ends
import HandS.ExcOwn
import HandS.ExcInit
import PyProof.Rows.RegFStrParts
import HandS.More
import HandS.Star
import HandS.SetKeys
import HandS.WideBits
import KE.KBits
import KE.OsArith
import PyProof.Rows.RuleB_and
import PyProof.Rows.RuleB_or
import HandS.Exc
import HandS.ExcField
import HandS.ExcIs
import KE.KExcIs
import KE.KExcInit
import PyProof.P3Eq
import PySem.Challenge.RW_nextbehind_k07_merges_related
set_option linter.all false
set_option maxRecDepth 100000
/-! Merges of rows, and a merge that is made with a head in each row. No Python here. -/
namespace Nb.Mg
variable {α : Type} [DecidableEq α]
def alive (gone : List α) (rows : List (List α)) : List (List α) := rows.map fun r => r.filter fun x => decide (x ∉ gone)
def good (rows : List (List α)) (x : α) : Bool := rows.all fun r => decide (x ∉ r.tail)
def pick (rows : List (List α)) : Option α := (rows.filterMap List.head?).find? (good rows)
def without (x : α) (rows : List (List α)) : List (List α) := rows.map fun r => r.filter fun y => decide (y ≠ x)
/-- the names that a merge takes until it is done or stuck -/
def greedy : Nat → List (List α) → List α
  | 0, _ => []
  | n + 1, rows => match pick rows with
    | none => []
    | some x => x :: greedy n (without x rows)
theorem without_alive (gone : List α) (rows : List (List α)) (x : α) : without x (alive gone rows) = alive (gone ++ [x]) rows := by
  unfold without alive
  rw [List.map_map]
  refine List.map_congr_left fun r _ => ?_
  show (r.filter _).filter _ = _
  rw [List.filter_filter]
  refine List.filter_congr fun y _ => ?_
  simp
  exact Bool.and_comm _ _
theorem alive_nil (rows : List (List α)) : alive [] rows = rows := by
  unfold alive
  conv => rhs; rw [← List.map_id rows]
  refine List.map_congr_left fun r _ => ?_
  exact List.filter_eq_self.mpr fun _ _ => by simp
theorem pick_at {l1 l2 : List (List α)} {r : List α} {x : α} {all : List (List α)} (h : r.head? = some x) (g : good all x = true) (no : ∀ r' ∈ l1, ∀ y, r'.head? = some y → good all y = false) : ((l1 ++ r :: l2).filterMap List.head?).find? (good all) = some x := by
  induction l1 with
  | nil =>
    rw [List.nil_append, List.filterMap_cons, h]
    simp [g]
  | cons a l ih =>
    rw [List.cons_append, List.filterMap_cons]
    have ih := ih fun r' hr => no r' (List.mem_cons_of_mem _ hr)
    cases e : a.head? with
    | none => exact ih
    | some y =>
      have := no a (List.mem_cons_self ..) y e
      simp only [List.find?_cons, this]
      exact ih
theorem pick_none {rows all : List (List α)} (no : ∀ r' ∈ rows, ∀ y, r'.head? = some y → good all y = false) : (rows.filterMap List.head?).find? (good all) = none := by
  rw [List.find?_eq_none]
  intro y hy
  obtain ⟨r, hr, e⟩ := List.mem_filterMap.mp hy
  rw [no r hr y e]
  exact Bool.false_ne_true
/-! ### heads -/
/-- in how many rows x stands behind the head -/
def behN : List (List α) → List Nat → α → Nat
  | r :: rs, h :: hs, x => (if x ∈ r ∧ h < r.idxOf x then 1 else 0) + behN rs hs x
  | _, _, _ => 0
theorem behN_set (x : α) (h2 : Nat) : ∀ (rows : List (List α)) (hs : List Nat) (i : Nat) (r : List α) (h : Nat), rows[i]? = some r → hs[i]? = some h →
    behN rows (hs.set i h2) x + (if x ∈ r ∧ h < r.idxOf x then 1 else 0) = behN rows hs x + (if x ∈ r ∧ h2 < r.idxOf x then 1 else 0)
  | r0 :: rs, h0 :: hs, 0, r, h, e1, e2 => by
    cases e1
    cases e2
    simp only [List.set_cons_zero, behN]
    omega
  | r0 :: rs, h0 :: hs, i + 1, r, h, e1, e2 => by
    have := behN_set x h2 rs hs i r h e1 e2
    simp only [List.set_cons_succ, behN]
    omega
  | [], _, i, r, h, e1, _ => by simp at e1
  | _ :: _, [], i, r, h, _, e2 => by simp at e2
theorem behN_zero (x : α) : ∀ (rows : List (List α)) (hs : List Nat), hs.length = rows.length → (behN rows hs x = 0 ↔ ∀ (i : Nat) (r : List α) (h : Nat), rows[i]? = some r → hs[i]? = some h → ¬ (x ∈ r ∧ h < r.idxOf x))
  | [], hs, _ => ⟨fun _ i r h e => by simp at e, fun _ => by cases hs <;> rfl⟩
  | r0 :: rs, [], l => by simp at l
  | r0 :: rs, h0 :: hs, l => by
    have ih := behN_zero x rs hs (by simpa using l)
    simp only [behN]
    constructor
    · intro z i r h e1 e2
      cases i with
      | zero =>
        cases e1
        cases e2
        intro k
        rw [if_pos k] at z
        omega
      | succ i => exact ih.mp (by omega) i r h e1 e2
    · intro k
      have k0 := k 0 r0 h0 (by rfl) (by rfl)
      rw [if_neg k0, Nat.zero_add]
      exact ih.mpr fun i r h e1 e2 => k (i + 1) r h e1 e2
/-- the first row that has x -/
def first (rows : List (List α)) (x : α) : Nat := rows.findIdx fun r => decide (x ∈ r)
theorem first_le {rows : List (List α)} {x : α} {i : Nat} {r : List α} (e : rows[i]? = some r) (h : x ∈ r) : first rows x ≤ i := by
  unfold first
  obtain ⟨hi, e⟩ := List.getElem?_eq_some_iff.mp e
  apply Nat.le_of_not_lt
  intro k
  have := List.not_of_lt_findIdx k
  rw [e] at this
  simp [h] at this
theorem first_at {rows : List (List α)} {x : α} (h : x ∈ rows.flatten) : ∃ r, rows[first rows x]? = some r ∧ x ∈ r := by
  obtain ⟨r, hr, hx⟩ := List.mem_flatten.mp h
  have lt : first rows x < rows.length := List.findIdx_lt_length_of_exists ⟨r, hr, by simpa using hx⟩
  refine ⟨rows[first rows x], List.getElem?_eq_getElem lt, ?_⟩
  have := List.findIdx_getElem (w := lt)
  exact of_decide_eq_true this
/-- a merge under way: nm's rows in pend are not yet moved on -/
structure Inv (rows : List (List α)) (gone : List α) (hs : List Nat) (rdy : Nat) (nm : Option α) (pend : Nat → Prop) : Prop where
  len : hs.length = rows.length
  nd : ∀ r ∈ rows, r.Nodup
  le : ∀ (i : Nat) (r : List α) (h : Nat), rows[i]? = some r → hs[i]? = some h → h ≤ r.length
  past : ∀ (i : Nat) (r : List α) (h : Nat), rows[i]? = some r → hs[i]? = some h → ∀ (j : Nat) (y : α), j < h → r[j]? = some y → y ∈ gone
  hd : ∀ (i : Nat) (r : List α) (h : Nat), rows[i]? = some r → hs[i]? = some h → ∀ y, r[h]? = some y → y ∈ gone → nm = some y ∧ pend i
  rd : ∀ j, rdy.testBit j = true ↔ ∃ x, x ∉ gone ∧ x ∈ rows.flatten ∧ behN rows hs x = 0 ∧ first rows x = j
theorem idx_of {r : List α} (nd : r.Nodup) {i : Nat} {x : α} (e : r[i]? = some x) : r.idxOf x = i := by
  obtain ⟨hi, e⟩ := List.getElem?_eq_some_iff.mp e
  rw [← e]
  exact nd.idxOf_getElem i hi
theorem at_idx {r : List α} {x : α} (h : x ∈ r) : r[r.idxOf x]? = some x := by
  have lt := List.idxOf_lt_length_of_mem h
  rw [List.getElem?_eq_getElem lt, List.getElem_idxOf]
/-- what is alive of a row: its head, and behind it what stands behind the head -/
theorem alive_row {gone r : List α} {h : Nat} (nd : r.Nodup) (past : ∀ (j : Nat) (y : α), j < h → r[j]? = some y → y ∈ gone) (hd : ∀ y, r[h]? = some y → y ∉ gone) :
    (r.filter fun x => decide (x ∉ gone)).head? = r[h]? ∧ ∀ y, y ∈ (r.filter fun x => decide (x ∉ gone)).tail ↔ y ∈ r ∧ y ∉ gone ∧ h < r.idxOf y := by
  have e : r.filter (fun x => decide (x ∉ gone)) = (r.drop h).filter fun x => decide (x ∉ gone) := by
    conv => lhs; rw [← List.take_append_drop h r]
    rw [List.filter_append]
    have : (r.take h).filter (fun x => decide (x ∉ gone)) = [] := by
      rw [List.filter_eq_nil_iff]
      intro y hy
      obtain ⟨j, hj⟩ := List.getElem?_of_mem hy
      rw [List.getElem?_take] at hj
      split at hj
      · rename_i lt
        simp [past j y lt hj]
      · cases hj
    rw [this, List.nil_append]
  rw [e]
  cases k : r[h]? with
  | none =>
    have hl : r.length ≤ h := List.getElem?_eq_none_iff.mp k
    rw [List.drop_eq_nil_of_le hl]
    refine ⟨rfl, fun y => ⟨fun z => (nomatch z), fun ⟨z, _, l⟩ => ?_⟩⟩
    have := List.idxOf_lt_length_of_mem z
    omega
  | some x =>
    have hx := hd x k
    obtain ⟨hl, ex⟩ := List.getElem?_eq_some_iff.mp k
    rw [List.drop_eq_getElem_cons hl, ex, List.filter_cons]
    simp only [hx, not_false_eq_true, decide_true, if_true, List.head?_cons, List.tail_cons, true_and]
    intro y
    rw [List.mem_filter]
    constructor
    · rintro ⟨m, g⟩
      obtain ⟨j, hj⟩ := List.getElem?_of_mem m
      rw [List.getElem?_drop] at hj
      have := idx_of nd hj
      exact ⟨List.mem_of_getElem? hj, by simpa using g, by omega⟩
    · rintro ⟨m, g, l⟩
      refine ⟨?_, by simpa using g⟩
      have a := at_idx m
      refine List.mem_of_getElem? (i := r.idxOf y - (h + 1)) ?_
      rw [List.getElem?_drop, show h + 1 + (r.idxOf y - (h + 1)) = r.idxOf y by omega]
      exact a
section
variable {rows : List (List α)} {gone : List α} {hs : List Nat} {rdy : Nat} {nm : Option α}
theorem Inv.row (I : Inv rows gone hs rdy nm fun _ => False) {i : Nat} {r : List α} {h : Nat} (e1 : rows[i]? = some r) (e2 : hs[i]? = some h) :
    (r.filter fun x => decide (x ∉ gone)).head? = r[h]? ∧ ∀ y, y ∈ (r.filter fun x => decide (x ∉ gone)).tail ↔ y ∈ r ∧ y ∉ gone ∧ h < r.idxOf y :=
  alive_row (I.nd r (List.mem_of_getElem? e1)) (I.past i r h e1 e2) fun y k g => (I.hd i r h e1 e2 y k g).2.elim
theorem Inv.hs_at {pd : Nat → Prop} (I : Inv rows gone hs rdy nm pd) {i : Nat} {r : List α} (e1 : rows[i]? = some r) : ∃ h, hs[i]? = some h := by
  have := (List.getElem?_eq_some_iff.mp e1).1
  exact ⟨_, List.getElem?_eq_getElem (by rw [I.len]; exact this)⟩
/-- a name that is left is good if it stands behind no head -/
theorem Inv.good_iff (I : Inv rows gone hs rdy nm fun _ => False) {x : α} (hx : x ∉ gone) : good (alive gone rows) x = true ↔ behN rows hs x = 0 := by
  unfold good alive
  rw [List.all_map, List.all_eq_true, behN_zero x rows hs I.len]
  constructor
  · intro k i r h e1 e2 ⟨m, l⟩
    have := k r (List.mem_of_getElem? e1)
    simp only [Function.comp, decide_eq_true_eq] at this
    exact this (((I.row e1 e2).2 x).mpr ⟨m, hx, l⟩)
  · intro k r hr
    obtain ⟨i, e1⟩ := List.getElem?_of_mem hr
    obtain ⟨h, e2⟩ := I.hs_at e1
    simp only [Function.comp, decide_eq_true_eq]
    intro m
    obtain ⟨m1, _, m2⟩ := ((I.row e1 e2).2 x).mp m
    exact k i r h e1 e2 ⟨m1, m2⟩
theorem Inv.pick_none (I : Inv rows gone hs rdy nm fun _ => False) (z : rdy = 0) : pick (alive gone rows) = none := by
  refine Mg.pick_none fun r' hr y e => ?_
  obtain ⟨r, hr2, rfl⟩ := List.mem_map.mp hr
  obtain ⟨i, e1⟩ := List.getElem?_of_mem hr2
  obtain ⟨h, e2⟩ := I.hs_at e1
  rw [(I.row e1 e2).1] at e
  have hy : y ∉ gone := fun g => (I.hd i r h e1 e2 y e g).2
  cases k : good (alive gone rows) y with
  | false => rfl
  | true =>
    have := (I.rd (first rows y)).mpr ⟨y, hy, List.mem_flatten.mpr ⟨r, hr2, List.mem_of_getElem? e⟩, (I.good_iff hy).mp k, rfl⟩
    rw [z] at this
    simp at this
/-- the lowest bit tells the name that is taken -/
theorem Inv.pick_low (I : Inv rows gone hs rdy nm fun _ => False) {k : Nat} (b : rdy.testBit k = true) (low : ∀ j, j < k → rdy.testBit j = false) :
    ∃ x r h, pick (alive gone rows) = some x ∧ rows[k]? = some r ∧ hs[k]? = some h ∧ r[h]? = some x ∧ x ∉ gone ∧ x ∈ rows.flatten ∧ behN rows hs x = 0 := by
  obtain ⟨x, hx, mx, zx, fx⟩ := (I.rd k).mp b
  obtain ⟨r, er, mr⟩ := first_at mx
  rw [fx] at er
  obtain ⟨h, eh⟩ := I.hs_at er
  have n1 := (behN_zero x rows hs I.len).mp zx k r h er eh
  have ix := at_idx mr
  have le : r.idxOf x ≤ h := Nat.le_of_not_lt fun l => n1 ⟨mr, l⟩
  have ge : ¬ r.idxOf x < h := fun l => hx (I.past k r h er eh _ _ l ix)
  have eq : r.idxOf x = h := by omega
  rw [eq] at ix
  refine ⟨x, r, h, ?_, er, eh, ix, hx, mx, zx⟩
  unfold pick
  have sp : alive gone rows = alive gone (rows.take k) ++ (r.filter fun x => decide (x ∉ gone)) :: alive gone (rows.drop (k + 1)) := by
    obtain ⟨hl, e⟩ := List.getElem?_eq_some_iff.mp er
    unfold alive
    rw [← List.map_cons (f := fun r : List α => r.filter fun x => decide (x ∉ gone)), ← List.map_append, ← e, ← List.drop_eq_getElem_cons hl, List.take_append_drop]
  conv => lhs; arg 2; rw [sp]
  refine pick_at (by rw [(I.row er eh).1]; exact ix) ((I.good_iff hx).mpr zx) fun r' hr y e => ?_
  obtain ⟨r2, hr2, rfl⟩ := List.mem_map.mp hr
  obtain ⟨i, e1⟩ := List.getElem?_of_mem hr2
  have ik : i < k := by
    have := (List.getElem?_eq_some_iff.mp e1).1
    rw [List.length_take] at this
    omega
  rw [List.getElem?_take, if_pos ik] at e1
  obtain ⟨h2, e2⟩ := I.hs_at e1
  rw [(I.row e1 e2).1] at e
  have hy : y ∉ gone := fun g => (I.hd i r2 h2 e1 e2 y e g).2
  cases q : good (alive gone rows) y with
  | false => rfl
  | true =>
    have my := List.mem_of_getElem? e
    have := (I.rd (first rows y)).mpr ⟨y, hy, List.mem_flatten.mpr ⟨r2, List.mem_of_getElem? e1, my⟩, (I.good_iff hy).mp q, rfl⟩
    rw [low _ (Nat.lt_of_le_of_lt (first_le e1 my) ik)] at this
    cases this
end

/-! ### a head is moved on -/
section
variable {rows : List (List α)} {gone : List α} {hs : List Nat} {rdy : Nat} {x : α} {pd pd' : Nat → Prop} {i h h2 : Nat} {r : List α}
/-- the bits that a moved head leaves -/
def bits (rows : List (List α)) (hs : List Nat) (rdy : Nat) : Option α → Nat
  | none => rdy
  | some y => if behN rows hs y = 0 then rdy ||| 2 ^ first rows y else rdy
theorem Inv.beh_move (I : Inv rows gone hs rdy nm pd) (e1 : rows[i]? = some r) (e2 : hs[i]? = some h) (l1 : h < h2) (skip : ∀ (j : Nat) (y : α), h ≤ j → j < h2 → r[j]? = some y → y ∈ gone) : ∀ y, y ∉ gone → behN rows (hs.set i h2) y + (if r[h2]? = some y then 1 else 0) = behN rows hs y := by
  have nr := I.nd r (List.mem_of_getElem? e1)
  intro y gy
  have z := behN_set y h2 rows hs i r h e1 e2
  by_cases m : y ∈ r
  · have a := at_idx m
    by_cases q : h < r.idxOf y
    · rw [if_pos ⟨m, q⟩] at z
      by_cases q2 : h2 < r.idxOf y
      · rw [if_pos ⟨m, q2⟩] at z
        have : ¬ r[h2]? = some y := fun e => by
          have := idx_of nr e
          omega
        rw [if_neg this]
        omega
      · rw [if_neg (fun k => q2 k.2)] at z
        have : r.idxOf y = h2 := by
          apply Nat.le_antisymm (Nat.le_of_not_lt q2)
          apply Nat.le_of_not_lt
          intro k
          exact gy (skip _ y (Nat.le_of_lt q) k a)
        rw [this] at a
        rw [if_pos a]
        omega
    · rw [if_neg (fun k => q k.2)] at z
      have q2 : ¬ h2 < r.idxOf y := by omega
      rw [if_neg (fun k => q2 k.2)] at z
      have : ¬ r[h2]? = some y := fun e => by
        have := idx_of nr e
        omega
      rw [if_neg this]
      omega
  · rw [if_neg (fun k => m k.1), if_neg (fun k => m k.1)] at z
    have : ¬ r[h2]? = some y := fun e => m (List.mem_of_getElem? e)
    rw [if_neg this]
    omega
theorem Inv.move (I : Inv rows gone hs rdy (some x) pd) (e1 : rows[i]? = some r) (e2 : hs[i]? = some h) (ex : r[h]? = some x) (gx : x ∈ gone) (l1 : h < h2) (l2 : h2 ≤ r.length) (skip : ∀ (j : Nat) (y : α), h ≤ j → j < h2 → r[j]? = some y → y ∈ gone) (stop : ∀ y, r[h2]? = some y → y ∉ gone)
    (hp : ∀ k, pd k → k ≠ i → pd' k) : Inv rows gone (hs.set i h2) (bits rows (hs.set i h2) rdy r[h2]?) (some x) pd' := by
  have hil : i < hs.length := (List.getElem?_eq_some_iff.mp e2).1
  have at_i : (hs.set i h2)[i]? = some h2 := by rw [List.getElem?_set_self hil]
  have off : ∀ k, k ≠ i → (hs.set i h2)[k]? = hs[k]? := fun k n => List.getElem?_set_ne (Ne.symm n)
  have nr := I.nd r (List.mem_of_getElem? e1)
  have beh : ∀ y, y ∉ gone → behN rows (hs.set i h2) y + (if r[h2]? = some y then 1 else 0) = behN rows hs y := fun y gy => by
    have z := behN_set y h2 rows hs i r h e1 e2
    by_cases m : y ∈ r
    · have a := at_idx m
      by_cases q : h < r.idxOf y
      · rw [if_pos ⟨m, q⟩] at z
        by_cases q2 : h2 < r.idxOf y
        · rw [if_pos ⟨m, q2⟩] at z
          have : ¬ r[h2]? = some y := fun e => by
            have := idx_of nr e
            omega
          rw [if_neg this]
          omega
        · rw [if_neg (fun k => q2 k.2)] at z
          have : r.idxOf y = h2 := by
            apply Nat.le_antisymm (Nat.le_of_not_lt q2)
            apply Nat.le_of_not_lt
            intro k
            exact gy (skip _ y (Nat.le_of_lt q) k a)
          rw [this] at a
          rw [if_pos a]
          omega
      · rw [if_neg (fun k => q k.2)] at z
        have q2 : ¬ h2 < r.idxOf y := by omega
        rw [if_neg (fun k => q2 k.2)] at z
        have : ¬ r[h2]? = some y := fun e => by
          have := idx_of nr e
          omega
        rw [if_neg this]
        omega
    · rw [if_neg (fun k => m k.1), if_neg (fun k => m k.1)] at z
      have : ¬ r[h2]? = some y := fun e => m (List.mem_of_getElem? e)
      rw [if_neg this]
      omega
  refine ⟨by rw [List.length_set]; exact I.len, I.nd, fun k r' h' f1 f2 => ?_, fun k r' h' f1 f2 => ?_, fun k r' h' f1 f2 => ?_, fun j => ?_⟩
  · by_cases n : k = i
    · subst n
      rw [at_i] at f2
      rw [e1] at f1
      cases f1
      cases f2
      exact l2
    · rw [off k n] at f2
      exact I.le k r' h' f1 f2
  · by_cases n : k = i
    · subst n
      rw [at_i] at f2
      rw [e1] at f1
      cases f1
      cases f2
      intro j y lj ey
      by_cases q : j < h
      · exact I.past k r h e1 e2 j y q ey
      · exact skip j y (Nat.le_of_not_lt q) lj ey
    · rw [off k n] at f2
      exact I.past k r' h' f1 f2
  · intro y ey gy
    by_cases n : k = i
    · subst n
      rw [at_i] at f2
      rw [e1] at f1
      cases f1
      cases f2
      exact absurd gy (stop y ey)
    · rw [off k n] at f2
      obtain ⟨a, b⟩ := I.hd k r' h' f1 f2 y ey gy
      exact ⟨a, hp k b n⟩
  · have old : (∃ y, y ∉ gone ∧ y ∈ rows.flatten ∧ behN rows (hs.set i h2) y = 0 ∧ first rows y = j) ↔ rdy.testBit j = true ∨ ∃ y, r[h2]? = some y ∧ behN rows (hs.set i h2) y = 0 ∧ first rows y = j := by
      constructor
      · rintro ⟨y, gy, my, zy, fy⟩
        by_cases q : r[h2]? = some y
        · exact .inr ⟨y, q, zy, fy⟩
        · have b := beh y gy
          rw [if_neg q, zy] at b
          exact .inl ((I.rd j).mpr ⟨y, gy, my, b.symm, fy⟩)
      · rintro (b | ⟨y, q, zy, fy⟩)
        · obtain ⟨y, gy, my, zy, fy⟩ := (I.rd j).mp b
          have b := beh y gy
          exact ⟨y, gy, my, by omega, fy⟩
        · exact ⟨y, stop y q, List.mem_flatten.mpr ⟨r, List.mem_of_getElem? e1, List.mem_of_getElem? q⟩, zy, fy⟩
    rw [old]
    cases q : r[h2]? with
    | none => simp [bits]
    | some y =>
      simp only [bits]
      by_cases z : behN rows (hs.set i h2) y = 0
      · rw [if_pos z, Nat.testBit_or, Nat.testBit_two_pow]
        simp only [Bool.or_eq_true, decide_eq_true_eq, Option.some.injEq]
        constructor
        · rintro (b | b)
          · exact .inl b
          · exact .inr ⟨y, rfl, z, b⟩
        · rintro (b | ⟨y', rfl, _, b⟩)
          · exact .inl b
          · exact .inr b
      · rw [if_neg z]
        constructor
        · exact .inl
        · rintro (b | ⟨y', e, z', _⟩)
          · exact b
          · cases e
            exact absurd z' z
/-- nothing is left to move -/
theorem Inv.done (I : Inv rows gone hs rdy nm pd) (no : ∀ k, ¬ pd k) : Inv rows gone hs rdy nm' fun _ => False := ⟨I.len, I.nd, I.le, I.past, fun i r h e1 e2 y ey gy => (no i (I.hd i r h e1 e2 y ey gy).2).elim, I.rd⟩
/-- one more name is gone: the rows whose head it is are to be moved on; its bit was taken away, or it had none -/
theorem Inv.drop (I : Inv rows gone hs rdy nm fun _ => False) (rdy' : Nat) (b : ∀ j, rdy'.testBit j = true ↔ ∃ y, y ∉ gone ++ [x] ∧ y ∈ rows.flatten ∧ behN rows hs y = 0 ∧ first rows y = j) :
    Inv rows (gone ++ [x]) hs rdy' (some x) fun i => ∃ r h, rows[i]? = some r ∧ hs[i]? = some h ∧ r[h]? = some x := by
  refine ⟨I.len, I.nd, I.le, fun i r h e1 e2 j y l ey => List.mem_append_left _ (I.past i r h e1 e2 j y l ey), fun i r h e1 e2 y ey gy => ?_, b⟩
  rcases List.mem_append.mp gy with g | g
  · exact (I.hd i r h e1 e2 y ey g).2.elim
  · have : y = x := by simpa using g
    subst this
    exact ⟨rfl, r, h, e1, e2, ey⟩
end

/-! ### all that is taken -/
theorem pick_mem {rows : List (List α)} {x : α} (h : pick rows = some x) : x ∈ rows.flatten := by
  have := List.mem_of_find?_eq_some h
  obtain ⟨r, hr, e⟩ := List.mem_filterMap.mp this
  exact List.mem_flatten.mpr ⟨r, hr, List.mem_of_mem_head? (by rw [e]; rfl)⟩
theorem without_len {rows : List (List α)} {x : α} (h : x ∈ rows.flatten) : (without x rows).flatten.length < rows.flatten.length := by
  have e : (without x rows).flatten = rows.flatten.filter fun y => decide (y ≠ x) := by
    unfold without
    induction rows with
    | nil => rfl
    | cons r rs ih =>
      simp only [List.map_cons, List.flatten_cons, List.filter_append]
      by_cases k : x ∈ rs.flatten
      · rw [ih k]
      · have : ∀ rs : List (List α), (rs.map fun r => r.filter fun y => decide (y ≠ x)).flatten = rs.flatten.filter fun y => decide (y ≠ x) := by
          intro rs
          induction rs with
          | nil => rfl
          | cons a as ih => simp only [List.map_cons, List.flatten_cons, List.filter_append, ih]
        rw [this rs]
  rw [e]
  obtain ⟨a, b, e2⟩ := List.append_of_mem h
  rw [e2, List.filter_append, List.filter_cons, if_neg (by simp), List.length_append, List.length_append, List.length_cons]
  have h1 := List.length_filter_le (fun y => decide (y ≠ x)) a
  have h2 := List.length_filter_le (fun y => decide (y ≠ x)) b
  omega
theorem greedy_more : ∀ (n : Nat) (rows : List (List α)), rows.flatten.length ≤ n → greedy n rows = greedy rows.flatten.length rows := by
  intro n
  induction n using Nat.strongRecOn with
  | ind n ih =>
    intro rows hn
    cases h : pick rows with
    | none =>
      have z : ∀ m, greedy m rows = [] := fun m => by cases m <;> simp [greedy, h]
      rw [z, z]
    | some x =>
      have l := without_len (pick_mem h)
      obtain ⟨L, eL⟩ : ∃ L, rows.flatten.length = L + 1 := ⟨rows.flatten.length - 1, by omega⟩
      obtain ⟨m, em⟩ : ∃ m, n = m + 1 := ⟨n - 1, by omega⟩
      rw [eL, em]
      simp only [greedy, h]
      rw [ih m (by omega) _ (by omega)]
      by_cases q : L < n
      · rw [ih L q _ (by omega)]
      · omega
/-- the names that a merge takes -/
def drawn (rows : List (List α)) : List α := greedy rows.flatten.length rows
theorem drawn_none {rows : List (List α)} (h : pick rows = none) : drawn rows = [] := by
  unfold drawn
  cases rows.flatten.length <;> simp [greedy, h]
theorem drawn_some {rows : List (List α)} {x : α} (h : pick rows = some x) : drawn rows = x :: drawn (without x rows) := by
  have l := without_len (pick_mem h)
  unfold drawn
  obtain ⟨L, eL⟩ : ∃ L, rows.flatten.length = L + 1 := ⟨rows.flatten.length - 1, by omega⟩
  rw [eL]
  simp only [greedy, h]
  rw [greedy_more L _ (by omega)]
/-- a ready name loses its bit -/
theorem Inv.lose {rows : List (List α)} {gone : List α} {hs : List Nat} {rdy rdy' k : Nat} {nm : Option α} {x : α} (I : Inv rows gone hs rdy nm fun _ => False) {r : List α} {h : Nat} (er : rows[k]? = some r) (eh : hs[k]? = some h) (ex : r[h]? = some x) (hx : x ∉ gone) (zx : behN rows hs x = 0) (fx : rdy.testBit k = true)
    (b : ∀ j, rdy'.testBit j = (decide (j ≠ k) && rdy.testBit j)) : ∀ j, rdy'.testBit j = true ↔ ∃ y, y ∉ gone ++ [x] ∧ y ∈ rows.flatten ∧ behN rows hs y = 0 ∧ first rows y = j := by
  have uniq : ∀ y, y ∉ gone → y ∈ rows.flatten → behN rows hs y = 0 → first rows y = k → y = x := fun y gy my zy fy => by
    obtain ⟨r2, e2, m2⟩ := first_at my
    rw [fy, er] at e2
    cases e2
    have a := at_idx m2
    have n1 := (behN_zero y rows hs I.len).mp zy k r h er eh
    have le : r.idxOf y ≤ h := Nat.le_of_not_lt fun l => n1 ⟨m2, l⟩
    have ge : ¬ r.idxOf y < h := fun l => gy (I.past k r h er eh _ _ l a)
    have : r.idxOf y = h := by omega
    rw [this, ex] at a
    exact (Option.some.inj a).symm
  obtain ⟨x', gx', mx', zx', fx'⟩ := (I.rd k).mp fx
  have e0 := uniq x' gx' mx' zx' fx'
  subst e0
  intro j
  rw [b j, Bool.and_eq_true, decide_eq_true_eq, I.rd j]
  constructor
  · rintro ⟨n, y, gy, my, zy, fy⟩
    refine ⟨y, fun m => ?_, my, zy, fy⟩
    rcases List.mem_append.mp m with m | m
    · exact gy m
    · have : y = x' := by simpa using m
      subst this
      exact n (fy.symm.trans fx')
  · rintro ⟨y, gy, my, zy, fy⟩
    refine ⟨fun e => ?_, y, fun m => gy (List.mem_append_left _ m), my, zy, fy⟩
    have := uniq y (fun m => gy (List.mem_append_left _ m)) my zy (fy.trans e)
    subst this
    exact gy (List.mem_append_right _ (by simp))
end Nb.Mg

set_option linter.all false
set_option maxRecDepth 100000
/-! How merges of related rows are related. No Python here. -/
namespace Nb.Mg
variable {α : Type} [DecidableEq α]
theorem drop_self {x : α} {t : List α} (h : x ∉ t) : (t.filter fun y => decide (y ≠ x)) = t := List.filter_eq_self.mpr fun z hz => decide_eq_true fun e => h (e ▸ hz)
theorem drop_head {x : α} {t : List α} (h : x ∉ t) : ((x :: t).filter fun y => decide (y ≠ x)) = t := by
  rw [List.filter_cons_of_neg (by simp)]
  exact drop_self h
theorem good_not {rows : List (List α)} {x : α} : good rows x = true ↔ ∀ r ∈ rows, x ∉ r.tail := by
  unfold good
  rw [List.all_eq_true]
  exact ⟨fun h r hr => of_decide_eq_true (h r hr), fun h r hr => decide_eq_true (h r hr)⟩
theorem split_heads {p : α → Bool} : ∀ {rows : List (List α)} {x : α}, (rows.filterMap List.head?).find? p = some x → ∃ l1 r l2, rows = l1 ++ r :: l2 ∧ r.head? = some x ∧ p x = true ∧ ∀ r' ∈ l1, ∀ y, r'.head? = some y → p y = false
  | [], x, h => by cases h
  | [] :: rows, x, h => by
    obtain ⟨l1, r, l2, e, h1, h2, h3⟩ := split_heads (rows := rows) h
    refine ⟨[] :: l1, r, l2, by rw [e]; rfl, h1, h2, fun r' hr y hy => ?_⟩
    rcases List.mem_cons.mp hr with rfl | hr
    · cases hy
    · exact h3 r' hr y hy
  | (z :: w) :: rows, x, h => by
    rw [List.filterMap_cons_some (by rfl), List.find?_cons] at h
    by_cases q : p z = true
    · rw [q] at h
      cases h
      exact ⟨[], z :: w, rows, rfl, rfl, q, fun _ h => nomatch h⟩
    · rw [eq_false_of_ne_true q] at h
      obtain ⟨l1, r, l2, e, h1, h2, h3⟩ := split_heads (rows := rows) h
      refine ⟨(z :: w) :: l1, r, l2, by rw [e]; rfl, h1, h2, fun r' hr y hy => ?_⟩
      rcases List.mem_cons.mp hr with rfl | hr
      · cases hy
        exact eq_false_of_ne_true q
      · exact h3 r' hr y hy
theorem pick_good {rows : List (List α)} {x : α} (h : pick rows = some x) : ∀ r ∈ rows, x ∉ r.tail := good_not.mp (List.find?_some h)
theorem none_heads {rows : List (List α)} (h : pick rows = none) {r : List α} (hr : r ∈ rows) {y : α} (e : r.head? = some y) : good rows y = false := by
  have := List.find?_eq_none.mp h y (List.mem_filterMap.mpr ⟨r, hr, e⟩)
  exact eq_false_of_ne_true this
theorem pick_only {rows : List (List α)} {x : α} (h : ∃ r ∈ rows, r.head? = some x) (g : good rows x = true) (u : ∀ r ∈ rows, ∀ y, r.head? = some y → good rows y = true → y = x) : pick rows = some x := by
  cases e : pick rows with
  | none =>
    obtain ⟨r, hr, e2⟩ := h
    rw [none_heads e hr e2] at g
    cases g
  | some y =>
    obtain ⟨l1, r, l2, e1, e2, e3, _⟩ := split_heads (rows := rows) e
    rw [u r (by rw [e1]; simp) y e2 e3]
theorem mem_without {x y : α} {rows : List (List α)} : y ∈ (without x rows).flatten ↔ y ∈ rows.flatten ∧ y ≠ x := by
  constructor
  · intro h
    obtain ⟨a, ha, hy⟩ := List.mem_flatten.mp h
    obtain ⟨r, hr, rfl⟩ := List.mem_map.mp ha
    obtain ⟨h1, h2⟩ := List.mem_filter.mp hy
    exact ⟨List.mem_flatten.mpr ⟨r, hr, h1⟩, of_decide_eq_true h2⟩
  · rintro ⟨h, n⟩
    obtain ⟨r, hr, hy⟩ := List.mem_flatten.mp h
    exact List.mem_flatten.mpr ⟨_, List.mem_map.mpr ⟨r, hr, rfl⟩, List.mem_filter.mpr ⟨hy, decide_eq_true n⟩⟩
/-- induction over what is drawn -/
theorem draw_ind {P : List (List α) → Prop} (h0 : ∀ rows, pick rows = none → P rows) (h1 : ∀ rows x, pick rows = some x → P (without x rows) → P rows) : ∀ rows, P rows := by
  have key : ∀ (n : Nat) (rows : List (List α)), rows.flatten.length ≤ n → P rows := by
    intro n
    induction n with
    | zero =>
      intro rows h
      cases e : pick rows with
      | none => exact h0 rows e
      | some x =>
        have := List.length_pos_of_mem (pick_mem e)
        omega
    | succ n ih =>
      intro rows h
      cases e : pick rows with
      | none => exact h0 rows e
      | some x =>
        have := without_len (pick_mem e)
        exact h1 rows x e (ih _ (by omega))
  exact fun rows => key _ rows (Nat.le_refl _)
theorem drawn_in : ∀ rows : List (List α), ∀ x ∈ drawn rows, x ∈ rows.flatten := by
  refine draw_ind (fun rows e x hx => ?_) fun rows y e ih x hx => ?_
  · rw [drawn_none e] at hx
    cases hx
  · rw [drawn_some e] at hx
    rcases List.mem_cons.mp hx with rfl | hx
    · exact pick_mem e
    · exact (mem_without.mp (ih x hx)).1
theorem drawn_nodup : ∀ rows : List (List α), (drawn rows).Nodup := by
  refine draw_ind (fun rows e => ?_) fun rows y e ih => ?_
  · rw [drawn_none e]
    exact List.nodup_nil
  · rw [drawn_some e, List.nodup_cons]
    exact ⟨fun h => (mem_without.mp (drawn_in _ y h)).2 rfl, ih⟩
/-- all names are drawn -/
def Cov (rows : List (List α)) : Prop := ∀ x ∈ rows.flatten, x ∈ drawn rows
theorem cov_step {rows : List (List α)} {x : α} (e : pick rows = some x) : Cov rows ↔ Cov (without x rows) := by
  unfold Cov
  rw [drawn_some e]
  constructor
  · intro h y hy
    obtain ⟨a, b⟩ := mem_without.mp hy
    exact (List.mem_cons.mp (h y a)).resolve_left b
  · intro h y hy
    by_cases q : y = x
    · exact q ▸ List.mem_cons_self ..
    · exact List.mem_cons_of_mem _ (h y (mem_without.mpr ⟨hy, q⟩))
theorem cov_none {rows : List (List α)} (e : pick rows = none) (c : Cov rows) : ∀ r ∈ rows, r = [] := fun r hr => by
  cases r with
  | nil => rfl
  | cons y t =>
    have := c y (List.mem_flatten.mpr ⟨_, hr, List.mem_cons_self ..⟩)
    rw [drawn_none e] at this
    cases this
/-- each row stands in order in what is drawn -/
theorem drawn_ord : ∀ rows : List (List α), Cov rows → ∀ r ∈ rows, r.Sublist (drawn rows) := by
  refine draw_ind (fun rows e c r hr => ?_) fun rows x e ih c r hr => ?_
  · rw [cov_none e c r hr]
    exact List.nil_sublist _
  · have h := ih ((cov_step e).mp c) _ (List.mem_map.mpr ⟨r, hr, rfl⟩)
    have g := pick_good e r hr
    rw [drawn_some e]
    cases r with
    | nil => exact List.nil_sublist _
    | cons y t =>
      have g : x ∉ t := g
      by_cases q : y = x
      · subst q
        rw [drop_head g] at h
        exact h.cons₂ y
      · rw [List.filter_cons_of_pos (by simpa using q), drop_self g] at h
        exact h.cons x
/-- rows of one order have a merge -/
theorem heads_sub {rows : List (List α)} : ∀ {W : List α}, W.Nodup → (∀ r ∈ rows, r.Sublist W) → pick rows = none → ∀ r ∈ rows, r = []
  | [], _, h, _, r, hr => List.sublist_nil.mp (h r hr)
  | x :: t, nd, h, e, r, hr => by
    obtain ⟨nx, nt⟩ := List.nodup_cons.mp nd
    by_cases q : ∃ r ∈ rows, r.head? = some x
    · obtain ⟨r0, h0, e0⟩ := q
      have g : good rows x = true := good_not.mpr fun r hr hx => nx ((h r hr).tail.subset hx)
      rw [none_heads e h0 e0] at g
      cases g
    · refine heads_sub nt (fun r hr => ?_) e r hr
      cases h r hr with
      | cons _ s => exact s
      | cons_cons _ s => exact (q ⟨_, hr, rfl⟩).elim
theorem cov_sub {W : List α} (nd : W.Nodup) : ∀ rows : List (List α), (∀ r ∈ rows, r.Sublist W) → Cov rows := by
  refine draw_ind (fun rows e h x hx => ?_) fun rows x e ih h => (cov_step e).mpr (ih fun r hr => ?_)
  · obtain ⟨r, hr, hx⟩ := List.mem_flatten.mp hx
    rw [heads_sub nd h e r hr] at hx
    cases hx
  · obtain ⟨r0, h0, rfl⟩ := List.mem_map.mp hr
    exact List.filter_sublist.trans (h r0 h0)
/-- a row that holds all the others in order is the merge -/
theorem drawn_super : ∀ {D : List α} {rows : List (List α)}, D.Nodup → D ∈ rows → (∀ r ∈ rows, r.Sublist D) → drawn rows = D
  | [], rows, _, _, h => by
    refine drawn_none ?_
    unfold pick
    rw [List.filterMap_eq_nil_iff.mpr fun r hr => by rw [List.sublist_nil.mp (h r hr)]; rfl]
    rfl
  | x :: t, rows, nd, m, h => by
    obtain ⟨nx, nt⟩ := List.nodup_cons.mp nd
    have g : good rows x = true := good_not.mpr fun r hr hx => nx ((h r hr).tail.subset hx)
    have p : pick rows = some x := by
      refine pick_only ⟨_, m, rfl⟩ g fun r hr y ey gy => ?_
      have hy : y ∈ x :: t := (h r hr).subset (List.mem_of_mem_head? (by rw [ey]; rfl))
      exact (List.mem_cons.mp hy).resolve_right (good_not.mp gy _ m)
    rw [drawn_some p]
    congr 1
    refine drawn_super nt (List.mem_map.mpr ⟨_, m, drop_head nx⟩) fun r hr => ?_
    obtain ⟨r0, h0, rfl⟩ := List.mem_map.mp hr
    have := (h r0 h0).filter fun y => decide (y ≠ x)
    rw [drop_head nx] at this
    exact this
/-- two rows without a common name are joined -/
theorem drawn_join {E : List α} : ∀ {D : List α}, (D ++ E).Nodup → drawn [D, E] = D ++ E
  | [], nd => drawn_super nd (by simp) fun r hr => by
    rcases List.mem_cons.mp hr with rfl | hr
    · exact List.nil_sublist _
    · rw [List.mem_singleton.mp hr]
      exact List.Sublist.refl _
  | x :: t, nd => by
    obtain ⟨nx, nt⟩ := List.nodup_cons.mp nd
    have nt1 : x ∉ t := fun h => nx (List.mem_append_left _ h)
    have ne1 : x ∉ E := fun h => nx (List.mem_append_right _ h)
    have p : pick [x :: t, E] = some x := pick_at (l1 := []) (all := [x :: t, E]) rfl (good_not.mpr fun r hr hx => by
      rcases List.mem_cons.mp hr with rfl | hr
      · exact nt1 hx
      · rw [List.mem_singleton.mp hr] at hx
        exact ne1 (List.mem_of_mem_tail hx)) fun _ h => nomatch h
    rw [drawn_some p]
    show x :: drawn [(x :: t).filter _, E.filter _] = _
    rw [drop_head nt1, drop_self ne1, drawn_join nt]
    rfl
/-- a part of the merge behind all rows changes nothing -/
theorem drawn_part : ∀ (rows : List (List α)) (s : List α), s.Sublist (drawn rows) → drawn (rows ++ [s]) = drawn rows := by
  refine draw_ind (fun rows e s h => ?_) fun rows x e ih s h => ?_
  · rw [drawn_none e] at h ⊢
    rw [List.sublist_nil.mp h]
    refine drawn_none (pick_none fun r hr y ey => ?_)
    have gg : good (rows ++ [[]]) y = good rows y := by
      unfold good
      rw [List.all_append]
      simp
    rw [gg]
    rcases List.mem_append.mp hr with hr | hr
    · exact none_heads e hr ey
    · rw [List.mem_singleton.mp hr] at ey
      cases ey
  · have nd := drawn_nodup rows
    rw [drawn_some e] at h nd ⊢
    obtain ⟨nx, nt⟩ := List.nodup_cons.mp nd
    obtain ⟨l1, r, l2, e1, e2, e3, e4⟩ := split_heads (rows := rows) e
    have g1 : ∀ y, good (rows ++ [s]) y = (good rows y && decide (y ∉ s.tail)) := fun y => by
      unfold good
      rw [List.all_append]
      simp
    have p : pick (rows ++ [s]) = some x := by
      have := pick_at (l1 := l1) (l2 := l2 ++ [s]) (r := r) (all := rows ++ [s]) e2 (by
        rw [g1, e3, decide_eq_true (show x ∉ s.tail from fun hx => nx (h.tail.subset hx))]
        rfl) fun r' hr y hy => by rw [g1, e4 r' hr y hy]; rfl
      unfold pick
      conv => lhs; arg 2; rw [e1]
      rw [List.append_assoc]
      exact this
    rw [drawn_some p]
    congr 1
    have w : without x (rows ++ [s]) = without x rows ++ [s.filter fun y => decide (y ≠ x)] := by
      unfold without
      rw [List.map_append]
      rfl
    rw [w]
    refine ih _ ?_
    have := h.filter fun y => decide (y ≠ x)
    rw [drop_head nx] at this
    exact this
/-- a new name at the front of all rows -/
theorem drawn_top {top : α} {rows : List (List α)} (n : top ∉ rows.flatten) (ne : rows ≠ []) : drawn (rows.map (top :: ·)) = top :: drawn rows := by
  have off : ∀ r ∈ rows, top ∉ r := fun r hr h => n (List.mem_flatten.mpr ⟨r, hr, h⟩)
  have p : pick (rows.map (top :: ·)) = some top := by
    cases rows with
    | nil => exact (ne rfl).elim
    | cons r rs =>
      refine pick_at (l1 := []) (r := top :: r) (l2 := rs.map (top :: ·)) (all := (r :: rs).map (top :: ·)) rfl (good_not.mpr fun q hq h => ?_) fun _ h => nomatch h
      obtain ⟨q0, h0, rfl⟩ := List.mem_map.mp hq
      exact off q0 h0 h
  rw [drawn_some p]
  congr 2
  unfold without
  rw [List.map_map]
  conv => rhs; rw [← List.map_id rows]
  exact List.map_congr_left fun r hr => drop_head (off r hr)
/-- a new name at the end of all rows -/
theorem drawn_end {e : α} : ∀ rows : List (List α), e ∉ rows.flatten → rows ≠ [] → Cov rows → drawn (rows.map (· ++ [e])) = drawn rows ++ [e] := by
  refine draw_ind (fun rows p n ne c => ?_) fun rows x p ih n ne c => ?_
  · have all := cov_none p c
    have er : rows.map (· ++ [e]) = List.replicate rows.length [e] := by
      rw [List.eq_replicate_iff]
      refine ⟨List.length_map .., fun b hb => ?_⟩
      obtain ⟨r, hr, rfl⟩ := List.mem_map.mp hb
      rw [all r hr]
      rfl
    rw [drawn_none p, er]
    refine drawn_super (by simp) ?_ fun r hr => ?_
    · rw [List.mem_replicate]
      exact ⟨by simpa using ne, rfl⟩
    · rw [(List.mem_replicate.mp hr).2]
      exact List.Sublist.refl _
  · obtain ⟨l1, r, l2, e1, e2, e3, e4⟩ := split_heads (rows := rows) p
    have off : ∀ r ∈ rows, e ∉ r := fun r hr h => n (List.mem_flatten.mpr ⟨r, hr, h⟩)
    have rm : r ∈ rows := by
      rw [e1]
      simp
    obtain ⟨w, rfl⟩ : ∃ w, r = x :: w := by
      cases r with
      | nil => cases e2
      | cons a w =>
        cases e2
        exact ⟨w, rfl⟩
    have xe : x ≠ e := fun z => off _ rm (z ▸ List.mem_cons_self ..)
    have p2 : pick (rows.map (· ++ [e])) = some x := by
      have := pick_at (l1 := l1.map (· ++ [e])) (l2 := l2.map (· ++ [e])) (r := x :: (w ++ [e])) (x := x) (all := rows.map (· ++ [e])) rfl
        (good_not.mpr fun q hq hx => by
          obtain ⟨q0, h0, rfl⟩ := List.mem_map.mp hq
          have g := pick_good p q0 h0
          cases q0 with
          | nil => cases hx
          | cons a t =>
            have hx : x ∈ t ++ [e] := hx
            rcases List.mem_append.mp hx with h | h
            · exact g h
            · exact xe (List.mem_singleton.mp h))
        (fun r' hr y hy => by
          obtain ⟨q0, h0, rfl⟩ := List.mem_map.mp hr
          refine eq_false_of_ne_true fun g => ?_
          have g := good_not.mp g
          cases q0 with
          | nil =>
            cases hy
            exact g ((x :: w) ++ [e]) (List.mem_map.mpr ⟨_, rm, rfl⟩) (List.mem_append_right w (List.mem_singleton.mpr rfl))
          | cons a t =>
            have ey : a = y := by simpa using hy
            subst ey
            have := e4 _ h0 a rfl
            have g2 : good rows a = true := good_not.mpr fun q hq ha => g (q ++ [e]) (List.mem_map.mpr ⟨q, hq, rfl⟩) (by
              cases q with
              | nil => cases ha
              | cons b u => exact List.mem_append_left _ ha)
            rw [g2] at this
            cases this)
      unfold pick
      conv => lhs; arg 2; rw [e1]
      rw [List.map_append, List.map_cons]
      exact this
    have w2 : without x (rows.map (· ++ [e])) = (without x rows).map (· ++ [e]) := by
      unfold without
      rw [List.map_map, List.map_map]
      refine List.map_congr_left fun r _ => ?_
      show (r ++ [e]).filter _ = r.filter _ ++ [e]
      rw [List.filter_append]
      congr 1
      rw [List.filter_cons_of_pos (by simpa using Ne.symm xe)]
      rfl
    rw [drawn_some p2, drawn_some p, w2, ih (fun h => n (mem_without.mp h).1) (by
      unfold without
      simpa using ne) ((cov_step p).mp c)]
    rfl
/-- other names -/
theorem drawn_map {β : Type} [DecidableEq β] {f : α → β} (inj : ∀ a b, f a = f b → a = b) : ∀ rows : List (List α), drawn (rows.map (List.map f)) = (drawn rows).map f := by
  have mem : ∀ (x : α) (r : List α), f x ∈ r.map f ↔ x ∈ r := fun x r => by
    rw [List.mem_map]
    exact ⟨fun ⟨a, h, e⟩ => inj _ _ e ▸ h, fun h => ⟨x, h, rfl⟩⟩
  have gg : ∀ (rows : List (List α)) (x : α), good (rows.map (List.map f)) (f x) = good rows x := fun rows x => by
    rw [Bool.eq_iff_iff, good_not, good_not]
    constructor
    · intro h r hr hx
      exact h _ (List.mem_map.mpr ⟨r, hr, rfl⟩) (by rw [← List.map_tail, mem]; exact hx)
    · intro h q hq hx
      obtain ⟨r, hr, rfl⟩ := List.mem_map.mp hq
      rw [← List.map_tail, mem] at hx
      exact h r hr hx
  refine draw_ind (fun rows p => ?_) fun rows x p ih => ?_
  · rw [drawn_none p, List.map_nil]
    refine drawn_none (pick_none fun q hq y hy => ?_)
    obtain ⟨r, hr, rfl⟩ := List.mem_map.mp hq
    cases r with
    | nil => cases hy
    | cons a t =>
      cases hy
      rw [gg]
      exact none_heads p hr rfl
  · obtain ⟨l1, r, l2, e1, e2, e3, e4⟩ := split_heads (rows := rows) p
    have p2 : pick (rows.map (List.map f)) = some (f x) := by
      have := pick_at (l1 := l1.map (List.map f)) (l2 := l2.map (List.map f)) (r := r.map f) (x := f x) (all := rows.map (List.map f)) (by rw [List.head?_map, e2]; rfl) (by rw [gg]; exact e3) (fun r' hr y hy => by
        obtain ⟨q, hq, rfl⟩ := List.mem_map.mp hr
        cases q with
        | nil => cases hy
        | cons a t =>
          have ey : f a = y := by simpa using hy
          subst ey
          rw [gg]
          exact e4 _ hq _ rfl)
      unfold pick
      conv => lhs; arg 2; rw [e1]
      rw [List.map_append, List.map_cons]
      exact this
    have w2 : without (f x) (rows.map (List.map f)) = (without x rows).map (List.map f) := by
      unfold without
      rw [List.map_map, List.map_map]
      refine List.map_congr_left fun r _ => ?_
      show (r.map f).filter _ = (r.filter _).map f
      rw [List.filter_map]
      congr 1
      refine List.filter_congr fun y _ => ?_
      show decide (f y ≠ f x) = decide (y ≠ x)
      rw [decide_eq_decide]
      exact ⟨fun h e => h (e ▸ rfl), fun h e => h (inj _ _ e)⟩
    rw [drawn_some p2, drawn_some p, w2, ih]
    rfl
end Nb.Mg

set_option Elab.async false
set_option maxRecDepth 100000
/-! How many different texts a tuple holds: the value of len(set(t)). -/
namespace Nb
open PySem PySem.Spec PyProof.Rows L2
/-- the different texts of a list, each where it is met first -/
def dis : List Str → List Str
  | [] => []
  | x :: r => x :: (dis r).filter (fun y => !(y == x))
/-- seen so far: one text more -/
def grow (l : List Str) (x : Str) : List Str := if l.any (· == x) then l else l ++ [x]
def seen (xs : List Str) : List Str := xs.foldl grow []
theorem seen_snoc (xs : List Str) (x : Str) : seen (xs ++ [x]) = grow (seen xs) x := by
  unfold seen
  rw [List.foldl_append]
  rfl
theorem grow_any (l : List Str) (x k : Str) : (grow l x).any (· == k) = (l.any (· == k) || decide (k = x)) := by
  unfold grow
  by_cases h : l.any (· == x) = true
  · rw [if_pos h]
    by_cases e : k = x
    · subst e
      rw [h]
      rfl
    · simp [e]
  · rw [if_neg h, List.any_append]
    by_cases e : k = x
    · subst e
      simp
    · have e2 : (x == k) = false := beq_eq_false_iff_ne.mpr fun z => e z.symm
      simp [e, e2]
theorem grow_len (l : List Str) (x : Str) : (grow l x).length = if l.any (· == x) = true then l.length else l.length + 1 := by
  unfold grow
  split <;> simp
theorem grow_le (l : List Str) (x : Str) : (grow l x).length ≤ l.length + 1 := by
  rw [grow_len]
  split <;> omega
theorem seen_le : ∀ xs : List Str, (seen xs).length ≤ xs.length := by
  have key : ∀ (xs l : List Str), (xs.foldl grow l).length ≤ l.length + xs.length := by
    intro xs
    induction xs with
    | nil => intro l; exact Nat.le_refl _
    | cons x r ih =>
      intro l
      have h1 := ih (grow l x)
      have h2 := grow_le l x
      show (r.foldl grow (grow l x)).length ≤ l.length + (r.length + 1)
      omega
  intro xs
  have h := key xs []
  simpa [seen] using h

section
variable {P : Program} {w : World} {A : Around} {E : Value → Shared → Prop} {s : Shared}
abbrev SetS (P : Program) (w : World) (h : Heap) (S : Addr) (l : List Str) : Prop := h.SetOf (PySem.strKind P w) S (fun k => l.any (· == k)) l.length
theorem SetS.to {h h' : Heap} {S : Addr} {l : List Str} (x : SetS P w h S l) (k : ∀ o, h.get? S = some o → h'.get? S = some o) : SetS P w h' S l :=
  let ⟨o, es, ep, t, ho, r⟩ := x
  ⟨o, es, ep, t, k o ho, r⟩
/-- the set takes what is walked, text by text -/
theorem takes_texts {I : Addr} {fp wr : List Addr} {G : Array GenState → Array GenState → Prop} {n : Nat} {Pv : Nat → Value → Prop} {St : Nat → Shared → Prop} {R : Result → Shared → Prop}
    (W : WalksS P w A.in1 I fp wr G n Pv St) (S : Addr) (apart : S ∉ fp) (xs : List Str) (size : n = xs.length) (few : xs.length + 1 < scanBound) (val : ∀ i v, Pv i v → ∃ x t, xs[i]? = some x ∧ v = .str x t) :
    ∀ (m i : Nat) (s : Shared), m + i = n → St i s → SetS P w s.heap S (seen (xs.take i)) →
      (∀ s', Moved (S :: wr) G s s' → SetS P w s'.heap S (seen xs) → R (.ok (.ret .none)) s') → codeAny (model P w) A (.builtin "set.update.loop" ⟨[.ref S, .ref I], []⟩) R s := by
  have out : S ∉ wr := fun z => apart (W.sub _ z)
  have wide : ∀ b ∈ wr, b ∈ S :: wr := fun b z => List.mem_cons_of_mem _ z
  intro m
  induction m with
  | zero =>
    intro i s em here held fin
    refine codeAny_builtin F.entry_set_update_loop (by
      rw [Around.under_plainId F.plain_set_update_loop _]
      refine wpAny_bind (m := pyNext (.ref I)) (W.done s _ _ (by rw [← em, Nat.zero_add]; exact here) fun s' mv => ?_)
      refine wpAny_pure (fin s' (mv.mono wide) ?_)
      have all : xs.take i = xs := List.take_of_length_le (by omega)
      rw [all] at held
      exact held.to fun o e => mv.heap S o out e)
  | succ m ih =>
    intro i s em here held fin
    refine codeAny_builtin F.entry_set_update_loop (by
      rw [Around.under_plainId F.plain_set_update_loop _]
      refine wpAny_bind (m := pyNext (.ref I)) (W.item i s _ _ (by omega) here fun v s' hv here' mv => ?_)
      obtain ⟨x, t, ex, rfl⟩ := val i v hv
      have held' : SetS P w s'.heap S (seen (xs.take i)) := held.to fun o e => mv.heap S o out e
      refine wpAny_bind (m := holding [Value.str x t] (setAdd S (.str x t))) (wpAny_holding ?_)
      unfold setAdd
      refine wpAny_holding (wpAny_bind ((PySem.strKind P w).pyHash (k := x) (strKind_is _ _ _ _) ?_))
      have room : (seen (xs.take i)).length + 1 < scanBound := by
        have h1 := seen_le (xs.take i)
        have h2 : (xs.take i).length ≤ xs.length := by rw [List.length_take]; omega
        omega
      refine wpAny_setAddHashed_of (knd := PySem.strKind P w) (s := { s' with toks := s'.toks + 1 }) (strKind_is _ _ _ _) rfl held' room fun h' only more => ?_
      have step : seen (xs.take (i + 1)) = grow (seen (xs.take i)) x := by
        rw [List.take_add_one, ex]
        exact seen_snoc _ _
      have held2 : SetS P w h' S (seen (xs.take (i + 1))) := by
        rw [step]
        exact SetOf_congr more (fun k => (grow_any _ _ _).symm) (grow_len _ _).symm
      have still : ∀ b, b ≠ S → ∀ o, s'.heap.get? b = some o → h'.get? b = some o := fun b nb o e => by
        rw [only.2 b nb]
        exact e
      exact wpAny_pure ⟨plainId_quiet F.plain_set_update_loop _, ih (i + 1) _ (by omega) (W.frame _ s' _ _ here' (Nat.le_succ _) fun b hb o e => still b (fun z => apart (z ▸ hb)) o e) held2 fun s2 mv2 held3 =>
        fin s2 (Moved.trans W.gtrans ((mv.mono wide).then_heap (Nat.le_succ _) fun b o hb e => still b (fun z => hb (z ▸ List.mem_cons_self)) o e) mv2) held3⟩)
/-- an empty set as it is laid -/
abbrev bareSet (led : Bool) : Obj := { cls := .type "set", dict := none, data := .set #[] 0 (.fresh 0 0 led) }
set_option maxHeartbeats 3200000 in
/-- set(t), t a tuple of texts -/
theorem set_of_texts {l : Addr} {items : Array Value} {xs : List Str} {Q : Value → Shared → Prop} (calm : A.handled = none) (tup : s.heap.IsTuple l items) (txt : StrsAre items.toList xs) (few : xs.length + 1 < scanBound)
    (h : ∀ (h' : Heap) (tk : Nat), SetS P w h' s.heap.objs.size (seen xs) → (∀ b o, s.heap.get? b = some o → h'.get? b = some o) → Q (.ref s.heap.objs.size) { s with heap := h', toks := tk }) :
    wpAny (model P w) A (call (.type "set") [.ref l]) Q E s := by
  have size : items.size = xs.length := by
    have q := StrsAre.len_eq txt
    rw [Array.length_toList] at q
    exact q
  obtain ⟨c, tl, hmro⟩ := F.called_set.mro
  have g1 := F.called_set.made
  have g2 := F.called_set.sub
  have g3 := F.called_set.notType
  have g4 := F.called_set.canCreate
  have g5 := F.typeCall_set_1 (.ref l)
  refine wpAny_call (codeAny_of_tree (show wpAny _ _ (callAny (.type "set") _) _ _ _ from wpAny_pure ⟨Code.quiet_builtin _ (by decide +kernel), codeAny_builtin F.entry_type_call ?_⟩))
  rw [Around.under_plain (weight_type_call_type "set" [.ref l] []) rfl]
  repeat (any_goals (first | assumption | wp_step))
  refine codeAny_mono (code_set_new_1 (.ref l) (E := E) (Q₁ := fun obj s₁ => ∃ led : Bool, obj = .ref s.heap.objs.size ∧ s₁ = { s with heap := s.heap.push (bareSet led) }) fun led => ⟨led, rfl, rfl⟩) fun r s₁ hr => ?_
  rcases r with e | fl
  · exact hr
  cases fl with
  | ret obj =>
    obtain ⟨led, rfl, rfl⟩ := hr
    have at0 : (s.heap.push (bareSet led)).get? s.heap.objs.size = some (bareSet led) := Heap.get?_push_size _ rfl
    have ty0 : Shared.TypeIs { s with heap := s.heap.push (bareSet led) } (.ref s.heap.objs.size) "set" := ⟨_, at0, rfl⟩
    have g6 := F.called_set.init.lookup
    have g7 := F.called_set.init.bind (.ref s.heap.objs.size)
    repeat (any_goals (first | assumption | wp_step))
    refine codeAny_mono (codeAny_call_builtin (R := wants (fun r s₂ => r = .none ∧ ∃ h' tk, s₂ = { s with heap := h', toks := tk } ∧ SetS P w h' s.heap.objs.size (seen xs) ∧ (∀ b o, s.heap.get? b = some o → h'.get? b = some o)) E)
      F.called_set.init.plain F.entry_set_init (check_set_init_1 ty0 ?_)) fun r₂ s₂ hr₂ => ?_
    · obtain ⟨⟨ocls, odict, odata, oslots⟩, ho, hc, nl, hd⟩ := tup
      simp only at hc hd
      subst hc hd
      have ho1 : (s.heap.push (bareSet led)).get? l = some { cls := .type "tuple", dict := odict, data := .seq items nl, slots := oslots } := Heap.get?_push_of_some _ ho
      have g8 := F.sub_tuple_set
      have g9 := F.sub_tuple_frozenset
      have g10 : (Value.type "tuple" == Value.type "dict") = false := by decide
      have tup1 : (s.heap.push (bareSet led)).IsTuple l items := ⟨_, ho1, rfl, nl, rfl⟩
      unfold Builtin.«set.__init__» noKeywords Builtin.Frozenset.updateFrom
      generalize hPI : pyIter = PI
      wp_walk
      subst hPI
      refine wpAny_pyIter_tuple tup1 (wpAny_bind (wpAny_runValue ?_))
      have lt0 : l < s.heap.objs.size := Heap.lt_size ho
      have sz1 : (s.heap.push (bareSet led)).objs.size = s.heap.objs.size + 1 := Heap.size_push ..
      have calm3 : A.in1.in1.in1.handled = none := by simp [calm]
      have ne1 : l ≠ (s.heap.push (bareSet led)).objs.size := by
        rw [sz1]
        exact Nat.ne_of_lt (Nat.lt_succ_of_lt lt0)
      have apart : s.heap.objs.size ∉ [(s.heap.push (bareSet led)).objs.size, l] := fun z => by
        rcases List.mem_cons.mp z with z | z
        · rw [sz1] at z
          exact absurd z (Nat.ne_of_lt (Nat.lt_succ_self _))
        · exact absurd (List.mem_singleton.mp z) (Nat.ne_of_gt lt0)
      refine takes_texts ((Walks.tuple calm3 _ l ne1 items).toS) s.heap.objs.size apart xs size few (fun i v hv => ?_) items.size 0 _ (by omega) ⟨⟨_, Heap.get?_push_size _ rfl, rfl, rfl⟩, (tup1.push _)⟩ ?start fun s' mv held => ?_
      case start =>
        have at1 : ((s.heap.push (bareSet led)).push { cls := .type "tuple_iterator", data := .fields #[.ref l, .int 0 0] }).get? s.heap.objs.size = some (bareSet led) := Heap.get?_push_of_some _ at0
        exact SetOf_congr ((setObjOf_fresh (knd := PySem.strKind P w) led).setOf at1 (by unfold scanBound; omega)) (fun _ => rfl) rfl
      · have hi : i < xs.length := by
          rw [← size]
          exact (Array.getElem?_eq_some_iff.mp hv).1
        obtain ⟨t, e⟩ := SS.strs_at txt i v (by rw [Array.getElem?_toList]; exact hv)
        refine ⟨xs[i], t, List.getElem?_eq_getElem hi, ?_⟩
        rw [e, List.getD_eq_getElem?_getD, List.getElem?_eq_getElem hi]
        rfl
      · obtain ⟨h', gn, dr, tk, os'⟩ := s'
        have eg : gn = s.gens := mv.gens
        have ed : dr = s.drawn := mv.drawn
        have eo : os' = s.os := mv.os
        subst eg ed eo
        refine wpAny_pure ?_
        show wpAny _ _ (ret Value.none) _ _ _
        refine wpAny_pure ⟨rfl, h', tk, rfl, held, fun b o e => ?_⟩
        have lt1 : b < s.heap.objs.size := Heap.lt_size e
        refine mv.heap b o (fun z => ?_) (Heap.get?_push_of_some _ (Heap.get?_push_of_some _ e))
        rcases List.mem_cons.mp z with z | z
        · exact absurd z (Nat.ne_of_lt lt1)
        · rw [List.mem_singleton.mp z, sz1] at lt1
          exact absurd (Nat.lt_trans lt1 (Nat.lt_succ_self _)) (by
            intro q
            have := Nat.lt_of_lt_of_le lt1 (Nat.le_refl _)
            omega)
    · rcases r₂ with e | fl₂
      · exact hr₂
      cases fl₂ with
      | ret r =>
        obtain ⟨rfl, h', tk, rfl, held, kept⟩ := hr₂
        repeat (any_goals (first | assumption | wp_step))
        exact h _ _ held kept
      | _ => exact hr₂.elim
  | _ => exact hr.elim
end
section
variable {X : Cx}
theorem texts_of : ∀ {xs : List Str} {us : List Value}, Vals (xs.map V.str) us → StrsAre us xs
  | [], _, .nil => .nil
  | x :: xs, _, .cons r t => by
    obtain ⟨k, rfl⟩ := r
    exact .cons x k (texts_of t)
/-- len(set(t)), t a tuple of texts -/
def tManyS (K : PySem.W.Frag) (ta : TE) : TE := fun σ H Q => ta σ H fun x H1 => ∃ (l : Addr) (xs : List Str), x = .ref l ∧ SqT K H1 l (xs.map V.str) ∧ xs.length ≤ 4000 ∧ Q (.int ((seen xs).length : Nat)) H1
theorem pe_manyS {a : Expr} {ta : TE} {p p2 q pos : Pos} (hg : Gl X "len") (hm : X.mg "len" = none) (hg2 : Gl X "set") (hm2 : X.mg "set" = none) (ha : PE X a ta) (hc : X.calm = true := by rfl)
    (na : starEach [a] X.env = (false, eval a X.env) :: starEach [] X.env := by rfl) : PE X (.Call (.Name "len" p) [.Call (.Name "set" p2) [a] [] q] [] pos) (tManyS X.K ta) := by
  refine ⟨fun pins s σ H Q I h => Call_ (ld_blt I hg hm boot_len (callWith_builtin1 (args_cons (Call_ (ld_blt I hg2 hm2 boot_set ?_)) rfl) rfl rfl))⟩
  refine callWith_type1 (args_cons (thn (ha.run pins s σ H _ I h) fun v s1 ⟨x, H1, I1, r1, q1⟩ => args_nil ?_) na) na rfl
  obtain ⟨l, xs, rfl, hq, hl, q1⟩ := q1
  cases r1
  obtain ⟨its, r, pl, hz⟩ := I1.tuple hq
  have few := seen_le xs
  refine set_of_texts (I1.ok.hd hc) pl (by simpa using texts_of r) (by unfold scanBound; omega) fun h' tk held kept => args_nil ?_
  obtain ⟨o, es, ep, t, ho, hex, hd, _, _, _, hf, hn⟩ := held
  exact call_len_set ho hex hd hf (by rw [hn]; omega) ⟨.int (seen xs).length, H1, (I1.kept kept).tok _, ⟨_, by rw [hn]⟩, q1⟩
end
end Nb

set_option Elab.async false
set_option maxRecDepth 100000
set_option maxHeartbeats 4000000
/-! Heaps, and the numbers that the laws draw: what is common to all of them. -/
namespace Nb
open PySem L2
/-! ### heaps -/
theorem same_new {H : Hp} {p : Addr} {o : HO} (h : H p = none) : Same H (upd H p o) := fun b x e => by
  rw [upd_ne (ne_of_none e h)]
  exact e
/-- F says nothing of p: so what is stored at p leaves F as it is -/
theorem same_at {F H : Hp} {p : Addr} {o : HO} (s : Same F H) (h : F p = none) : Same F (upd H p o) := fun b x e => by
  rw [upd_ne (ne_of_none e h)]
  exact s _ _ e
theorem same_in {F H : Hp} {p : Addr} {o : HO} (s : Same F H) (h : H p = none) : Same F (upd H p o) := s.trans (same_new h)
/-- the heap without p -/
def del (H : Hp) (p : Addr) : Hp := fun b => if b = p then none else H b
theorem del_at {H : Hp} {p : Addr} : del H p p = none := if_pos rfl
theorem del_ne {H : Hp} {p b : Addr} (h : b ≠ p) : del H p b = H b := if_neg h
theorem del_same {H : Hp} {p : Addr} : Same (del H p) H := fun b o e => by
  by_cases h : b = p
  · subst h
    rw [del_at] at e
    cases e
  · rw [del_ne h] at e
    exact e
theorem same_del {F H : Hp} {p : Addr} (s : Same F H) (h : F p = none) : Same F (del H p) := fun b o e => by
  rw [del_ne (ne_of_none e h)]
  exact s _ _ e
theorem Same.tup {K : PySem.W.Frag} {H H' : Hp} {a : Addr} {xs : List V} (e : Same H H') (h : SqT K H a xs) : SqT K H' a xs := by
  rcases h with (h | ⟨o, h⟩) | h
  · exact .inl (.inl (e _ _ h))
  · exact .inl (.inr ⟨o, e _ _ h⟩)
  · exact .inr h
/-! ### data under more objects -/
section
variable {K : PySem.W.Frag} {H H' : Hp} (s : Same H H')
include s
mutual
theorem dp_same : ∀ (d : PyData) (v : V), Dp K H v d → Dp K H' v d
  | .none, _, .non => .non
  | .bool b, _, .bl _ => .bl b
  | .int i, _, .int _ => .int i
  | .str x, _, .str _ => .str x
  | .list ds, _, .lst h1 h2 => .lst (s.seq h1) (dp_sames ds _ h2)
  | .tuple ds, _, .tup h1 h2 => .tup (Nb.Same.tup s h1) (dp_sames ds _ h2)
theorem dp_sames : ∀ (ds : List PyData) (vs : List V), DpAll K H vs ds → DpAll K H' vs ds
  | [], _, .nil => .nil
  | d :: ds, _, .cons h1 h2 => .cons (dp_same d _ h1) (dp_sames ds _ h2)
end
end
theorem dp_ints {K : PySem.W.Frag} {H : Hp} : ∀ ns : List Int, DpAll K H (ns.map V.int) (ns.map PyData.int)
  | [] => .nil
  | n :: ns => .cons (.int n) (dp_ints ns)
/-- data without dicts, whose texts are texts, not deeper than n -/
def Fine (n : Nat) (d : PyData) : Prop := d.canLay0 = true ∧ d.depth ≤ n
theorem Fine.mono {n m : Nat} {d : PyData} (h : Fine n d) (l : n ≤ m) : Fine m d := ⟨h.1, Nat.le_trans h.2 l⟩
theorem Fine.shaped {n : Nat} {d : PyData} (h : Fine n d) (l : n ≤ 64) : SeqAt.shaped d = true := by
  unfold SeqAt.shaped
  rw [h.1, Bool.true_and]
  exact decide_eq_true (Nat.le_trans h.2 l)
theorem fine_all : ∀ {n : Nat} {ds : List PyData}, (∀ d ∈ ds, Fine n d) → PyData.canLayAll0 ds = true ∧ PyData.depthAll ds ≤ n
  | n, [], _ => by simp [PyData.canLayAll0, PyData.depthAll]
  | n, d :: ds, h => by
    have h1 := h d (List.mem_cons_self ..)
    have h2 := fine_all (n := n) (ds := ds) fun e he => h e (List.mem_cons_of_mem _ he)
    refine ⟨by simp [PyData.canLayAll0, h1.1, h2.1], ?_⟩
    simp only [PyData.depthAll]
    exact Nat.max_le.mpr ⟨h1.2, h2.2⟩
theorem fine_list {n : Nat} {ds : List PyData} (h : ∀ d ∈ ds, Fine n d) : Fine (n + 1) (.list ds) := by
  have k := fine_all h
  exact ⟨by simpa [PyData.canLay0] using k.1, by simpa [PyData.depth] using k.2⟩
theorem fine_tup {n : Nat} {ds : List PyData} (h : ∀ d ∈ ds, Fine n d) : Fine (n + 1) (.tuple ds) := by
  have k := fine_all h
  exact ⟨by simpa [PyData.canLay0] using k.1, by simpa [PyData.depth] using k.2⟩
theorem fine_int (i : Int) : Fine 0 (.int i) := ⟨by simp [PyData.canLay0], by simp [PyData.depth]⟩
theorem fine_non : Fine 0 .none := ⟨by simp [PyData.canLay0], by simp [PyData.depth]⟩
theorem fine_bl (b : Bool) : Fine 0 (.bool b) := ⟨by simp [PyData.canLay0], by simp [PyData.depth]⟩
theorem fine_str {x : Str} (h : PyData.strOk x = true) : Fine 0 (.str x) := ⟨by simpa [PyData.canLay0] using h, by simp [PyData.depth]⟩
theorem fine_ints (ns : List Int) : Fine 1 (.list (ns.map PyData.int)) := fine_list fun d hd => by
  obtain ⟨i, _, rfl⟩ := List.mem_map.mp hd
  exact fine_int i
theorem eqv_nil (ds : List PyData) : PyData.eqv (.list ds) (.list []) = ds.isEmpty := by
  cases ds <;> simp [PyData.eqv, PyData.eqvAll]
/-! ### the source of numbers: a list of three ints -/
def Src (H : Hp) (p : Addr) (b : Nat) : Prop := ∃ c n r : Int, H p = some (.lst [.int c, .int n, .int r]) ∧ 0 ≤ n ∧ n ≤ b
theorem Src.mono {H : Hp} {p : Addr} {b c : Nat} (h : Src H p b) (l : b ≤ c) : Src H p c := by
  obtain ⟨x, n, r, h1, h2, h3⟩ := h
  exact ⟨x, n, r, h1, h2, by omega⟩
theorem Src.some {H : Hp} {p : Addr} {b : Nat} (h : Src H p b) : ∃ o, H p = some o := let ⟨_, _, _, e, _⟩ := h; ⟨_, e⟩
theorem Src.same {F H : Hp} {p : Addr} {b : Nat} (h : Src F p b) (s : Same F H) : Src H p b :=
  let ⟨c, n, r, e, k⟩ := h; ⟨c, n, r, s _ _ e, k⟩
/-- _law_source's promise -/
def spSource (K : PySem.W.Frag) : Sp := fun vs H Q _ => ∃ (a : Addr) (ns : List Int) (k : Nat), vs = [.ref a, .int k] ∧ SqL K H a (ns.map V.int) ∧ ns.length ≤ 63 ∧ k ≤ 1000 ∧
  ∀ H' p, Same H H' → H p = none → Src H' p (3 * k) → Q (.ref p) H'
/-- _law_next's: a number below the second argument; nothing but the source is changed -/
def spNext : Sp := fun vs H Q _ => ∃ (p : Addr) (m : Int) (b : Nat) (F : Hp), vs = [.ref p, .int m] ∧ 1 ≤ m ∧ m < 1000000 ∧ Src H p b ∧ b ≤ 1000000 ∧ F p = none ∧ Same F H ∧
  ∀ H' k, 0 ≤ k → k < m → Same F H' → Src H' p (b + 1) → Q (.int k) H'
/-- _law_pick's: an item of the list -/
def spPick : Sp := fun vs H Q _ => ∃ (p l : Addr) (xs : List V) (b : Nat) (F : Hp), vs = [.ref p, .ref l] ∧ F l = some (.lst xs) ∧ 1 ≤ xs.length ∧ xs.length ≤ 1000 ∧ Src H p b ∧ b ≤ 1000000 ∧ F p = none ∧ Same F H ∧
  ∀ H' x, x ∈ xs → Same F H' → Src H' p (b + 1) → Q x H'
/-! ### frames: what stands beside the source -/
theorem grow_same {F H : Hp} {l : Addr} {o : HO} (s : Same F H) (h : H l = none) : Same F (upd F l o) := same_new (s.free h)
theorem grow_up {F H : Hp} {l : Addr} {o : HO} (s : Same F H) : Same (upd F l o) (upd H l o) := fun b x e => by
  by_cases hb : b = l
  · subst hb
    rw [upd_same] at e ⊢
    exact e
  · rw [upd_ne hb] at e ⊢
    exact s _ _ e
theorem grow_at {F H : Hp} {p l : Addr} {o : HO} {b : Nat} (hF : F p = none) (S : Src H p b) (h : H l = none) : (upd F l o) p = none := by
  obtain ⟨u, e⟩ := S.some
  rw [upd_ne (ne_of_none e h)]
  exact hF
theorem src_new {H : Hp} {p l : Addr} {o : HO} {b : Nat} (S : Src H p b) (h : H l = none) : Src (upd H l o) p b := S.same (same_new h)
/-- what stood at b, not the source, stands there behind a call that was framed by the heap without the source -/
theorem del_get {H H' : Hp} {p b : Addr} {o : HO} (s : Same (del H p) H') (n : b ≠ p) (e : H b = some o) : H' b = some o := s _ _ (by rw [del_ne n]; exact e)
theorem src_ne {H : Hp} {p b : Addr} {n : Nat} {o : HO} (S : Src H p n) (e : H b = some o) (d : ∀ xs, o ≠ .lst xs) : b ≠ p := by
  obtain ⟨c, m, r, e2, _⟩ := S
  exact ne_of e e2 (d _)
/-- the primes -/
def primes : List Int := [2147483647, 2147483629, 2147483587, 2147483579, 2147483563, 2147483549, 2147483543, 2147483497, 2147483489, 2147483477, 2147483423]
theorem prime_at (k : Int) (h0 : 0 ≤ k) (h : k < 11) : ∃ q : Int, atI (primes.map V.int) k = some (.int q) ∧ 2 ≤ q ∧ q < 2 ^ 31 := by
  have hk : k = 0 ∨ k = 1 ∨ k = 2 ∨ k = 3 ∨ k = 4 ∨ k = 5 ∨ k = 6 ∨ k = 7 ∨ k = 8 ∨ k = 9 ∨ k = 10 := by omega
  rcases hk with rfl | rfl | rfl | rfl | rfl | rfl | rfl | rfl | rfl | rfl | rfl
  all_goals exact ⟨_, rfl, by decide, by decide⟩
theorem fmod_pos (x : Int) {m : Int} (h : 1 ≤ m) : 0 ≤ x.fmod m ∧ x.fmod m < m := by
  rw [Int.fmod_eq_emod_of_nonneg x (by omega)]
  exact ⟨Int.emod_nonneg _ (by omega), Int.emod_lt_of_pos _ (by omega)⟩
end Nb

set_option Elab.async false
set_option maxRecDepth 100000
set_option maxHeartbeats 4000000
/-! Names and rows of names, as values. -/
namespace Nb
open PySem L2
def lowA : List Nat := ("a" : Str).cps.toList
def lowZ : List Nat := ("z" : Str).cps.toList
def letterOk (c : Nat) : Bool := !decide ([c] < lowA) && !decide (lowZ < [c])
def isNm (z : Str) : Bool := decide (1 ≤ (z.length : Int)) && decide ((z.length : Int) ≤ 8) && z.cps.toList.all letterOk
def nameV : V → Bool
  | .str z => isNm z
  | _ => false
/-- what is known of a value that may be a name -/
def Known (K : PySem.W.Frag) (H : Hp) (x : V) : Prop := (∃ z, x = .str z ∧ z.length ≤ 1000 ∧ PyData.strOk z = true) ∨ (∀ z, x ≠ .str z) ∧ ∃ T, TyX K H x (.type T) ∧ kitB T "str" = some false
def Item (K : PySem.W.Frag) (H : Hp) (x : V) : Prop := Known K H x ∧ ∃ d, Dp K H x d ∧ Fine 8 d
def tupOf (H : Hp) : V → Option (List V)
  | .ref a => match H a with
    | some (.tup xs) => some xs
    | some (.frz _ (.tup xs)) => some xs
    | _ => none
  | _ => none
def Thing (K : PySem.W.Frag) (H : Hp) (x : V) : Prop :=
  (∃ a xs, x = .ref a ∧ Rd H a (.tup xs) ∧ xs.length ≤ 1000 ∧ ∀ y ∈ xs, Item K H y) ∨ (∀ H', Same H H' → tupOf H' x = none) ∧ ∃ T, TyX K H x (.type T) ∧ kitB T "tuple" = some false
def strsOf (xs : List V) : List Str := xs.filterMap fun | .str z => some z | _ => none
def diffV (xs : List V) : Bool := xs.all nameV && decide (((seen (strsOf xs)).length : Int) = xs.length)
def namesV (H : Hp) (x : V) : Bool := match tupOf H x with
  | some xs => xs.all nameV
  | none => false
def diffOf (H : Hp) (x : V) : Bool := match tupOf H x with
  | some xs => diffV xs
  | none => false
def rowV (H : Hp) (x : V) : Bool := match tupOf H x with
  | some xs => diffV xs && decide ((xs.length : Int) ≤ 4)
  | none => false
theorem tupOf_at {H : Hp} {a : Addr} {xs : List V} (h : Rd H a (.tup xs)) : tupOf H (.ref a) = some xs := by
  show (match H a with | some (.tup xs) => some xs | some (.frz _ (.tup xs)) => some xs | _ => none) = some xs
  rcases h with h | ⟨o, h⟩
  · rw [h]
  · rw [h]
theorem rd_same {H H' : Hp} (s : Same H H') {a : Addr} {u : HO} (h : Rd H a u) : Rd H' a u := by
  rcases h with h | ⟨o, h⟩
  · exact .inl (s _ _ h)
  · exact .inr ⟨o, s _ _ h⟩
theorem rd_ty {K : PySem.W.Frag} {H : Hp} {a : Addr} {xs : List V} (h : Rd H a (.tup xs)) : TyX K H (.ref a) (.type "tuple") := by
  rcases h with h | ⟨o, h⟩
  · exact .base (.tup h)
  · exact .fTuple h
theorem strs_map : ∀ {xs : List V}, xs.all nameV = true → xs = (strsOf xs).map V.str
  | [], _ => rfl
  | x :: xs, h => by
    rw [List.all_cons, Bool.and_eq_true] at h
    have ih := strs_map h.2
    cases x with
    | str z =>
      show V.str z :: xs = V.str z :: (strsOf xs).map V.str
      rw [← ih]
    | _ => exact absurd h.1 (by simp [nameV])
theorem tyx_same {K : PySem.W.Frag} {H H' : Hp} (s : Same H H') {x : V} {t : Value} (h : TyX K H x t) : TyX K H' x t := by
  cases h with
  | base b =>
    refine .base ?_
    cases b with
    | non => exact .non
    | bl x => exact .bl x
    | int i => exact .int i
    | str x => exact .str x
    | flt x => exact .flt x
    | lst e => exact .lst (s _ _ e)
    | frz e => exact .frz (s _ _ e)
    | tup e => exact .tup (s _ _ e)
    | dK e => exact .dK (s _ _ e)
    | dT e => exact .dT (s _ _ e)
    | ins e cl ha hn htk hm => exact .ins (s _ _ e) cl ha hn htk hm
  | byt b => exact .byt b
  | set e => exact .set (s _ _ e)
  | kList e c => exact .kList e c
  | kTuple e c => exact .kTuple e c
  | kDict e c => exact .kDict e c
  | fTuple e => exact .fTuple (s _ _ e)
  | fDict e => exact .fDict (s _ _ e)
theorem known_same {K : PySem.W.Frag} {H H' : Hp} (s : Same H H') {x : V} (h : Known K H x) : Known K H' x := by
  rcases h with h | ⟨h1, T, h2, h3⟩
  · exact .inl h
  · exact .inr ⟨h1, T, tyx_same s h2, h3⟩
theorem item_same {K : PySem.W.Frag} {H H' : Hp} (s : Same H H') {x : V} (h : Item K H x) : Item K H' x :=
  ⟨known_same s h.1, let ⟨d, h1, h2⟩ := h.2; ⟨d, dp_same s d x h1, h2⟩⟩
theorem thing_same {K : PySem.W.Frag} {H H' : Hp} (s : Same H H') {x : V} (h : Thing K H x) : Thing K H' x := by
  rcases h with ⟨a, xs, h1, h2, h3, h4⟩ | ⟨h1, T, h2, h3⟩
  · exact .inl ⟨a, xs, h1, rd_same s h2, h3, fun y hy => item_same s (h4 y hy)⟩
  · exact .inr ⟨fun H2 s2 => h1 H2 (s.trans s2), T, tyx_same s h2, h3⟩
theorem thing_tup {K : PySem.W.Frag} {H H' : Hp} (s : Same H H') {x : V} (h : Thing K H x) : tupOf H' x = tupOf H x := by
  rcases h with ⟨a, xs, rfl, h2, h3, h4⟩ | ⟨h1, _⟩
  · rw [tupOf_at h2, tupOf_at (rd_same s h2)]
  · rw [h1 _ s, h1 _ (Same.refl H)]
theorem thing_row {K : PySem.W.Frag} {H H' : Hp} (s : Same H H') {x : V} (h : Thing K H x) : rowV H' x = rowV H x := by
  unfold rowV
  rw [thing_tup s h]
/-- a value that is no object -/
theorem thing_flat {K : PySem.W.Frag} {H : Hp} {x : V} (h : ∀ a, x ≠ .ref a) {T : String} (t : TyX K H x (.type T)) (k : kitB T "tuple" = some false) : Thing K H x := by
  refine .inr ⟨fun H' _ => ?_, T, t, k⟩
  cases x with
  | ref a => exact absurd rfl (h a)
  | _ => rfl
theorem thing_str {K : PySem.W.Frag} {H : Hp} (z : Str) : Thing K H (.str z) := thing_flat (fun a => by intro e; cases e) (.base (.str z)) (by decide +kernel)
theorem thing_lst {K : PySem.W.Frag} {H : Hp} {a : Addr} {xs : List V} (h : H a = some (.lst xs)) : Thing K H (.ref a) := by
  refine .inr ⟨fun H' s => ?_, "list", .base (.lst h), by decide +kernel⟩
  show (match H' a with | some (.tup xs) => some xs | some (.frz _ (.tup xs)) => some xs | _ => none) = none
  rw [s _ _ h]
theorem thing_dct {K : PySem.W.Frag} {H : Hp} {a : Addr} {xs : List (Key × V)} (h : H a = some (.dK xs)) : Thing K H (.ref a) := by
  refine .inr ⟨fun H' s => ?_, "dict", .base (.dK h), by decide +kernel⟩
  show (match H' a with | some (.tup xs) => some xs | some (.frz _ (.tup xs)) => some xs | _ => none) = none
  rw [s _ _ h]
theorem known_str {K : PySem.W.Frag} {H : Hp} {z : Str} (h : z.length ≤ 1000) (o : PyData.strOk z = true) : Known K H (.str z) := .inl ⟨z, rfl, h, o⟩
theorem known_non {K : PySem.W.Frag} {H : Hp} : Known K H .non := .inr ⟨(fun z e => by cases e), "NoneType", .base .non, by decide +kernel⟩
theorem known_int {K : PySem.W.Frag} {H : Hp} (i : Int) : Known K H (.int i) := .inr ⟨(fun z e => by cases e), "int", .base (.int i), by decide +kernel⟩
theorem known_bl {K : PySem.W.Frag} {H : Hp} (b : Bool) : Known K H (.bl b) := .inr ⟨(fun z e => by cases e), "bool", .base (.bl b), by decide +kernel⟩
theorem known_tup {K : PySem.W.Frag} {H : Hp} {a : Addr} {xs : List V} (h : H a = some (.tup xs)) : Known K H (.ref a) := .inr ⟨(fun z e => by cases e), "tuple", .base (.tup h), by decide +kernel⟩
theorem known_lst {K : PySem.W.Frag} {H : Hp} {a : Addr} {xs : List V} (h : H a = some (.lst xs)) : Known K H (.ref a) := .inr ⟨(fun z e => by cases e), "list", .base (.lst h), by decide +kernel⟩
theorem known_dct {K : PySem.W.Frag} {H : Hp} {a : Addr} {xs : List (Key × V)} (h : H a = some (.dK xs)) : Known K H (.ref a) := .inr ⟨(fun z e => by cases e), "dict", .base (.dK h), by decide +kernel⟩
theorem item_str {K : PySem.W.Frag} {H : Hp} {z : Str} (h : z.length ≤ 1000) (o : PyData.strOk z = true) : Item K H (.str z) := ⟨known_str h o, .str z, .str z, (fine_str o).mono (by decide)⟩
theorem item_non {K : PySem.W.Frag} {H : Hp} : Item K H .non := ⟨known_non, .none, .non, fine_non.mono (by decide)⟩
/-- a text that is short, its signs signs -/
def Word (z : Str) : Prop := z.length ≤ 1000 ∧ PyData.strOk z = true
theorem Word.item {K : PySem.W.Frag} {H : Hp} {z : Str} (h : Word z) : Item K H (.str z) := item_str h.1 h.2
theorem strOk_append {x y : Str} (h : PyData.strOk x = true) (k : PyData.strOk y = true) : PyData.strOk (x ++ y) = true := by
  unfold PyData.strOk at *
  rw [Array.all_eq_true_iff_forall_mem] at *
  intro c hc
  have hc2 : c ∈ x.cps ++ y.cps := hc
  rcases Array.mem_append.mp hc2 with z | z
  · exact h c z
  · exact k c z
theorem strOk_cut {x : Str} (h : PyData.strOk x = true) (lo hi : Option Int) : PyData.strOk (cutS x lo hi) = true := by
  unfold PyData.strOk at *
  rw [Array.all_eq_true_iff_forall_mem] at *
  intro c hc
  have hc2 : c ∈ ((x.cps.toList.drop (HT.sIx x.length 0 lo)).take (HT.sIx x.length x.length hi - HT.sIx x.length 0 lo)) := by
    have : c ∈ (cutS x lo hi).cps.toList := by simpa using hc
    simpa [cutS] using this
  have h3 : c ∈ x.cps.toList := List.mem_of_mem_drop (List.mem_of_mem_take hc2)
  exact h c (by simpa using h3)
/-- repr(b), b a bool -/
theorem cr_reprB {X : Cx} : CallR X (.builtin "repr") (fun xs H Q => ∃ b : Bool, xs = [.bl b] ∧ Q (.str (if b then "True" else "False")) H) := by
  intro pins s σ H xs us Q I r h
  obtain ⟨b, rfl, q⟩ := h
  obtain ⟨u, rfl, ru⟩ := vals1 r
  cases (show u = Value.bool b from ru)
  refine PySem.P.repr_of_bool ⟨.str _, H, I.tok _, ⟨_, rfl⟩, ?_⟩
  exact q
/-- a comprehension over a text, its elements read off the signs -/
theorem lc_str {x : Str} {g : TG} {tt : TT} {te : TE} {vs : List Nat} {σ : St} {H1 : Hp} {D : Addr} {Qd : Hp → Prop} (Pv : Nat → Hp → Prop) (h0 : Pv 0 (upd H1 D (.lst [])))
    (hs : ∀ i c H, x.cps.toList[i]? = some c → Pv i H → g (.str ⟨#[c]⟩) (wipe σ vs) H fun σ2 H2 => wipe σ2 vs = wipe σ vs ∧ tt σ2 H2 fun b H3 =>
      if b = true then te σ2 H3 fun y H4 => ∃ acc, H4 D = some (.lst acc) ∧ acc.length < sizeLine ∧ Pv (i + 1) (upd H4 D (.lst (acc ++ [y]))) else Pv (i + 1) H3) (hd : ∀ H, Pv x.cps.toList.length H → Qd H) :
    ∃ W : Nat → Nat → Hp → Prop, (∃ m, W 0 m (upd H1 D (.lst []))) ∧ ∀ i m H, W i m H →
      ((Its x).stop i H ∧ Qd H) ∨ ((Its x).go i H ∧ ∃ Nx : Hp → Prop, (∀ H', Nx H' → ∃ m', m' < m ∧ W (i + 1) m' H') ∧ ∀ y H', (Its x).yld i H y H' → g y (wipe σ vs) H' fun σ2 H2 => wipe σ2 vs = wipe σ vs ∧ tt σ2 H2 fun b H3 =>
        if b = true then te σ2 H3 fun y H4 => ∃ acc, H4 D = some (.lst acc) ∧ acc.length < sizeLine ∧ Nx (upd H4 D (.lst (acc ++ [y]))) else Nx H3) := by
  have sz : x.cps.toList.length = x.cps.size := Array.length_toList
  refine ⟨fun i m H => m + i = x.cps.size ∧ Pv i H, ⟨x.cps.size, by omega, h0⟩, fun i m H ⟨em, p⟩ => ?_⟩
  by_cases hlt : i < x.cps.size
  · refine .inr ⟨hlt, Pv (i + 1), fun H' p' => ⟨m - 1, by omega, by omega, p'⟩, fun y H' hy => ?_⟩
    obtain ⟨rfl, c, hc, rfl⟩ := hy
    exact hs i c _ (by rw [Array.getElem?_toList]; exact hc) p
  · have e : i = x.cps.toList.length := by omega
    subst e
    exact .inl ⟨by show x.cps.size ≤ _; omega, hd H p⟩
theorem all_filter {α : Type} (f : α → Bool) : ∀ xs : List α, (xs.filter fun x => !f x).isEmpty = xs.all f
  | [] => rfl
  | x :: xs => by
    rw [List.filter_cons, List.all_cons, ← all_filter f xs]
    cases f x <;> rfl
theorem dps {K : PySem.W.Frag} {H : Hp} : ∀ {xs : List V}, (∀ x ∈ xs, ∃ d, Dp K H x d ∧ Fine 8 d) → ∃ ds, DpAll K H xs ds ∧ (∀ d ∈ ds, Fine 8 d) ∧ ds.isEmpty = xs.isEmpty
  | [], _ => ⟨[], .nil, (fun _ h => by cases h), rfl⟩
  | x :: xs, h => by
    obtain ⟨d, h1, h2⟩ := h x (List.mem_cons_self ..)
    obtain ⟨ds, h3, h4, _⟩ := dps (xs := xs) fun y hy => h y (List.mem_cons_of_mem _ hy)
    exact ⟨d :: ds, .cons h1 h3, fun e he => by
      rcases List.mem_cons.mp he with rfl | he
      · exact h2
      · exact h4 e he, rfl⟩
/-- is_name's promise -/
def spName (K : PySem.W.Frag) : Sp := fun vs H Q _ => ∃ x, vs = [x] ∧ Known K H x ∧ ∀ H', Same H H' → Q (.bl (nameV x)) H'
def spOf (K : PySem.W.Frag) (f : Hp → V → Bool) : Sp := fun vs H Q _ => ∃ x, vs = [x] ∧ Thing K H x ∧ ∀ H', Same H H' → Q (.bl (f H x)) H'
/-- what is asked of the module's names -/
structure NamesTxt (mg : Str → Option Value) : Prop where
  len : mg "len" = none
  isi : mg "isinstance" = none
  str : mg "str" = none
  tup : mg "tuple" = none
  all : mg "all" = none
  set : mg "set" = none
end Nb

set_option Elab.async false
set_option maxRecDepth 100000
set_option maxHeartbeats 4000000
/-! enumerate(t), t a tuple. -/
namespace Nb
open PySem PySem.Spec PyProof.Rows L2
/-- the two cells of an enumerate over what begins -/
theorem enumerates {v : Value} {o : Obj} {G : Heap → Prop} (B : Begins v o G) :
    Meets (Builtin.«enumerate.__new__» ⟨[.type "enumerate", v], []⟩) (fun _ R s => G s.heap ∧
      R (.ok (.ret (.ref (s.heap.push o).objs.size))) { s with heap := (s.heap.push o).push { cls := .type "enumerate", data := .fields #[.none, .bool false, .ref s.heap.objs.size, rawInt 0, .none, .none] } }) :=
  .of_wp fun prog w A R s h => by
    obtain ⟨hp, g, d, tk, os⟩ := s
    obtain ⟨here, h⟩ := h
    have hsub := sub_enumerate
    have begin_ : ∀ {A' : Around} {E : Value → Shared → Prop} {Q : Value → Shared → Prop}, Q (.ref hp.objs.size) ⟨hp.push o, g, d, tk, os⟩ → wpAny (model prog w) A' (pyIter v) Q E ⟨hp, g, d, tk, os⟩ :=
      fun q => B.iter prog w _ _ ⟨hp, g, d, tk, os⟩ _ here q
    wp_walk using begin_
    refine wpAny_stack_any fun st => wpAny_pure ?_
    split
    case h_1 c _ _ _ _ _ =>
      cases (c == Value.type "enumerate") <;> (wp_walk using begin_; exact ⟨_, rfl, h⟩)
    case h_2 =>
      wp_walk using begin_
      exact ⟨_, rfl, h⟩
theorem enumerate_made {prog : Program} {w : World} {A : Around} {E : Value → Shared → Prop} {s : Shared} {v : Value} {o : Obj} {G : Heap → Prop} {Q : Value → Shared → Prop} (B : Begins v o G) (here : G s.heap)
    (h : ∀ h', IsEnum h' (s.heap.objs.size + 1) s.heap.objs.size 0 .none → h'.get? s.heap.objs.size = some o → (∀ b u, s.heap.get? b = some u → h'.get? b = some u) → Q (.ref (s.heap.objs.size + 1)) { s with heap := h' }) :
    wpAny (model prog w) A (call (.type "enumerate") [v]) Q E s := by
  refine callType_new F.called_enumerate (by decide) (F.typeCall_enumerate_1 _) (F.newCall_enumerate_1 _) (fun obj => F.args_object_init_2 obj _) F.entry_enumerate_new (enumerates B) ⟨here, ?_⟩
  have two : (s.heap.push o).objs.size = s.heap.objs.size + 1 := Heap.size_push ..
  show _ ∧ _
  rw [two]
  have made := Heap.get?_push_size (s.heap.push o) (o := { cls := .type "enumerate", data := .fields #[.none, .bool false, .ref s.heap.objs.size, rawInt 0, .none, .none] }) rfl
  rw [two] at made
  exact ⟨⟨_, made, rfl⟩, h _ made (Heap.get?_push_of_some _ (Heap.get?_push_size _ B.free)) fun b u x => Heap.get?_push_of_some _ (Heap.get?_push_of_some _ x)⟩
/-- the tuple at a, each item in a new pair with its index -/
def Itet (K : PySem.W.Frag) (a : Addr) : It :=
  ⟨fun i H => ∃ (xs : List V) (x : V), SqT K H a xs ∧ xs[i]? = some x, fun i H v H' => ∃ T x, v = .ref T ∧ H T = none ∧ H' = upd H T (.tup [.int (i : Nat), x]) ∧ ∀ xs, SqT K H a xs → xs[i]? = some x, fun i H => ∃ xs : List V, SqT K H a xs ∧ xs.length = i⟩
theorem turn_enumT {P : Program} {w : World} {K : PySem.W.Frag} {elts : List Expr} {kk : Nat} {tpos : Pos} (a e it : Addr) :
    Turn P w K (.Tuple elts kk tpos) (Itet K a) [e, it] e (fun i h => (∃ old, IsEnum h e it ((i : Nat) : Int) old) ∧ h.IsTupleIter it a i ∧ e ≠ it) where
  mem := by simp
  obj := fun i h st b hb => by
    obtain ⟨⟨old, he⟩, ⟨o, ho, _, hd⟩, _⟩ := st
    have z : b = e ∨ b = it := by simpa using hb
    rcases z with rfl | rfl
    · exact ⟨_, he, fun v q => nomatch q⟩
    · exact ⟨o, ho, fun v q => by rw [hd] at q; cases q⟩
  keep := fun i h h' ⟨⟨old, he⟩, hi, hne⟩ k => ⟨⟨old, k e (by simp) _ he⟩, hi.at fun o q => k it (by simp) o q, hne⟩
  item := by
    intro X hP hw hK hc i pins s σ H E I hf st hg
    subst hP hw hK
    obtain ⟨⟨old, he⟩, hit, hne⟩ := st
    obtain ⟨xs, x, hq, hx⟩ := hg
    obtain ⟨its, rv, tp, hz⟩ := I.tuple hq
    obtain ⟨u, hu, ru⟩ := rv.get hx
    have hel : e < s.heap.objs.size := Heap.lt_size he
    have hil : it < s.heap.objs.size := by
      obtain ⟨_, q, _⟩ := hit
      exact Heap.lt_size q
    have nta : a ≠ it := fun z => by
      obtain ⟨o1, e1, c1, _⟩ := hit
      obtain ⟨o2, e2, c2, _⟩ := tp
      rw [z, e1] at e2
      cases e2
      rw [c1] at c2
      injection c2 with c3
      exact absurd c3 (by decide)
    have nea : e ≠ a := fun z => by
      obtain ⟨o2, e2, c2, _⟩ := tp
      have e3 : s.heap.get? a = _ := z ▸ he
      rw [e3] at e2
      cases e2
      injection c2 with c3
      exact absurd c3 (by decide)
    have D := Draws.tuple (prog := X.prog) (w := X.w) (A := X.A.in1) (show X.A.in1.handled = none from I.ok.hd hc) it a nta its.toArray
    have sz : i < its.toArray.size := by
      have := (List.getElem?_eq_some_iff.mp hu).1
      simpa using this
    refine wpAny_pyNext_enum_itemD D he ⟨hit, tp⟩ sz hne (by simp [hne, nea]) fun y h' tk py ho st' hT hsz hk => ?_
    have ey : y = u := by
      have p2 : its.toArray[i]? = some u := by simpa using hu
      exact Option.some.inj (py.symm.trans p2)
    subst ey
    refine ⟨_, rfl, wpAny_letOwnedTupleGo_enum (s := { s with heap := h', toks := tk + 1 }) ho fun h'' he' sb => ?_⟩
    have hT2 : h''.get? s.heap.objs.size = some { cls := .type "tuple", data := .seq #[.int i tk, y] } := (sb.2 _ (Nat.ne_of_gt hel)).trans hT
    have new : ObjOk X.prog X.w (upd H s.heap.objs.size (.tup [.int (i : Nat), x])) h'' s.heap.objs.size (.tup [.int (i : Nat), x]) :=
      ⟨by show 2 ≤ sizeLine; decide, [.int i tk, y], .cons ⟨_, rfl⟩ (.cons ru .nil), ⟨_, hT2, rfl, _, rfl⟩⟩
    have I1 : Inv X pins σ (upd H s.heap.objs.size (.tup [.int (i : Nat), x])) { s with heap := h'', toks := tk + 1 } :=
      I.turnedNew (ch := [e, it]) (fun b ob hb q => (sb.2 b (fun z => hb (by simp [z]))).trans (hk b ob (fun z => hb (by simp [z])) (fun z => hb (by simp [z])) q)) hf (Nat.le_refl _) new
    refine ⟨.ref s.heap.objs.size, _, I1, rfl, ⟨_, x, rfl, I.hok.fresh (Nat.le_refl _), rfl, fun ys hy => by rw [I.tuple_inj hy hq]; exact hx⟩, ⟨⟨y, ?_⟩, st'.1.at fun o q => (sb.2 it (Ne.symm hne)).trans q, hne⟩, fun b hb => ?_⟩
    · have e1 : ((i + 1 : Nat) : Int) = (i : Int) + 1 := by omega
      rw [e1]
      exact he'
    · have hb' : b < s.heap.objs.size := by
        have z : b = e ∨ b = it := by simpa using hb
        rcases z with rfl | rfl
        · exact hel
        · exact hil
      rw [upd_ne (Nat.ne_of_lt hb')]
      exact (hf b hb).1
  done := by
    intro X hP hw hK hc i pins s σ H E I hf st hg
    subst hP hw hK
    obtain ⟨⟨old, he⟩, hit, hne⟩ := st
    obtain ⟨xs, hq, hx⟩ := hg
    obtain ⟨its, rv, tp, hz⟩ := I.tuple hq
    obtain ⟨f0, f1, f2, f3, f4, f5⟩ := hf it (by simp)
    have nta : a ≠ it := fun z => by
      obtain ⟨o1, e1, c1, _⟩ := hit
      obtain ⟨o2, e2, c2, _⟩ := tp
      rw [z, e1] at e2
      cases e2
      rw [c1] at c2
      injection c2 with c3
      exact absurd c3 (by decide)
    have sz : its.toArray.size = i := by
      have hl := rv.length
      rw [List.size_toArray, ← hl, hx]
    have D := Draws.tuple (prog := X.prog) (w := X.w) (A := X.A.in1) (show X.A.in1.handled = none from I.ok.hd hc) it a nta its.toArray
    refine wpAny_pyNext_enum_endD D he ⟨by rw [sz]; exact hit, tp⟩ fun h' eb => ⟨rfl, I.turned (t' := s.toks) (fun b o hb q => eb b o hb q) f0 f1 f3 f4 f5⟩
  self := fun A i s Q E st h => let ⟨⟨_, he⟩, _⟩ := st; wpAny_pyIter_enum he h
def iEnumT (K : PySem.W.Frag) (ta : TA) : TI := fun σ H R => ta σ H fun vs H1 => ∃ a xs, vs = [.ref a] ∧ SqT K H1 a xs ∧ R (Itet K a) H1
theorem pi_enumT {X : Cx} {e : Expr} {ta : TA} {p pos tpos : Pos} {elts : List Expr} {kk : Nat} (hg : Gl X "enumerate") (hm : X.mg "enumerate" = none) (ha : PA X [e] ta) (hs : starEach [e] X.env = [(false, eval e X.env)] := by rfl) :
    PI X (.Tuple elts kk tpos) (.Call (.Name "enumerate" p) [e] [] pos) (iEnumT X.K ta) := by
  refine ⟨fun pins s σ H R I h => Call_ (ld_blt I hg hm boot_enumerate (callWith_type1 (thn (ha.run pos pins s σ H _ I h) fun us s1 ⟨vs, H1, I1, r1, q1⟩ => ?_) hs rfl))⟩
  obtain ⟨a, xs, rfl, hq, q⟩ := q1
  cases r1 with
  | cons r rr =>
    cases rr
    cases r
    obtain ⟨its, rv, tp, hz⟩ := I1.tuple hq
    refine enumerate_made (begins_tuple a its.toArray) tp fun h' he hit hk => wpAny_pyIter_enum he ?_
    refine ⟨s1.heap.objs.size + 1, [s1.heap.objs.size + 1, s1.heap.objs.size], _, _, H1, rfl, I1.kept (t' := s1.toks) hk, turn_enumT a (s1.heap.objs.size + 1) s1.heap.objs.size, ⟨⟨.none, he⟩, ⟨_, hit, rfl, rfl⟩, Nat.succ_ne_self _⟩, fun b hb => ?_, q⟩
    have hle : s1.heap.objs.size ≤ b := by
      have z : b = s1.heap.objs.size + 1 ∨ b = s1.heap.objs.size := by simpa using hb
      rcases z with rfl | rfl
      · exact Nat.le_succ _
      · exact Nat.le_refl _
    have I2 : Inv X pins σ H1 { s1 with heap := h' } := I1.kept (t' := s1.toks) hk
    have old := I1.fpOk hle (I1.hok.fresh hle)
    exact old
theorem walk_enumT {K : PySem.W.Frag} {a : Addr} {xs : List V} : Walk (Itet K a) xs.length (fun H => SqT K H a xs) (YPair (fun i => some (.int (i : Nat))) (fun i => xs[i]?)) :=
  ⟨fun i H hi h => ⟨xs, xs[i], h, List.getElem?_eq_getElem hi⟩, fun H h => ⟨xs, h, rfl⟩, fun i H v H' hi h hy => by
    obtain ⟨T, x, e1, e2, e3, e4⟩ := hy
    exact ⟨T, .int (i : Nat), x, e1, e2, e3, rfl, e4 xs h⟩⟩
end Nb

set_option Elab.async false
set_option maxRecDepth 100000
set_option maxHeartbeats 4000000
/-! Data that stands in the heap, to a depth; rows of names. -/
namespace Nb
open PySem L2
mutual
/-- the value is this data: texts short, lists and tuples short, not deeper than n, no dict -/
inductive Td (H : Hp) : Nat → V → PyData → Prop
  | non {n} : Td H n .non .none
  | bl {n} (b : Bool) : Td H n (.bl b) (.bool b)
  | int {n} (i : Int) : Td H n (.int i) (.int i)
  | str {n} {z : Str} (h : Word z) : Td H n (.str z) (.str z)
  | lst {n} {a : Addr} {xs : List V} {ds : List PyData} (e : H a = some (.lst xs)) (l : xs.length ≤ 1000) (h : Tds H n xs ds) : Td H (n + 1) (.ref a) (.list ds)
  | tup {n} {a : Addr} {xs : List V} {ds : List PyData} (e : H a = some (.tup xs)) (l : xs.length ≤ 1000) (h : Tds H n xs ds) : Td H (n + 1) (.ref a) (.tuple ds)
inductive Tds (H : Hp) : Nat → List V → List PyData → Prop
  | nil {n} : Tds H n [] []
  | cons {n} {x : V} {d : PyData} {xs : List V} {ds : List PyData} (h : Td H n x d) (t : Tds H n xs ds) : Tds H n (x :: xs) (d :: ds)
end
section
variable {H H' : Hp}
mutual
theorem td_same (s : Same H H') : ∀ {n : Nat} {x : V} {d : PyData}, Td H n x d → Td H' n x d
  | _, _, _, .non => .non
  | _, _, _, .bl b => .bl b
  | _, _, _, .int i => .int i
  | _, _, _, .str h => .str h
  | _, _, _, .lst e l h => .lst (s _ _ e) l (tds_same s h)
  | _, _, _, .tup e l h => .tup (s _ _ e) l (tds_same s h)
theorem tds_same (s : Same H H') : ∀ {n : Nat} {xs : List V} {ds : List PyData}, Tds H n xs ds → Tds H' n xs ds
  | _, _, _, .nil => .nil
  | _, _, _, .cons h t => .cons (td_same s h) (tds_same s t)
end
mutual
theorem td_up : ∀ {n : Nat} {x : V} {d : PyData}, Td H n x d → Td H (n + 1) x d
  | _, _, _, .non => .non
  | _, _, _, .bl b => .bl b
  | _, _, _, .int i => .int i
  | _, _, _, .str h => .str h
  | _, _, _, .lst e l h => .lst e l (tds_up h)
  | _, _, _, .tup e l h => .tup e l (tds_up h)
theorem tds_up : ∀ {n : Nat} {xs : List V} {ds : List PyData}, Tds H n xs ds → Tds H (n + 1) xs ds
  | _, _, _, .nil => .nil
  | _, _, _, .cons h t => .cons (td_up h) (tds_up t)
end
mutual
theorem td_dp {K : PySem.W.Frag} : ∀ {n : Nat} {x : V} {d : PyData}, Td H n x d → Dp K H x d ∧ d.canLay0 = true ∧ d.depth ≤ n
  | _, _, _, .non => ⟨.non, by simp [PyData.canLay0], by simp [PyData.depth]⟩
  | _, _, _, .bl b => ⟨.bl b, by simp [PyData.canLay0], by simp [PyData.depth]⟩
  | _, _, _, .int i => ⟨.int i, by simp [PyData.canLay0], by simp [PyData.depth]⟩
  | _, _, _, .str h => ⟨.str _, by simpa [PyData.canLay0] using h.2, by simp [PyData.depth]⟩
  | _, _, _, .lst e l h => by
    have k := tds_dp (K := K) h
    exact ⟨.lst (SqL.of e) k.1, by simpa [PyData.canLay0] using k.2.1, by simpa [PyData.depth] using k.2.2⟩
  | _, _, _, .tup e l h => by
    have k := tds_dp (K := K) h
    exact ⟨.tup (SqT.of e) k.1, by simpa [PyData.canLay0] using k.2.1, by simpa [PyData.depth] using k.2.2⟩
theorem tds_dp {K : PySem.W.Frag} : ∀ {n : Nat} {xs : List V} {ds : List PyData}, Tds H n xs ds → DpAll K H xs ds ∧ PyData.canLayAll0 ds = true ∧ PyData.depthAll ds ≤ n
  | _, _, _, .nil => ⟨.nil, by simp [PyData.canLayAll0], by simp [PyData.depthAll]⟩
  | _, _, _, .cons h t => by
    have k := td_dp (K := K) h
    have j := tds_dp (K := K) t
    refine ⟨.cons k.1 j.1, by simp [PyData.canLayAll0, k.2.1, j.2.1], ?_⟩
    simp only [PyData.depthAll]
    exact Nat.max_le.mpr ⟨k.2.2, j.2.2⟩
end
theorem td_shaped {K : PySem.W.Frag} {n : Nat} {x : V} {d : PyData} (h : Td H n x d) (l : n ≤ 64) : SeqAt.shaped d = true := by
  have k := td_dp (K := K) h
  exact Fine.shaped (n := n) ⟨k.2.1, k.2.2⟩ l
theorem tds_len : ∀ {n : Nat} {xs : List V} {ds : List PyData}, Tds H n xs ds → xs.length = ds.length
  | _, _, _, .nil => rfl
  | _, _, _, .cons _ t => congrArg (· + 1) (tds_len t)
theorem tds_get : ∀ {n : Nat} {xs : List V} {ds : List PyData} {i : Nat} {x : V}, Tds H n xs ds → xs[i]? = some x → ∃ d, ds[i]? = some d ∧ Td H n x d
  | _, _, _, _, _, .nil, e => by simp at e
  | _, _, _, 0, _, .cons h t, e => by
    simp at e
    subst e
    exact ⟨_, rfl, h⟩
  | _, _, _, i + 1, _, .cons h t, e => by
    obtain ⟨d, e1, e2⟩ := tds_get (i := i) t (by simpa using e)
    exact ⟨d, by simpa using e1, e2⟩
theorem tds_app : ∀ {n : Nat} {xs ys : List V} {ds es : List PyData}, Tds H n xs ds → Tds H n ys es → Tds H n (xs ++ ys) (ds ++ es)
  | _, _, _, _, _, .nil, k => k
  | _, _, _, _, _, .cons h t, k => .cons h (tds_app t k)
theorem tds_take : ∀ {n : Nat} {xs : List V} {ds : List PyData} (i : Nat), Tds H n xs ds → Tds H n (xs.take i) (ds.take i)
  | _, _, _, 0, _ => .nil
  | _, _, _, i + 1, .nil => .nil
  | _, _, _, i + 1, .cons h t => .cons h (tds_take i t)
theorem tds_drop : ∀ {n : Nat} {xs : List V} {ds : List PyData} (i : Nat), Tds H n xs ds → Tds H n (xs.drop i) (ds.drop i)
  | _, _, _, 0, t => t
  | _, _, _, i + 1, .nil => .nil
  | _, _, _, i + 1, .cons _ t => tds_drop i t
theorem tds_rev : ∀ {n : Nat} {xs : List V} {ds : List PyData}, Tds H n xs ds → Tds H n xs.reverse ds.reverse
  | _, _, _, .nil => .nil
  | _, _, _, .cons h t => by
    rw [List.reverse_cons, List.reverse_cons]
    exact tds_app (tds_rev t) (.cons h .nil)
/-- some data for each -/
theorem tds_ex : ∀ {n : Nat} {xs : List V}, (∀ x ∈ xs, ∃ d, Td H n x d) → ∃ ds, Tds H n xs ds
  | _, [], _ => ⟨[], .nil⟩
  | n, x :: xs, h => by
    obtain ⟨d, k⟩ := h x (List.mem_cons_self ..)
    obtain ⟨ds, j⟩ := tds_ex (n := n) (xs := xs) fun y hy => h y (List.mem_cons_of_mem _ hy)
    exact ⟨d :: ds, .cons k j⟩
theorem tds_mem : ∀ {n : Nat} {xs : List V} {ds : List PyData} {x : V}, Tds H n xs ds → x ∈ xs → ∃ d, d ∈ ds ∧ Td H n x d
  | _, _, _, _, .nil, e => by cases e
  | _, _, _, _, .cons h t, e => by
    rcases List.mem_cons.mp e with rfl | e
    · exact ⟨_, List.mem_cons_self .., h⟩
    · obtain ⟨d, e1, e2⟩ := tds_mem t e
      exact ⟨d, List.mem_cons_of_mem _ e1, e2⟩
theorem td_ty {K : PySem.W.Frag} : ∀ {n : Nat} {x : V} {d : PyData}, Td H n x d → TyX K H x (.type (match d with | .none => "NoneType" | .bool _ => "bool" | .int _ => "int" | .str _ => "str" | .list _ => "list" | .tuple _ => "tuple" | .dict _ => "dict"))
  | _, _, _, .non => .base .non
  | _, _, _, .bl b => .base (.bl b)
  | _, _, _, .int i => .base (.int i)
  | _, _, _, .str (z := z) h => .base (.str z)
  | _, _, _, .lst e l h => .base (.lst e)
  | _, _, _, .tup e l h => .base (.tup e)
theorem td_known {K : PySem.W.Frag} : ∀ {n : Nat} {x : V} {d : PyData}, Td H n x d → Known K H x
  | _, _, _, .non => known_non
  | _, _, _, .bl b => known_bl b
  | _, _, _, .int i => known_int i
  | _, _, _, .str h => known_str h.1 h.2
  | _, _, _, .lst e l h => known_lst e
  | _, _, _, .tup e l h => known_tup e
end
/-- in, a tuple of data -/
def rInT (K : PySem.W.Frag) : R2 := fun x y H Q => ∃ d ds, Dp K H x d ∧ Dp K H y (.tuple ds) ∧ SeqAt.shaped d = true ∧ SeqAt.shaped (.tuple ds) = true ∧ Q (.bl (ds.any fun z => PyData.eqv z d)) H
theorem op_inT {X : Cx} (hu : X.A.units + 65 < cLine) : OpR X (compareOp .In) (rInT X.K) := by
  intro pins s σ H x y v u Q I rx ry h
  obtain ⟨d, ds, hd, he, sd, se, q⟩ := h
  obtain ⟨as, r1⟩ := Dp.reads I d x v hd rx
  obtain ⟨bs, r2⟩ := Dp.reads I (.tuple ds) y u he ry
  have l1 := SeqAt.canLay_of_shaped se
  have d1 := SeqAt.depth_of_shaped sd
  refine SeqAt.in_tuple_reads r2 r1 (by simpa [PyData.canLay0] using l1) (SeqAt.canLay_of_shaped sd) ?_ ⟨.bl _, H, I, rfl, q⟩
  have := Nat.min_le_right (PyData.depthAll ds) d.depth
  omega
/-! ### rows of names -/
def GoodRow (row : List Str) : Prop := row.Nodup ∧ (∀ z ∈ row, isNm z = true ∧ Word z) ∧ row.length ≤ 8
def RowsAt (H : Hp) (r : Addr) (rows : List (List Str)) : Prop := ∃ as : List Addr, H r = some (.tup (as.map V.ref)) ∧ as.length = rows.length ∧ ∀ (k : Nat) (a : Addr) (row : List Str), as[k]? = some a → rows[k]? = some row → Rd H a (.tup (row.map V.str))
theorem rows_same {H H' : Hp} {r : Addr} {rows : List (List Str)} (s : Same H H') (h : RowsAt H r rows) : RowsAt H' r rows :=
  let ⟨as, h1, h2, h3⟩ := h; ⟨as, s _ _ h1, h2, fun k a row e1 e2 => rd_same s (h3 k a row e1 e2)⟩
theorem strsOf_map : ∀ l : List Str, strsOf (l.map V.str) = l
  | [] => rfl
  | x :: l => by
    show x :: strsOf (l.map V.str) = x :: l
    rw [strsOf_map l]
theorem seen_nodup : ∀ (l acc : List Str), (acc ++ l).Nodup → l.foldl grow acc = acc ++ l
  | [], acc, _ => by simp
  | x :: l, acc, h => by
    have hx : acc.any (· == x) = false := by
      cases e : acc.any (· == x) with
      | false => rfl
      | true =>
        obtain ⟨y, hy, ey⟩ := List.any_eq_true.mp e
        have ey2 : y = x := eq_of_beq ey
        subst ey2
        have h2 := (List.nodup_append.mp h).2.2 y hy y (List.mem_cons_self ..)
        exact absurd rfl h2
    have g : grow acc x = acc ++ [x] := by
      unfold grow
      rw [hx]
      rfl
    show l.foldl grow (grow acc x) = acc ++ x :: l
    rw [g, seen_nodup l (acc ++ [x]) (by simpa using h)]
    simp
theorem good_diff {row : List Str} (h : GoodRow row) : diffV (row.map V.str) = true := by
  unfold diffV
  have h1 : (row.map V.str).all nameV = true := by
    rw [List.all_map, List.all_eq_true]
    intro z hz
    exact (h.2.1 z hz).1
  have h2 : seen row = row := by
    have := seen_nodup row [] (by simpa using h.1)
    simpa [seen] using this
  rw [h1, strsOf_map, h2]
  simp
theorem good_thing {K : PySem.W.Frag} {H : Hp} {a : Addr} {row : List Str} (h : GoodRow row) (e : Rd H a (.tup (row.map V.str))) : Thing K H (.ref a) :=
  .inl ⟨a, _, rfl, e, by rw [List.length_map]; exact Nat.le_trans h.2.2 (by decide), fun y hy => by
    obtain ⟨z, hz, rfl⟩ := List.mem_map.mp hy
    exact (h.2.1 z hz).2.item⟩
/-! ### clashes, as data -/
/-- the place of a name in a row -/
def place (row : List Str) (d : PyData) : Option Nat := match d with
  | .str x => row.findIdx? (· == x)
  | _ => none
def nmD : PyData → Bool
  | .str x => isNm x
  | _ => false
def ixD (n : Nat) : PyData → Bool
  | .int i => decide (0 ≤ i) && decide (i < n)
  | _ => false
def before (row : List Str) (a b : PyData) : Bool := match place row a, place row b with
  | some i, some j => decide (i < j)
  | _, _ => false
theorem before_str (row : List Str) (x y : Str) : before row (.str x) (.str y) = match row.findIdx? (· == x), row.findIdx? (· == y) with
  | some i, some j => decide (i < j)
  | _, _ => false := rfl
def stepD (rows : List (List Str)) : PyData → Bool
  | .tuple [a, b, .int i] => ixD rows.length (.int i) && before (rows.getD i.toNat []) a b
  | _ => false
def sndD : PyData → PyData
  | .tuple [_, b, _] => b
  | _ => .none
def fstD : PyData → PyData
  | .tuple [a, _, _] => a
  | _ => .none
def strD : PyData → Str
  | .str x => x
  | _ => Str.empty
/-- each step begins where the one ahead of it ends, the first one where the last one ends -/
def ringP (ds : List PyData) (j : Nat) : Bool := decide (strD (sndD (ds.getD (if j = 0 then ds.length - 1 else j - 1) .none)) = strD (fstD (ds.getD j .none)))
def ringD (ds : List PyData) : Bool := (List.range ds.length).all (ringP ds)
def clashD (rows : List (List Str)) : PyData → Bool
  | .tuple ds => decide (2 ≤ ds.length) && ds.all (stepD rows) && ringD ds
  | _ => false
theorem clash_tup (rows : List (List Str)) (ds : List PyData) : clashD rows (.tuple ds) = (decide (2 ≤ ds.length) && ds.all (stepD rows) && ringD ds) := rfl
/-- a step that fits is three values -/
theorem step_form {rows : List (List Str)} {H : Hp} {n : Nat} {v : V} {d : PyData} (h : stepD rows d = true) (t : Td H n v d) : ∃ b x y k, v = .ref b ∧ d = .tuple [.str x, .str y, .int k] ∧ H b = some (.tup [.str x, .str y, .int k]) := by
  cases t with
  | tup e l ts =>
    rename_i m a xs ds
    match ds, h with
    | [d1, d2, .int k], h =>
      cases ts with
      | cons k1 ts => cases ts with
        | cons k2 ts => cases ts with
          | cons k3 ts =>
            cases ts
            have hb : before (rows.getD k.toNat []) d1 d2 = true := (Bool.and_eq_true_iff.mp h).2
            cases k3
            cases k1 with
            | str w1 => cases k2 with
              | str w2 => exact ⟨_, _, _, _, rfl, rfl, e⟩
              | _ => simp [before, place] at hb
            | _ => simp [before, place] at hb
  | _ => cases h
/-- a dict comprehension over what walks -/
theorem dc_it {J : It} {n : Nat} {G : Hp → Prop} {Y : Nat → Hp → V → Hp → Prop} (w : Walk J n G Y) {g : TG} {tt : TT} {tk tv : TE} {vs : List Nat} {σ : St} {H1 : Hp} {D : Addr} {Qd : Hp → Prop} (Pv : Nat → Hp → Prop) (h0 : Pv 0 (upd H1 D (.dK []))) (hG : ∀ i H, i ≤ n → Pv i H → G H)
    (hs : ∀ i x H H', i < n → Pv i H → Y i H x H' → g x (wipe σ vs) H' fun σ2 H2 => wipe σ2 vs = wipe σ vs ∧ tt σ2 H2 fun b H3 =>
      if b = true then tk σ2 H3 fun y H4 => tv σ2 H4 fun z H5 => ∃ kvs k, y = kV k ∧ H5 D = some (.dK kvs) ∧ kvs.length < sizeLine ∧ Pv (i + 1) (upd H5 D (.dK (putK kvs k z))) else Pv (i + 1) H3) (hd : ∀ H, Pv n H → Qd H) :
    ∃ W : Nat → Nat → Hp → Prop, (∃ m, W 0 m (upd H1 D (.dK []))) ∧ ∀ i m H, W i m H →
      (J.stop i H ∧ Qd H) ∨ (J.go i H ∧ ∃ Nx : Hp → Prop, (∀ H', Nx H' → ∃ m', m' < m ∧ W (i + 1) m' H') ∧ ∀ x H', J.yld i H x H' → g x (wipe σ vs) H' fun σ2 H2 => wipe σ2 vs = wipe σ vs ∧ tt σ2 H2 fun b H3 =>
        if b = true then tk σ2 H3 fun y H4 => tv σ2 H4 fun z H5 => ∃ kvs k, y = kV k ∧ H5 D = some (.dK kvs) ∧ kvs.length < sizeLine ∧ Nx (upd H5 D (.dK (putK kvs k z))) else Nx H3) := by
  refine ⟨fun i m H => m + i = n ∧ Pv i H, ⟨n, rfl, h0⟩, fun i m H ⟨em, p⟩ => ?_⟩
  by_cases hlt : i < n
  · exact .inr ⟨w.goes i H hlt (hG i H (Nat.le_of_lt hlt) p), Pv (i + 1), fun H' p' => ⟨m - 1, by omega, by omega, p'⟩, fun x H' y => hs i x H H' hlt p (w.yields i H x H' hlt (hG i H (Nat.le_of_lt hlt) p) y)⟩
  · have e : i = n := by omega
    subst e
    exact .inl ⟨w.stops H (hG _ H (Nat.le_refl _) p), hd H p⟩
end Nb

set_option Elab.async false
set_option maxRecDepth 100000
set_option maxHeartbeats 4000000
namespace Nb
open PySem L2
theorem src_at {H : Hp} {p D : Addr} {o : HO} {b : Nat} (S : Src H p b) (n : p ≠ D) : Src (upd H D o) p b := by
  obtain ⟨c, m, r, e, k⟩ := S
  exact ⟨c, m, r, by rw [upd_ne n]; exact e, k⟩
theorem src_fresh {H : Hp} {p D : Addr} {b : Nat} (S : Src H p b) (h : H D = none) : D ≠ p := fun z => by
  obtain ⟨u, e⟩ := S.some
  rw [← z, h] at e
  cases e
/-- tuple + tuple, whichever of the two is empty -/
theorem cat_tup {K : PySem.W.Frag} {H : Hp} {a b : Addr} {xs ys : List V} {Q : VK} (ha : SqT K H a xs) (hb : H b = some (.tup ys)) (hy : ys ≠ []) (hl : xs.length + ys.length ≤ sizeLine)
    (h : ∀ p H', Same H H' → (∀ c, H c ≠ none → H' c = H c) → H' p = some (.tup (xs ++ ys)) → Q (.ref p) H') : rCatA K (.ref a) (.ref b) H Q := by
  refine ⟨a, b, xs, ys, rfl, rfl, ha, SqT.of hb, hl, fun e => ?_, fun _ e => absurd e hy, fun _ _ p hp => ?_⟩
  · subst e
    exact h b H (Same.refl H) (fun _ _ => rfl) hb
  · exact h p _ (same_new hp) (fun c hc => upd_ne (fun z => hc (z ▸ hp))) upd_same
theorem cut_mem {xs : List V} {lo hi : Option Int} {y : V} (h : y ∈ cutV xs lo hi) : y ∈ xs := List.mem_of_mem_drop (List.mem_of_mem_take h)
theorem map_item {K : PySem.W.Frag} {H : Hp} {ys : List Str} (h : ∀ z ∈ ys, Word z) : ∀ y ∈ ys.map V.str, Item K H y := fun y hy => by
  obtain ⟨z, hz, rfl⟩ := List.mem_map.mp hy
  exact (h z hz).item
/-- the law's promise -/
def spLaw (K : PySem.W.Frag) : Sp := fun vs H Q _ => ∃ (a : Addr) (ns : List Int), vs = [.ref a] ∧ SqL K H a (ns.map V.int) ∧ ns.length ≤ 63 ∧ ∀ H', Q (.bl true) H'
end Nb

set_option Elab.async false
set_option maxRecDepth 100000
set_option maxHeartbeats 4000000
/-! Data in the heap, cut and added; data beside the source of numbers; methods, as data. -/
namespace Nb
open PySem L2
theorem noPart {σ : St} {H : Hp} {Q : Option Int → Hp → Prop} (h : Q none H) : tNoPart σ H Q := h
theorem cut_whole {xs : List V} {lo hi : Option Int} (h : HT.sIx xs.length 0 lo = 0 ∧ HT.sIx xs.length xs.length hi = xs.length) : cutV xs lo hi = xs := by
  unfold cutV
  rw [h.1, h.2]
  simp
theorem cutS_tup {K : PySem.W.Frag} {H : Hp} {a : Addr} {xs : List V} {lo hi : Option Int} {Q : VK} (ha : SqT K H a xs) (h : ∀ p H', Same H H' → SqT K H' p (cutV xs lo hi) → Q (.ref p) H') : rSlA K (.ref a) lo hi H Q :=
  ⟨a, xs, rfl, ha, fun w => h a H (Same.refl H) (by rw [cut_whole w]; exact ha), fun _ p hp => h p _ (same_new hp) (SqT.of upd_same)⟩
theorem cutT_tup {K : PySem.W.Frag} {H : Hp} {a : Addr} {xs : List V} {lo hi : Option Int} {Q : VK} (ha : H a = some (.tup xs)) (h : ∀ p H', Same H H' → H' p = some (.tup (cutV xs lo hi)) → Q (.ref p) H') : rSlA K (.ref a) lo hi H Q :=
  ⟨a, xs, rfl, SqT.of ha, fun w => h a H (Same.refl H) (by rw [cut_whole w]; exact ha), fun _ p hp => h p _ (same_new hp) upd_same⟩
theorem catT_tup {K : PySem.W.Frag} {H : Hp} {a b : Addr} {xs ys : List V} {Q : VK} (ha : H a = some (.tup xs)) (hb : H b = some (.tup ys)) (hl : xs.length + ys.length ≤ 2000) (h : ∀ p H', Same H H' → H' p = some (.tup (xs ++ ys)) → Q (.ref p) H') : rCatA K (.ref a) (.ref b) H Q := by
  refine ⟨a, b, xs, ys, rfl, rfl, SqT.of ha, SqT.of hb, Nat.le_trans hl (by decide), fun e => ?_, fun _ e => ?_, fun _ _ p hp => h p _ (same_new hp) upd_same⟩
  · subst e
    exact h b H (Same.refl H) hb
  · subst e
    exact h a H (Same.refl H) (by rw [List.append_nil]; exact ha)
/-- all steps of the rows, as a new list -/
def Tq (H : Hp) (n : Nat) (v : V) : Prop := ∃ d, Td H n v d
theorem tq_same {H H' : Hp} (s : Same H H') {n : Nat} {v : V} (h : Tq H n v) : Tq H' n v := let ⟨d, k⟩ := h; ⟨d, td_same s k⟩
theorem tq_up {H : Hp} {n : Nat} {v : V} (h : Tq H n v) : Tq H (n + 1) v := let ⟨d, k⟩ := h; ⟨d, td_up k⟩
theorem tq_le {H : Hp} {v : V} {n : Nat} (h : Tq H n v) : ∀ k, Tq H (n + k) v
  | 0 => h
  | k + 1 => tq_up (tq_le h k)
theorem tq_tup {H : Hp} {n : Nat} {a : Addr} {xs : List V} (e : H a = some (.tup xs)) (l : xs.length ≤ 1000) (h : ∀ v ∈ xs, Tq H n v) : Tq H (n + 1) (.ref a) := let ⟨_, k⟩ := tds_ex h; ⟨_, .tup e l k⟩
theorem tq_lst {H : Hp} {n : Nat} {a : Addr} {xs : List V} (e : H a = some (.lst xs)) (l : xs.length ≤ 1000) (h : ∀ v ∈ xs, Tq H n v) : Tq H (n + 1) (.ref a) := let ⟨_, k⟩ := tds_ex h; ⟨_, .lst e l k⟩
theorem cut_sub (xs : List V) (lo hi : Option Int) : (cutV xs lo hi).Sublist xs := by
  unfold cutV
  exact (List.take_sublist _ _).trans (List.drop_sublist _ _)
theorem upd_of {H : Hp} {a : Addr} {o : HO} (h : H a = none) : (upd H a o) a = some o := upd_same
theorem eqv_nilT (ds : List PyData) : PyData.eqv (.tuple ds) (.tuple []) = ds.isEmpty := by
  cases ds <;> simp [PyData.eqv, PyData.eqvAll]
theorem del_tup {H : Hp} {p a : Addr} {b : Nat} {xs : List V} (S : Src H p b) (e : H a = some (.tup xs)) : del H p a = some (.tup xs) := by
  rw [del_ne (src_ne S e (fun xs z => by cases z))]
  exact e
theorem del_lstS {H : Hp} {p a : Addr} {b : Nat} {x : Str} {xs : List V} (S : Src H p b) (e : H a = some (.lst (.str x :: xs))) : del H p a = some (.lst (.str x :: xs)) := by
  have n : a ≠ p := fun z => by
    obtain ⟨c, m, r, e2, _⟩ := S
    rw [z, e2] at e
    cases e
  rw [del_ne n]
  exact e
theorem del_up {H H' : Hp} {p : Addr} (s : Same H H') : Same (del H p) (del H' p) := same_del (del_same.trans s) del_at
section
variable {H : Hp} {n : Nat} {a : Addr} {u v w x : V}
theorem tqS {z : Str} (h : Word z) : Tq H n (.str z) := ⟨_, .str h⟩
theorem tqI (i : Int) : Tq H n (.int i) := ⟨_, .int i⟩
theorem tqN : Tq H n .non := ⟨_, .non⟩
theorem tqB (b : Bool) : Tq H n (.bl b) := ⟨_, .bl b⟩
theorem tq0 (e : H a = some (.tup [])) : Tq H (n + 1) (.ref a) := ⟨_, .tup e (by decide) .nil⟩
theorem tq2 (e : H a = some (.tup [u, v])) (h1 : Tq H n u) (h2 : Tq H n v) : Tq H (n + 1) (.ref a) := let ⟨_, k1⟩ := h1; let ⟨_, k2⟩ := h2; ⟨_, .tup e (by show 2 ≤ 1000; decide) (.cons k1 (.cons k2 .nil))⟩
theorem tq3 (e : H a = some (.tup [u, v, w])) (h1 : Tq H n u) (h2 : Tq H n v) (h3 : Tq H n w) : Tq H (n + 1) (.ref a) := let ⟨_, k1⟩ := h1; let ⟨_, k2⟩ := h2; let ⟨_, k3⟩ := h3; ⟨_, .tup e (by show 3 ≤ 1000; decide) (.cons k1 (.cons k2 (.cons k3 .nil)))⟩
theorem tq4 (e : H a = some (.tup [u, v, w, x])) (h1 : Tq H n u) (h2 : Tq H n v) (h3 : Tq H n w) (h4 : Tq H n x) : Tq H (n + 1) (.ref a) := let ⟨_, k1⟩ := h1; let ⟨_, k2⟩ := h2; let ⟨_, k3⟩ := h3; let ⟨_, k4⟩ := h4; ⟨_, .tup e (by show 4 ≤ 1000; decide) (.cons k1 (.cons k2 (.cons k3 (.cons k4 .nil))))⟩
theorem tl1 (e : H a = some (.lst [u])) (h1 : Tq H n u) : Tq H (n + 1) (.ref a) := let ⟨_, k1⟩ := h1; ⟨_, .lst e (by show 1 ≤ 1000; decide) (.cons k1 .nil)⟩
theorem tl3 (e : H a = some (.lst [u, v, w])) (h1 : Tq H n u) (h2 : Tq H n v) (h3 : Tq H n w) : Tq H (n + 1) (.ref a) := let ⟨_, k1⟩ := h1; let ⟨_, k2⟩ := h2; let ⟨_, k3⟩ := h3; ⟨_, .lst e (by show 3 ≤ 1000; decide) (.cons k1 (.cons k2 (.cons k3 .nil)))⟩
end
theorem td_mono {H : Hp} {n : Nat} {x : V} {d : PyData} (h : Td H n x d) : ∀ k, Td H (n + k) x d
  | 0 => h
  | k + 1 => td_up (td_mono h k)
theorem tds_items {K : PySem.W.Frag} {H : Hp} : ∀ {n : Nat} {xs : List V} {ds : List PyData}, n ≤ 8 → Tds H n xs ds → ∀ y ∈ xs, Item K H y
  | _, _, _, _, .nil, _, hy => by cases hy
  | n, _, _, l, .cons h t, y, hy => by
    rcases List.mem_cons.mp hy with rfl | hy
    · have k := td_dp (K := K) h
      exact ⟨td_known h, _, k.1, k.2.1, Nat.le_trans k.2.2 l⟩
    · exact tds_items l t y hy
theorem td_thing {K : PySem.W.Frag} {H : Hp} {n : Nat} {x : V} {d : PyData} (l : n ≤ 8) (h : Td H n x d) : Thing K H x := by
  cases h with
  | non => exact thing_flat (fun a e => by cases e) (.base .non) (by decide +kernel)
  | bl b => exact thing_flat (fun a e => by cases e) (.base (.bl b)) (by decide +kernel)
  | int i => exact thing_flat (fun a e => by cases e) (.base (.int i)) (by decide +kernel)
  | str h => exact thing_str _
  | lst e _ _ => exact thing_lst e
  | tup e le ts => exact .inl ⟨_, _, rfl, .inl e, le, tds_items (by omega) ts⟩
/-! methods -/
def strsD (ds : List PyData) : List Str := ds.filterMap fun | .str z => some z | _ => none
def rowD : PyData → Bool
  | .tuple ds => ds.all nmD && decide (((seen (strsD ds)).length : Int) = ds.length) && decide ((ds.length : Int) ≤ 4)
  | _ => false
def wordsD : PyData → Bool
  | .tuple ds => ds.all nmD && decide ((ds.length : Int) ≤ 4)
  | _ => false
def nilD : PyData → Bool
  | .tuple [] => true
  | _ => false
def methD : PyData → Bool
  | .tuple [t, b, .none, a] => rowD t && wordsD b && wordsD a && nilD a
  | .tuple [t, b, p, a] => rowD t && wordsD b && wordsD a && rowD p
  | _ => false
theorem td_nm {H : Hp} {n : Nat} {x : V} {d : PyData} (h : Td H n x d) : nameV x = nmD d := by
  cases h <;> rfl
theorem tds_nms {H : Hp} : ∀ {n : Nat} {xs : List V} {ds : List PyData}, Tds H n xs ds → xs.all nameV = ds.all nmD ∧ strsOf xs = strsD ds
  | _, _, _, .nil => ⟨rfl, rfl⟩
  | _, _, _, .cons (x := x) (d := d) h t => by
    obtain ⟨i1, i2⟩ := tds_nms t
    refine ⟨by rw [List.all_cons, List.all_cons, i1, td_nm h], ?_⟩
    cases h <;> simp [strsOf, strsD] at i2 ⊢ <;> exact i2
theorem tupOf_lst {H : Hp} {a : Addr} {xs : List V} (h : H a = some (.lst xs)) : tupOf H (.ref a) = none := by
  show (match H a with | some (.tup xs) => some xs | some (.frz _ (.tup xs)) => some xs | _ => none) = none
  rw [h]
def namesD : PyData → Bool
  | .tuple ds => ds.all nmD
  | _ => false
theorem td_row {H : Hp} {n : Nat} {x : V} {d : PyData} (h : Td H n x d) : rowV H x = rowD d := by
  cases h with
  | tup e l ts =>
    unfold rowV
    rw [tupOf_at (.inl e)]
    obtain ⟨i1, i2⟩ := tds_nms ts
    show (diffV _ && _) = _
    unfold diffV
    rw [i1, i2, tds_len ts]
    rfl
  | lst e l ts =>
    unfold rowV
    rw [tupOf_lst e]
    rfl
  | _ => rfl
theorem td_names {H : Hp} {n : Nat} {x : V} {d : PyData} (h : Td H n x d) : namesV H x = namesD d := by
  cases h with
  | tup e l ts =>
    unfold namesV
    rw [tupOf_at (.inl e)]
    exact (tds_nms ts).1
  | lst e l ts =>
    unfold namesV
    rw [tupOf_lst e]
    rfl
  | _ => rfl
end Nb

set_option Elab.async false
set_option maxRecDepth 100000
set_option maxHeartbeats 4000000
/-! t[::-1], t a tuple; tuples cut and added, whichever object comes back. -/
namespace Nb
open PySem PySem.Spec PyProof.Rows L2 HT
section
variable {prog : Program} {w : World} {A : Around} {E : Value → Shared → Prop} {s : Shared}
theorem applied_back {sl : Addr} {vl vu vs : Value} {n : Nat} {Q : Int × Int × Nat → Shared → Prop} (hs : s.heap.IsSliceOf sl vl vu vs) (pl : IsPart vl none) (pu : IsPart vu none) (ps : IsPart vs (some (-1)))
    (h : Q ((n : Int) - 1, -1, n) s) : wpAny (model prog w) A (Builtin.Slice.sliceApplied (.ref sl) (pure (n : Int))) Q E s := by
  obtain ⟨os, hos, hcs, hds⟩ := id hs
  unfold Builtin.Slice.sliceApplied Builtin.Slice.sliceFields
  refine wpAny_bind (wpAny_bind (wpAny_field hos hds (x := vl) rfl (wpAny_bind (wpAny_field hos hds (x := vu) rfl (wpAny_bind (wpAny_field hos hds (x := vs) rfl (wpAny_pure ?_)))))))
  refine wpAny_bind (slicePart_ ps ?_)
  show wpAny _ _ (if ((-1 : Int) == 0) = true then _ else _) _ _ s
  rw [if_neg (by decide)]
  refine wpAny_bind (slicePart_ pl (wpAny_bind (slicePart_ pu (wpAny_bind (wpAny_pure ?_)))))
  have e1 : Builtin.Slice.sliceAdjust none none (-1) (n : Int) = ((n : Int) - 1, -1) := by
    unfold Builtin.Slice.sliceAdjust
    simp
  have e2 : Builtin.Slice.slicePlaces ((n : Int) - 1) (-1) (-1) = n := by
    unfold Builtin.Slice.slicePlaces
    simp
    omega
  show wpAny _ _ (match Builtin.Slice.sliceAdjust none none (-1) (n : Int) with | (lo, hi) => pure (lo, (-1 : Int), Builtin.Slice.slicePlaces lo hi (-1))) _ _ s
  rw [e1]
  show wpAny _ _ (pure ((n : Int) - 1, (-1 : Int), Builtin.Slice.slicePlaces ((n : Int) - 1) (-1) (-1))) _ _ s
  rw [e2]
  exact wpAny_pure h
theorem pick_back (xs : Array Value) : ((List.range xs.size).filterMap fun (m : Nat) => xs[((xs.size : Int) - 1 + (m : Int) * -1).toNat]?).toArray = xs.toList.reverse.toArray := by
  congr 1
  apply List.ext_getElem?
  intro i
  have e : ∀ k, k ≤ xs.size → (List.range k).filterMap (fun (m : Nat) => xs[((xs.size : Int) - 1 + (m : Int) * -1).toNat]?) = (xs.toList.reverse).take k := by
    intro k
    induction k with
    | zero => intro _; rfl
    | succ k ih =>
      intro hk
      have hlt : xs.size - 1 - k < xs.size := by omega
      have ix : ((xs.size : Int) - 1 + (k : Int) * -1).toNat = xs.size - 1 - k := by omega
      rw [List.range_succ, List.filterMap_append, ih (by omega), List.take_add_one]
      congr 1
      simp only [List.filterMap_cons, List.filterMap_nil, ix]
      rw [Array.getElem?_eq_getElem hlt, List.getElem?_reverse (by simp; omega)]
      simp [hlt]
  rw [e xs.size (Nat.le_refl _), List.take_of_length_le (by simp)]
theorem getItem_back {t sl : Addr} {items : Array Value} {vl vu vs : Value} {Q : Value → Shared → Prop} (ht : IsTup s.heap t items) (hs : s.heap.IsSliceOf sl vl vu vs) (pl : IsPart vl none) (pu : IsPart vu none) (ps : IsPart vs (some (-1)))
    (h : Q (.ref s.heap.objs.size) { s with heap := s.heap.push { cls := .type "tuple", data := .seq items.toList.reverse.toArray } }) (hsz : items.size ≤ sizeLine) : wpAny (model prog w) A (getItem (.ref t) (.ref sl)) Q E s := by
  have fits : sizeOk (.seq items.toList.reverse.toArray) := by
    show items.toList.reverse.toArray.size ≤ sizeLine
    rw [List.size_toArray, List.length_reverse, Array.length_toList]
    exact hsz
  obtain ⟨os, hos, hcs, hds⟩ := id hs
  unfold getItem
  try with_reducible refine wpAny_holding ?_
  first | refine wpAny_bind (wpAny_pure ?_) | skip
  refine wpAny_bind (wpAny_sequenceKey ht.typeIs (by decide) ?_)
  refine wpAny_bind (wpAny_callSpecial?_slot (name := Str.ofString "__getitem__") ht.typeIs PyProof.Rows.slot_tuple_getitem (wpAny_call_entry PyProof.Rows.slot_tuple_getitem ht.typeIs entry_tuple_getitem ?_ (args_tuple_getitem _ _)))
  show wpAny _ _ (Builtin.Tuple.tupleItemsOf (.ref t) >>= _) _ _ s
  refine wpAny_bind (tupleItemsOf_ ht (wpAny_bind (wpAny_typeOf ⟨os, hos, hcs⟩ ?_)))
  rw [if_pos (by decide)]
  refine wpAny_bind (applied_back hs pl pu ps ?_)
  have no : ¬ ((((items.size : Int) - 1) == 0 && (-1 : Int) == 1 && items.size == items.size) = true) := by
    intro q
    rw [Bool.and_eq_true, Bool.and_eq_true] at q
    exact absurd q.1.2 (by decide)
  show wpAny _ _ (if (((items.size : Int) - 1) == 0 && (-1 : Int) == 1 && items.size == items.size) = true then _ else _) _ _ s
  rw [if_neg no, pick_back]
  first
    | exact wpAny_bind (m := Builtin.Tuple.tupleExact _) (wpAny_newObj_type (wpAny_pure ⟨_, rfl, wpAny_pure h⟩) fits)
    | exact wpAny_bind (m := Builtin.Tuple.tupleExact _) (wpAny_newObj_type (wpAny_bind (wpAny_pure (wpAny_pure ⟨_, rfl, wpAny_pure h⟩))) fits)
    | exact wpAny_bind (wpAny_bind (m := Builtin.Tuple.tupleExact _) (wpAny_newObj_type (wpAny_pure (wpAny_pure ⟨_, rfl, wpAny_pure h⟩)) fits))
    | exact wpAny_bind (wpAny_bind (m := Builtin.Tuple.tupleExact _) (wpAny_newObj_type (wpAny_pure ⟨_, rfl, wpAny_pure h⟩) fits))
end
def tRevT (K : PySem.W.Frag) (te : TE) : TE := fun σ H Q => te σ H fun x H1 => ∃ a xs, x = .ref a ∧ SqT K H1 a xs ∧ ∀ p, H1 p = none → Q (.ref p) (upd H1 p (.tup xs.reverse))
theorem pe_revT {X : Cx} {e : Expr} {te : TE} {k : Nat} {p1 p2 p3 pos : Pos} (he : PE X e te) : PE X (.Subscript e (.Slice none none (some (.UnaryOp .USub (.Constant (.int 1) k p1) p2)) p3) pos) (tRevT X.K te) := by
  refine ⟨fun pins s σ H Q I h => Subscript_ (thn (he.run pins s σ H _ I h) fun v s1 ⟨x, H1, I1, r1, q1⟩ => ?_)⟩
  obtain ⟨a, xs, rfl, hx, q⟩ := q1
  cases r1
  have back : PO X (some (.UnaryOp .USub (.Constant (.int 1) k p1) p2)) (tPart (tUn (rU fun i => .int (-i)) (tC (.int 1)))) := po_some (pe_un un_neg pe_int)
  refine wpAny_Slice (thn (po_none.run pins s1 σ H1 (fun o H2 => o = none ∧ H2 = H1) I1 ⟨rfl, rfl⟩) fun vl s2 ⟨l, H2, I2, pl, el, e2⟩ => ?_)
  subst el e2
  refine thn (po_none.run pins s2 σ H2 (fun o H3 => o = none ∧ H3 = H2) I2 ⟨rfl, rfl⟩) fun vu s3 ⟨u, H3, I3, pu, eu, e3⟩ => ?_
  subst eu e3
  refine thn (back.run pins s3 σ H3 (fun o H4 => o = some (-1) ∧ H4 = H3) I3 ⟨1, rfl, -1, rfl, rfl, rfl⟩) fun vs s4 ⟨o, H4, I4, ps, eo, e4⟩ => ?_
  subst eo e4
  have I5 : Inv X pins σ H4 { s4 with heap := s4.heap.push { cls := .type "slice", data := .fields #[vl, vu, vs] } } := I4.kept (t' := s4.toks) fun b ob q => Heap.get?_push_of_some _ q
  obtain ⟨its, r, ht, hz⟩ := I5.tuple hx
  have hlen := r.length
  show wpAny (model X.prog X.w) X.A (subscriptTail e (.Slice none none (some (.UnaryOp .USub (.Constant (.int 1) k p1) p2)) p3) (.ref a) (.ref s4.heap.objs.size)) (EP X pins σ Q) X.xe { s4 with heap := s4.heap.push { cls := .type "slice", data := .fields #[vl, vu, vs] } }
  refine tail_any (ops := [.ref a, .ref s4.heap.objs.size]) ht.typeIs (PyProof.Rows.slot_tuple_getitem.lookup) ?_ (by with_unfolding_all rfl)
  refine getItem_back ht (Heap.IsSliceOf.new _ vl vu vs) pl pu ps ?_ (by rw [List.size_toArray]; omega)
  refine ⟨.ref _, _, I5.laid (t' := s4.toks) (o := .tup xs.reverse) (fun b ob q => Heap.get?_push_of_some _ q) (Nat.le_refl _) ?_, rfl, q _ (I5.hok.fresh (Nat.le_refl _))⟩
  exact ⟨by rw [List.length_reverse]; exact hz, its.reverse, r.reverse, ⟨_, Heap.get?_push_size _ rfl, rfl, 0, by simp⟩⟩
end Nb

set_option Elab.async false
set_option maxRecDepth 100000
set_option maxHeartbeats 4000000
/-! A tuple that tuple(..) makes, known to its object; t.index of such. -/
namespace Nb
open PySem PySem.Spec PyProof.Rows L2
/-- a tuple as it is made: no dict -/
def TupObj (o : Obj) : Prop := o.cls = .type "tuple" ∧ o.dict = none
theorem cr_tupleF {X : Cx} : CallR X (.type "tuple") (fun xs H Q => ∃ p ys, xs = [.ref p] ∧ SqL X.K H p ys ∧ ∀ l o, H l = none → TupObj o → Q (.ref l) (upd H l (.frz o (.tup ys)))) := by
  intro pins s σ H xs us Q I r h
  obtain ⟨p, ys, rfl, hq, q⟩ := h
  obtain ⟨u, rfl, rx⟩ := vals1 r
  cases rx
  obtain ⟨its, r', pl, hz⟩ := I.list hq
  have len := r'.length
  refine call_tuple_list pl.isList (fun h' kp => ?_) (by simp only [List.size_toArray]; omega)
  have I1 : Inv X pins σ H { s with heap := h' } := I.kept (t' := s.toks) kp
  have made : (h'.push { cls := .type "tuple", data := .seq its.toArray }).get? h'.objs.size = some { cls := .type "tuple", data := .seq its.toArray } := Heap.get?_push_size _ rfl
  have I2 : Inv X pins σ (upd H h'.objs.size (.frz { cls := .type "tuple", data := .seq its.toArray } (.tup ys))) { s with heap := h'.push { cls := .type "tuple", data := .seq its.toArray } } :=
    I1.laid (t' := s.toks) (fun b o e => Heap.get?_push_of_some _ e) (Nat.le_refl _) ⟨made, hz, its, r', IsTup.new _ _⟩
  exact ⟨.ref h'.objs.size, _, I2, rfl, q _ _ (I1.hok.fresh (Nat.le_refl _)) ⟨rfl, rfl⟩⟩
/-- t.index(e), t such a tuple of texts -/
def tTupIx (to : TE) (t : TA) : TE := fun σ H Q => to σ H fun x H1 => ∃ (p : Addr) (o : Obj) (ys : List Str), x = .ref p ∧ H1 p = some (.frz o (.tup (ys.map V.str))) ∧ TupObj o ∧ t σ H1 fun vs H2 =>
  ∃ (z : Str) (j : Nat), vs = [.str z] ∧ H2 p = some (.frz o (.tup (ys.map V.str))) ∧ ys[j]? = some z ∧ (∀ m, m < j → ys[m]? ≠ some z) ∧ Q (.int (j : Nat)) H2
theorem pe_tupIx {X : Cx} {o e : Expr} {to : TE} {t : TA} {apos cpos : Pos} (ho : PE X o to) (ha : PA X (e :: []) t)
    (hbase : attributeBase o "index" X.env (eval o X.env) = eval o X.env := by rfl)
    (hfew : ((backTo cpos (starEach (e :: []) X.env)).all (fun x => !x.1) && (backToKw cpos (keywordEach [] X.env)).all (fun x => x.1.isSome)
      && decide ((e :: ([] : List Expr)).length + ([] : List Keyword).length + (if ([] : List Keyword).isEmpty then 0 else 1) < 30)) = true := by rfl)
    (hline : (apos.endLine == cpos.line) = true := by rfl) (hs : starEach (e :: []) X.env = (false, eval e X.env) :: starEach [] X.env := by rfl) (hplain : (backTo cpos (starEach [] X.env)).any (·.1) = false := by rfl) :
    PE X (.Call (.Attribute o "index" apos) (e :: []) [] cpos) (tTupIx to t) := by
  refine ⟨fun pins s σ H Q I h => ?_⟩
  refine wpAny_Call_method_late hbase hfew hline rfl (thn (ho.run pins s σ H _ I h) fun v s1 ⟨x, H1, I1, r1, p, ob, ys, ex, ep, to', q1⟩ => ?_)
  subst ex
  cases r1
  obtain ⟨hget, _⟩ := (show ObjOk X.prog X.w H1 s1.heap p (.frz ob (.tup (ys.map V.str))) from I1.hok p _ ep)
  refine ⟨"tuple", "tuple.index", PySem.F.plainAttrs_tuple, PySem.F.slot_tuple_index, PySem.F.type_tuple_index, ⟨ob, hget, to'.1⟩, fun a e2 => by
    cases e2
    exact ⟨ob, hget, to'.2⟩, ?_⟩
  have hA := ha.run cpos pins s1 σ H1 _ I1 q1
  rw [hs] at hA ⊢
  refine Calls.callWith_builtin (by show (false || (backTo cpos (starEach [] X.env)).any (·.1)) = false; rw [hplain]; rfl) (Calls.evalArgs_plain ?_)
  exact thn hA fun us s2 ⟨vs, H2, I2, r2, z, j, ev, ep2, hy, hno, q⟩ => mt_tup_index pins s2 σ H2 (.ref p) vs (.ref p) us Q I2 rfl r2 ⟨p, ys, z, j, rfl, ev, .inl (.inr ⟨ob, ep2⟩), hy, hno, q⟩
end Nb

set_option Elab.async false
set_option maxRecDepth 100000
set_option maxHeartbeats 4000000
/-! A law whose own body asks for repr of nested data: its def is run where no repr is under way. -/
namespace Nb
open PySem PySem.Spec L2
/-- what the def promises, where no repr is under way -/
def RunsG (P : Program) (w : World) (K : PySem.W.Frag) (mg : Str → Option Value) (base : Heap) (CX : CXT) (k : Nat) (f : Addr) (fd : FuncData) (ps : List Str) (sp : Sp) : Prop :=
  ∀ (A : Around) (outer : List Env) (s : Shared) (H : Hp) (args : Args) (us : List Value) (vs : List V) (Q : VK) (E : XK), A.guards = some [] → Room k A → Env0 P w K mg base A outer s H → BindsTo s fd args (ps.zip us) → Vals vs us → sp vs H Q E →
    codeAny (model P w) A (.call (.ref f) args) (CR CX outer P w H s Q E) s
section
variable {P : Program} {w : World} {K : PySem.W.Frag} {mg : Str → Option Value} {base : Heap}
theorem okG {x qual : Str} {st : Stmt} {f : Addr} {fd : FuncData} {N ps : List Str} {k : Nat} {sp : Sp} (F : Fun K x qual st f fd) (S : FnScope N ps (defScope st)) (len : ∀ vs H Q E, sp vs H Q E → vs.length = ps.length)
    (bd : ∀ (cdv : Value) (A : Around) (outer : List Env) (s : Shared) (H : Hp) (vs : List V) (Q : VK) (E : XK), A.guards = some [] → Room k (A.deeper (PyProof.Rows.envOfC qual (defScope st) s.heap.objs.size f cdv)) → sp vs H Q E →
      ∃ t, PSs (cxOf CX0 P w K mg base N qual (defScope st) f cdv A outer s H E).nox (defBody st) t ∧ t { nx := fun _ H' => Q .non H', rt := Q } (start N vs) H) : RunsG P w K mg base CX0 (k + 1) f fd ps sp := by
  obtain ⟨oc, od, kV, doc, pm, an, cdv, ct, osl, rfl, lk, hcd⟩ := F.ex
  intro A outer s H args us vs Q E gd hr e0 hb rv hs
  have inK : K.In s.heap := e0.mod.kin.keeps fun b o e => (e0.bs b o e).1
  have nl : s.heap.NoLimit := e0.mod.nolimit.keeps fun b o e => (e0.bs b o e).1
  have kinds : ∀ y ∈ ps.zip us, (defScope st).names.lookup y.1 = some .local ∨ ((defScope st).names.lookup y.1 = some .cell ∧ ((PySem.cellsFrom (s.heap.objs.size + 1) (defScope st).names []).lookup y.1).isSome = true) := by
    rintro ⟨n, v⟩ hy
    exact (S.par n (List.of_mem_zip hy).1).imp id fun q => ⟨q, PySem.W.cellsFrom_some _ _ _ (.inl q)⟩
  refine codeAny_call_function hr.depth (inK _ _ lk) rfl S.co S.gen rfl (PySem.W.codeRec_of inK hcd) (hb _ _ _ _ ?_)
  refine wpAny_newFunctionEnv_cells S.kind kinds fun env he s1 x1 => ?_
  subst he
  obtain ⟨t, ht, q⟩ := bd cdv A outer s H vs Q E gd (hr.deeper _) hs
  have I : Inv (cxOf CX0 P w K mg base N qual (defScope st) f cdv A outer s H E) [] (start N vs) H s1 := inv_start S hr.hd e0 (len _ _ _ _ hs) rv x1
  refine ⟨nl.keeps x1.toInCall.keep, codeAny_func (wpAny_mono (ht.nox.run [] s1 (start N vs) H _ I q) (fun fl s2 r => ?_) fun _ _ r => r)⟩
  cases fl with
  | ret u =>
    obtain ⟨v, σ, H2, J, e, r⟩ := r
    exact ⟨v, H2, J.os, J.bare, J.base, J.hok, e, r⟩
  | next =>
    obtain ⟨σ, H2, J, r⟩ := r
    exact ⟨.non, H2, J.os, J.bare, J.base, J.hok, rfl, r⟩
  | brk => exact False.elim r.choose_spec.choose_spec.2
  | cont => exact False.elim r.choose_spec.choose_spec.2
end
open PyProof.Rows (IntsAre AllBare)
/-- the heap at the law's call: nothing is told but the script, if it is no object of the module -/
theorem script_heap {P : Program} {w : World} {K : PySem.W.Frag} {h : Heap} {a : Addr} {vs : List Value} {ns : List Int} (inK : K.In h) (ea : h.get? a = some { cls := .type "list", data := .seq vs.toArray }) (hi : IntsAre vs ns) (hl : ns.length ≤ sizeLine) :
    ∃ H : Hp, Only H ∧ SqL K H a (ns.map V.int) ∧ HOk P w H h ∧ ∀ b, H b ≠ none → b = a ∧ K.lookup b = none := by
  have rv := vals_ints hi
  cases hk : K.lookup a with
  | none =>
    obtain ⟨H, eH⟩ : ∃ H : Hp, H = upd (fun _ => none) a (.frz { cls := .type "list", data := .seq vs.toArray } (.lst (ns.map V.int))) := ⟨_, rfl⟩
    have at_a : H a = some (.frz { cls := .type "list", data := .seq vs.toArray } (.lst (ns.map V.int))) := by
      rw [eH]
      exact upd_same
    have off : ∀ b, b ≠ a → H b = none := fun b hb => by
      rw [eH, upd_ne hb]
    refine ⟨H, fun b => ?_, .inl (.inr ⟨_, at_a⟩), fun b o e => ?_, fun b e => ?_⟩
    · by_cases hb : b = a
      · exact .inr ⟨_, _, hb ▸ at_a⟩
      · exact .inl (off b hb)
    · by_cases hb : b = a
      · subst hb
        rw [at_a] at e
        cases e
        exact ⟨ea, by rw [List.length_map]; exact hl, vs, _, rv, ea⟩
      · rw [off b hb] at e
        cases e
    · by_cases hb : b = a
      · exact ⟨hb, hb ▸ hk⟩
      · exact absurd (off b hb) e
  | some o =>
    have e := inK a o hk
    rw [ea] at e
    cases e
    exact ⟨fun _ => none, fun _ => .inl rfl, .inr ⟨_, vs.toArray, _, hk, rfl, rfl, rfl, by rw [List.size_toArray, hi.length]; exact hl, by simpa using rv⟩, fun b u z => (nomatch (show (none : Option HO) = some u from z)), fun b z => absurd rfl z⟩
theorem law_runs {P : Program} {w : World} {K : PySem.W.Frag} {mg mb : Str → Option Value} {CX : CXT} {k : Nat} {fa a : Addr} {fd : FuncData} {x : Str} {sp : Sp} {s1 : Shared} {vs : List Value} {ns : List Int}
    (inK : K.In s1.heap) (n1 : s1.heap.Ns mainGlobals mg) (n2 : s1.heap.Ns builtinsNs mb) (n3 : ∀ x : Str, x ≠ "__name__" → mb x = bootBuiltins x) (n4 : s1.heap.NoLimit) (hg : s1.gens = #[])
    (ea : s1.heap.get? a = some { cls := .type "list", data := .seq vs.toArray }) (hi : IntsAre vs ns) (hl : ns.length ≤ sizeLine) (hr : Room k callerA)
    (F : ∀ base : Heap, K.In base → base.Ns mainGlobals mg → RunsG P w K mg base CX k fa fd [x] sp) (bd : ∀ (s : Shared) (u : Value), BindsTo s fd ⟨[u], []⟩ [(x, u)])
    (hs : ∀ H : Hp, Only H → SqL K H a (ns.map V.int) → sp [.ref a] H (fun v _ => v = .bl true) fun _ _ _ => False) (hx : ∀ H e s', CX [] H s1 (fun _ _ _ => False) e s' → False) :
    codeAny (model P w) callerA (.call (.ref fa) ⟨[.ref a], []⟩) (fun r s' => r = .ok (.ret (.bool true)) ∧ OldK s1.heap s'.heap ∧ s'.os = s1.os ∧ AllBare s'.gens) s1 := by
  obtain ⟨H, hO, hS, hok, hA⟩ := script_heap (P := P) (w := w) inK ea hi hl
  have notDict : ∀ {b : Addr} {o : Obj} {es : Array DictEntry} {ep : Nat}, s1.heap.get? b = some o → o.data = .dict es ep → H b = none := fun {b o es ep} e d => by
    cases q : H b with
    | none => rfl
    | some u =>
      obtain ⟨rfl, _⟩ := hA b (by rw [q]; exact fun z => nomatch z)
      rw [ea] at e
      cases e
      cases (show Data.seq vs.toArray _ = Data.dict es ep from d)
  have names : ∀ {b : Addr} {m : Str → Option Value}, s1.heap.Ns b m → (hidT s1.heap H).Ns b m := fun ⟨o, es, ep, e, d, r⟩ => ⟨o, es, ep, hidT_get e (notDict e d), d, r⟩
  have inB : K.In (hidT s1.heap H) := fun b o e => hidT_get (inK b o e) (by
    cases q : H b with
    | none => rfl
    | some u =>
      have z := (hA b (by rw [q]; exact fun z => nomatch z)).2
      rw [z] at e
      cases e)
  obtain ⟨mc, c1, c2⟩ := n4
  have e0 : Env0 P w K mg (hidT s1.heap H) callerA [] s1 H := ⟨rfl, ⟨inB, names n1, ⟨mb, names n2, n3⟩, ⟨mc, names c1, c2⟩⟩, fun b o e => of_hidT e, Nat.le_of_eq (hidT_size _ _), trivial, fun b hb => (nomatch hb), hok, .of_eq hg⟩
  refine codeAny_mono (F _ inB (names n1) callerA [] s1 H ⟨[.ref a], []⟩ [.ref a] [.ref a] _ _ rfl hr e0 (bd s1 (.ref a)) (.cons rfl .nil) (hs H hO hS)) fun r s2 q => ?_
  cases r with
  | error e => exact (hx H e s2 q).elim
  | ok fl =>
    cases fl with
    | ret u =>
      obtain ⟨v, H2, os, bare, un, hok2, r1, r2⟩ := q
      cases (show v = .bl true from r2)
      cases (show u = Value.bool true from r1)
      refine ⟨rfl, OldK.of_keep fun b o e => ?_, os, bare⟩
      rcases hO b with z | ⟨ob, xs, z⟩
      · exact un.keep b o e z (fun z => nomatch z) (fun z => nomatch z)
      · obtain ⟨g1, _⟩ := hok b _ z
        obtain ⟨g2, _⟩ := hok2 b _ (un.frzs b ob _ z)
        rw [e] at g1
        cases g1
        exact g2
    | next => exact False.elim q
    | brk => exact False.elim q
    | cont => exact False.elim q
/-- the head, where the law's own def is run with no repr under way -/
theorem walk_ofG {l : PySem.W.OpenLaw} {n k : Nat} {q : Program} {loose : List Str} {XP : (Str → Option Value) → Heap → Prop} {YP : World → Heap → Prop} {d : DefRec} {K : Params → PySem.W.Frag} {CX : World → CXT} {sp : World → Sp} {x : Str}
    (hn : l.most = some n) (hm : n ≤ sizeLine) (hd : d.params.defaults = []) (hr : Room k callerA) (hY : ∀ (w : World) (h : Heap), YP w h → (K w.params).In h)
    (F : ∀ (w : World) (mg : Str → Option Value) (fa : Addr) (h : Heap), (K w.params).In h → h.Ns mainGlobals mg → mg d.name = some (.ref fa) → ∃ fd : FuncData, (∀ (s : Shared) (u : Value), BindsTo s fd ⟨[u], []⟩ [(x, u)]) ∧
      ∀ base : Heap, (K w.params).In base → base.Ns mainGlobals mg → RunsG l.prog w (K w.params) mg base (CX w) k fa fd [x] (sp w))
    (hs : ∀ (w : World) (H : Hp) (a : Addr) (ns : List Int), ns.length ≤ n → Only H → SqL (K w.params) H a (ns.map V.int) → sp w [.ref a] H (fun v _ => v = .bl true) fun _ _ _ => False)
    (hx : ∀ (w : World) (H : Hp) (s : Shared) (e : Value) (s' : Shared), CX w [] H s (fun _ _ _ => False) e s' → False) : PySem.W.WalkO q loose XP YP l.row.toRowW d [] (fun f vs => PySem.call f vs) := by
  refine Att.attach_call hn hd fun w s0 s1 mg mb fa o pm cd doc a vs ns G Y e1 e2 e3 e4 ea hi hl hg => ?_
  obtain ⟨fd, bd, R⟩ := F w mg fa _ (hY w _ Y) G.T.g e4
  exact law_runs (hY w _ Y) G.T.g G.T.b G.T.builtins G.T.nolimit hg ea hi (Nat.le_trans hl hm) hr R bd (fun H hO hS => hs w H a ns hl hO hS) fun H e s' => hx w H s1 e s'
end Nb

set_option Elab.async false
set_option maxRecDepth 100000
set_option maxHeartbeats 4000000
/-! A def of the text that keeps its promise, with all that a caller must know of it. -/
namespace Nb
open PySem L2
structure Dn (P : Program) (w : World) (K : PySem.W.Frag) (mg : Str → Option Value) (base : Heap) (CX : CXT) (k : Nat) (x : Str) (ps : List Str) (sp : Sp) : Prop where
  ex : ∃ (f : Addr) (fd : FuncData), PySem.W.keepIn K (.ref f) = true ∧ Binds K fd ps [] ∧ mg x = some (.ref f) ∧ FnOk P w K mg base CX k f fd ps sp
theorem Dn.imp {P : Program} {w : World} {K : PySem.W.Frag} {mg : Str → Option Value} {base : Heap} {CX : CXT} {k : Nat} {x : Str} {ps : List Str} {sp sp' : Sp} (D : Dn P w K mg base CX k x ps sp) (h : ∀ vs H Q E, sp' vs H Q E → sp vs H Q E) : Dn P w K mg base CX k x ps sp' :=
  let ⟨f, fd, a, b, c, F⟩ := D.ex
  ⟨f, fd, a, b, c, F.imp h⟩
section
variable {X : Cx} {CX : CXT} {k : Nat} {ps : List Str} {sp : Sp} {E : XK} {W : L2.St → XK} {x : Str} {p pos : Pos} {e : Expr} {es : List Expr} {t : TA}
theorem pe_D (D : Dn X.prog X.w X.K X.mg X.base CX k x ps sp) (hr : Room k X.A) (hg : Gl X x) (hx : Passes CX X E) (ha : PA X (e :: es) t)
    (hdb : (x == ("__debug__" : Str)) = false := by decide) (he : starEach (e :: es) X.env = (false, eval e X.env) :: starEach es X.env := by rfl) (hpl : (backTo pos (starEach es X.env)).any (·.1) = false := by rfl) : PE X (.Call (.Name x p) (e :: es) [] pos) (tCall sp [] E t) :=
  let ⟨_, _, kp, b, g, G⟩ := D.ex
  pe_call G hr hg g kp b .nil hx ha hdb he hpl
theorem pe_D0 (D : Dn X.prog X.w X.K X.mg X.base CX k x ps sp) (hr : Room k X.A) (hg : Gl X x) (hx : Passes CX X E) (hdb : (x == ("__debug__" : Str)) = false := by decide) : PE X (.Call (.Name x p) [] [] pos) (tCall sp [] E tNil) :=
  let ⟨_, _, kp, b, g, G⟩ := D.ex
  pe_call0 G hr hg g kp b .nil hx hdb
theorem pe_DS (D : Dn X.prog X.w X.K X.mg X.base CX k x ps sp) (hr : Room k X.A) (hg : Gl X x) (hx : ∀ σ, PassesAt CX X σ (W σ)) (ha : PA X (e :: es) t)
    (hdb : (x == ("__debug__" : Str)) = false := by decide) (he : starEach (e :: es) X.env = (false, eval e X.env) :: starEach es X.env := by rfl) (hpl : (backTo pos (starEach es X.env)).any (·.1) = false := by rfl) : PE X (.Call (.Name x p) (e :: es) [] pos) (tCallS sp W t) :=
  let ⟨_, _, kp, b, g, G⟩ := D.ex
  pe_callS G hr hg g kp b hx ha hdb he hpl
end
end Nb

set_option Elab.async false
set_option maxRecDepth 100000
set_option maxHeartbeats 4000000
/-! The rules of new objects, told by what stood before: every heap that keeps what was told, with the new object in it. -/
namespace Nb
open PySem PySem.Spec PyProof.Rows
open L2 hiding del del_ne del_same
def aUp (t : TA) : TA := fun σ H Q => ∃ R : List V → Hp → Prop, t σ H R ∧ ∀ vs H1, R vs H1 → Q vs H1
def eUp (t : TE) : TE := fun σ H Q => ∃ R : VK, t σ H R ∧ ∀ v H1, R v H1 → Q v H1
section
variable {X : Cx} {e : Expr} {es : List Expr} {t u : TE} {ta : TA} {pos : Pos}
theorem PE.to (h : PE X e t) (k : ∀ σ H Q, u σ H Q → t σ H Q) : PE X e u := ⟨fun pins s σ H Q I z => h.run pins s σ H Q I (k _ _ _ z)⟩
theorem pa_up (h : PA X es ta) : PA X es (aUp ta) := ⟨fun pos pins s σ H _ I ⟨R, r, k⟩ => thn (h.run pos pins s σ H R I r) fun us s1 ⟨vs, H1, I1, r1, q⟩ => ⟨vs, H1, I1, r1, k vs H1 q⟩⟩
theorem pe_up (h : PE X e t) : PE X e (eUp t) := ⟨fun pins s σ H _ I ⟨R, r, k⟩ => thn (h.run pins s σ H R I r) fun us s1 ⟨v, H1, I1, r1, q⟩ => ⟨v, H1, I1, r1, k v H1 q⟩⟩
/-- [e, ..] -/
def tLstS (ta : TA) : TE := fun σ H Q => ta σ H fun vs H1 => vs.length ≤ 100000 ∧ ∀ H2 l, Same H1 H2 → H1 l = none → H2 l = some (.lst vs) → Q (.ref l) H2
theorem line100 {n : Nat} (h : n ≤ 100000) : n ≤ sizeLine := Nat.le_trans h (by decide)
theorem pe_lstS (h : PA X es ta) : PE X (.List es pos) (tLstS ta) := PE.to (pe_lst (pa_up h)) fun σ H Q z => ⟨_, z, fun vs H1 ⟨l, q⟩ => ⟨line100 l, fun a na => q _ a (same_new na) na upd_same⟩⟩
/-- (e, ..) -/
def tTupS (ta : TA) : TE := fun σ H Q => ta σ H fun vs H1 => vs.length ≤ 100000 ∧ ∀ H2 l, Same H1 H2 → H1 l = none → H2 l = some (.tup vs) → Q (.ref l) H2
theorem pe_tupS {c} (h : PA X es ta) : PE X (.Tuple es c pos) (tTupS ta) := PE.to (pe_tup (pa_up h)) fun σ H Q z => ⟨_, z, fun vs H1 ⟨l, q⟩ => ⟨line100 l, fun a na => q _ a (same_new na) na upd_same⟩⟩
theorem OpR.to {f : Value → Value → Sem Value} {r r' : R2} (h : OpR X f r) (k : ∀ x y H Q, r' x y H Q → r x y H Q) : OpR X f r' := fun pins s σ H x y v u Q I rx ry z => h pins s σ H x y v u Q I rx ry (k _ _ _ _ z)
theorem CallR.to {f : Value} {r r' : List V → Hp → VK → Prop} (h : CallR X f r) (k : ∀ xs H Q, r' xs H Q → r xs H Q) : CallR X f r' := fun pins s σ H xs us Q I rr z => h pins s σ H xs us Q I rr (k _ _ _ z)
/-- list + list -/
def rCatS : R2 := fun x y H Q => ∃ l b xs zs, x = .ref l ∧ y = .ref b ∧ H l = some (.lst xs) ∧ H b = some (.lst zs) ∧ xs.length + zs.length ≤ 100000 ∧ ∀ H2 p, Same H H2 → H p = none → H2 p = some (.lst (xs ++ zs)) → Q (.ref p) H2
theorem op_catS : OpR X (binaryOp .Add) rCatS := OpR.to op_cat fun x y H Q ⟨l, b, xs, zs, e1, e2, h1, h2, z, q⟩ => ⟨l, b, xs, zs, e1, e2, h1, h2, line100 z, fun p np => q _ p (same_new np) np upd_same⟩
/-- list * int -/
def rRepS : R2 := fun x y H Q => ∃ (l : Addr) (k : Nat) (xs : List V), x = .ref l ∧ y = .int k ∧ H l = some (.lst xs) ∧ k ≤ 100000 ∧ xs.length * k ≤ 100000 ∧ ∀ H2 p, Same H H2 → H p = none → H2 p = some (.lst (List.replicate k xs).flatten) → Q (.ref p) H2
theorem op_repS : OpR X (binaryOp .Mult) rRepS := OpR.to op_rep fun x y H Q ⟨l, k, xs, e1, e2, h1, h2, z, q⟩ => ⟨l, k, xs, e1, e2, h1, by omega, by omega, line100 z, fun p np => q _ p (same_new np) np upd_same⟩
/-- tuple + tuple -/
def rCatT (K : PySem.W.Frag) : R2 := fun x y H Q => ∃ a b xs ys, x = .ref a ∧ y = .ref b ∧ H a = some (.tup xs) ∧ H b = some (.tup ys) ∧ xs.length + ys.length ≤ 100000 ∧ ∀ H2 p, Same H H2 → H2 p = some (.tup (xs ++ ys)) → Q (.ref p) H2
theorem op_catT' : OpR X (binaryOp .Add) (rCatT X.K) := OpR.to op_catA fun x y H Q ⟨a, b, xs, ys, e1, e2, h1, h2, z, q⟩ => ⟨a, b, xs, ys, e1, e2, SqT.of h1, SqT.of h2, line100 z,
  fun e => q _ b (Same.refl H) (by rw [e]; exact h2), fun _ e => q _ a (Same.refl H) (by rw [e, List.append_nil]; exact h1), fun _ _ p np => q _ p (same_new np) upd_same⟩
/-- tuple(xs), list(xs) -/
theorem cr_tupleS : CallR X (.type "tuple") (fun xs H Q => ∃ p ys, xs = [.ref p] ∧ (H p = some (.lst ys) ∨ H p = some (.tup ys)) ∧ ∀ H2 l, Same H H2 → H2 l = some (.tup ys) → Q (.ref l) H2) :=
  CallR.to call_tuple_of fun xs H Q ⟨p, ys, e, h, q⟩ => ⟨p, ys, e, h.elim (fun h => .inl ⟨SqL.of h, fun l nl => q _ l (same_new nl) upd_same⟩) fun h => .inr ⟨SqT.of h, q H p (Same.refl H) h⟩⟩
theorem cr_listS : CallR X (.type "list") (fun xs H Q => ∃ p ys, xs = [.ref p] ∧ (SqL X.K H p ys ∨ SqT X.K H p ys) ∧ ∀ H2 l, Same H H2 → H l = none → H2 l = some (.lst ys) → Q (.ref l) H2) :=
  CallR.to call_list_of fun xs H Q ⟨p, ys, e, h, q⟩ => ⟨p, ys, e, h, fun l nl => q _ l (same_new nl) nl upd_same⟩
end
/-! ### defs that are run where no repr is under way -/
structure DnG (P : Program) (w : World) (K : PySem.W.Frag) (mg : Str → Option Value) (base : Heap) (CX : CXT) (k : Nat) (x : Str) (ps : List Str) (sp : Sp) : Prop where
  ex : ∃ (f : Addr) (fd : FuncData), PySem.W.keepIn K (.ref f) = true ∧ Binds K fd ps [] ∧ mg x = some (.ref f) ∧ (∀ vs H Q E, sp vs H Q E → vs.length = ps.length) ∧ RunsG P w K mg base CX k f fd ps sp
section
variable {X : Cx} {CX : CXT} {k : Nat} {ps : List Str} {sp : Sp} {E : XK} {x : Str} {p pos : Pos} {e : Expr} {es : List Expr} {t : TA}
theorem pe_DG (D : DnG X.prog X.w X.K X.mg X.base CX k x ps sp) (gd : X.A.guards = some []) (hr : Room k X.A) (hg : Gl X x) (hx : Passes CX X E) (ha : PA X (e :: es) t)
    (hdb : (x == ("__debug__" : Str)) = false := by decide) (he : starEach (e :: es) X.env = (false, eval e X.env) :: starEach es X.env := by rfl) (hpl : (backTo pos (starEach es X.env)).any (·.1) = false := by rfl) : PE X (.Call (.Name x p) (e :: es) [] pos) (tCall sp [] E t) := by
  obtain ⟨f, fd, kp, b, g, len, G⟩ := D.ex
  refine ⟨fun pins s σ H Q I h => wpAny_Call_Name_kw (ld_glob I hg g (PySem.W.callWith_K (h₀ := X.base) I.ok.mod.kin kp (thn (ha.run pos pins s σ H _ I h) fun us s1 ⟨vs, H1, I1, r, q⟩ => ⟨I1.kIn, ?_⟩) he hpl) hdb)⟩
  have q : sp vs H1 Q E := by
    have q' : sp (vs ++ []) H1 Q E := q
    rwa [List.append_nil] at q'
  have hl : (us ++ []).length = ps.length := by rw [List.append_nil, ← Paired.length r]; exact len _ _ _ _ q
  refine wpAny_call (codeAny_mono (G X.A X.stack s1 H1 ⟨us, []⟩ us vs Q E gd hr I1.env0 (by simpa using b s1 us I1.kIn hl) r q) fun r s' hq => ?_)
  cases r with
  | error e => exact hx pins σ H1 s1 e s' I1 hq
  | ok fl =>
    cases fl with
    | ret u => exact I1.after hq
    | next => exact False.elim hq
    | brk => exact False.elim hq
    | cont => exact False.elim hq
end
/-! ### repr of data in which empty dicts may stand -/
mutual
inductive Tz (H : Hp) : V → PyData → Prop
  | non : Tz H .non .none
  | bl (b) : Tz H (.bl b) (.bool b)
  | int (i) : Tz H (.int i) (.int i)
  | str (z) : Tz H (.str z) (.str z)
  | lst {a xs ds} : H a = some (.lst xs) → Tzs H xs ds → Tz H (.ref a) (.list ds)
  | tup {a xs ds} : H a = some (.tup xs) → Tzs H xs ds → Tz H (.ref a) (.tuple ds)
  | dct {a} : H a = some (.dK []) → Tz H (.ref a) (.dict [])
inductive Tzs (H : Hp) : List V → List PyData → Prop
  | nil : Tzs H [] []
  | cons {x d xs ds} : Tz H x d → Tzs H xs ds → Tzs H (x :: xs) (d :: ds)
end
mutual
theorem tz_same {H H' : Hp} (s : Same H H') : ∀ {x : V} {d : PyData}, Tz H x d → Tz H' x d
  | _, _, .non => .non
  | _, _, .bl b => .bl b
  | _, _, .int i => .int i
  | _, _, .str z => .str z
  | _, _, .lst e h => .lst (s _ _ e) (tzs_same s h)
  | _, _, .tup e h => .tup (s _ _ e) (tzs_same s h)
  | _, _, .dct e => .dct (s _ _ e)
theorem tzs_same {H H' : Hp} (s : Same H H') : ∀ {xs : List V} {ds : List PyData}, Tzs H xs ds → Tzs H' xs ds
  | _, _, .nil => .nil
  | _, _, .cons h k => .cons (tz_same s h) (tzs_same s k)
end
mutual
theorem tz_reads {X : Cx} {pins : List (Addr × Obj)} {σ : L2.St} {H : Hp} {s : Shared} (I : Inv X pins σ H s) : ∀ {x : V} {d : PyData} {u : Value}, Tz H x d → RelV x u → ∃ as, Reads s.heap u d as ∧ ∀ a ∈ as, H a ≠ none
  | _, _, _, .non, r => by cases r; exact ⟨_, .none, fun _ h => nomatch h⟩
  | _, _, _, .bl b, r => by cases r; exact ⟨_, .bool b, fun _ h => nomatch h⟩
  | _, _, _, .int i, r => by obtain ⟨t, rfl⟩ := r; exact ⟨_, .int i t, fun _ h => nomatch h⟩
  | _, _, _, .str z, r => by obtain ⟨t, rfl⟩ := r; exact ⟨_, .str z t, fun _ h => nomatch h⟩
  | _, _, _, .lst (a := a) e h, r => by
    cases r
    obtain ⟨its, rv, ⟨o, n, ho, hc, _, hd⟩, _⟩ := I.list (SqL.of e)
    obtain ⟨as, hr, al⟩ := tzs_reads I h rv
    refine ⟨_, .list ho hc hd hr, fun b hb => ?_⟩
    rcases List.mem_cons.mp hb with z | z
    · rw [z, e]
      exact fun q => nomatch q
    · exact al b z
  | _, _, _, .tup e h, r => by
    cases r
    obtain ⟨its, rv, ⟨o, ho, hc, n, hd⟩, _⟩ := I.tuple (SqT.of e)
    obtain ⟨as, hr, al⟩ := tzs_reads I h rv
    exact ⟨_, .tuple ho hc hd hr, al⟩
  | _, _, _, .dct (a := a) e, r => by
    cases r
    have ho : ObjOk X.prog X.w H s.heap a (.dK []) := I.hok a _ e
    obtain ⟨_, nm, vs, kv, o, es, ep, e1, e2, e3, _, e5, _⟩ := ho
    cases kv
    have e6 : es.toList = [] := by
      cases hz : es.toList with
      | nil => rfl
      | cons z zs =>
        rw [hz] at e5
        cases e5
    refine ⟨_, .dict (as := []) (bs := []) e1 e2.1 e3 (by rw [e6]; exact .nil) (by rw [e6]; exact .nil), fun b hb => ?_⟩
    have hb : b = a := by simpa using hb
    rw [hb, e]
    exact fun q => nomatch q
theorem tzs_reads {X : Cx} {pins : List (Addr × Obj)} {σ : L2.St} {H : Hp} {s : Shared} (I : Inv X pins σ H s) : ∀ {xs : List V} {ds : List PyData} {us : List Value}, Tzs H xs ds → Vals xs us → ∃ as, ReadsAll s.heap us ds as ∧ ∀ a ∈ as, H a ≠ none
  | _, _, _, .nil, r => by cases r; exact ⟨_, .nil, fun _ h => nomatch h⟩
  | _, _, _, .cons h k, r => by
    cases r with
    | cons r1 r2 =>
      obtain ⟨as, q1, a1⟩ := tz_reads I h r1
      obtain ⟨bs, q2, a2⟩ := tzs_reads I k r2
      exact ⟨_, .cons q1 q2, fun a ha => (List.mem_append.mp ha).elim (a1 a) (a2 a)⟩
end
/-- the module's table of modules is a written object -/
def SysIn (K : PySem.W.Frag) : Prop := (K.lookup sysModules).isSome = true
theorem cr_reprZ {X : Cx} (sy : SysIn X.K) (g : X.A.guards = some []) (u : X.A.units + 100 < cLine) : CallR X (.builtin "repr") (fun xs H Q => ∃ (x : V) (d : PyData), xs = [x] ∧ Tz H x d ∧ d.showable = true ∧ d.depth ≤ 60 ∧ d.shown.length ≤ sizeLine ∧ Q (.str d.shown) H) := by
  intro pins s σ H xs us Q I r h
  obtain ⟨x, d, rfl, hd, hs, hn, hz, q⟩ := h
  obtain ⟨v, rfl, rv⟩ := vals1 r
  obtain ⟨as, rd, al⟩ := tz_reads I hd rv
  obtain ⟨so, hso⟩ := Option.isSome_iff_exists.mp sy
  have nsy : sysModules ∉ as := fun hm => al _ hm (I.bs _ _ (I.ok.mod.kin _ _ hso)).2
  have byRef : ∀ a : Addr, v = .ref a → wpAny (model X.prog X.w) X.A (call (.builtin "repr") [v]) (EP X pins σ Q) X.xe s := fun a e => by
    subst e
    exact repr_of_reads' rd hs (fun _ => nsy) g (by omega) (fun _ _ e => e) (fun h' t tk hk => ⟨.str d.shown, H, I.kept (t' := tk) hk, ⟨_, rfl⟩, q⟩) hz
  cases hd with
  | non =>
    cases (show v = Value.none from rv)
    exact PySem.P.repr_of_none ⟨.str _, H, I.tok _, ⟨_, rfl⟩, q⟩
  | bl b =>
    cases (show v = Value.bool b from rv)
    exact PySem.P.repr_of_bool ⟨.str _, H, I.tok _, ⟨_, rfl⟩, q⟩
  | int i =>
    obtain ⟨t, rfl⟩ := rv
    exact PySem.P.repr_of_int (of_decide_eq_true hs) ⟨.str _, H, I.tok _, ⟨_, rfl⟩, q⟩
  | str z =>
    obtain ⟨t, rfl⟩ := rv
    exact PySem.P.repr_of_str ⟨.str _, H, I.tok _, ⟨_, rfl⟩, q⟩ hz
  | lst e ts => exact byRef _ rv
  | tup e ts => exact byRef _ rv
  | dct e => exact byRef _ rv
end Nb
namespace Nb
open PySem PySem.Spec PyProof.Rows
open L2 hiding del del_ne del_same
theorem eqv_bls : ∀ xs ys : List Bool, PyData.eqvAll (xs.map PyData.bool) (ys.map PyData.bool) = decide (xs = ys)
  | [], [] => rfl
  | [], y :: ys => rfl
  | x :: xs, [] => rfl
  | x :: xs, y :: ys => by
    have ih := eqv_bls xs ys
    simp only [List.map_cons, PyData.eqvAll, ih]
    cases x <;> cases y <;> simp [PyData.eqv]
theorem dp_bls {K : PySem.W.Frag} {H : Hp} : ∀ bs : List Bool, DpAll K H (bs.map V.bl) (bs.map PyData.bool)
  | [] => .nil
  | b :: bs => .cons (.bl b) (dp_bls bs)
theorem fine_bls (bs : List Bool) : Fine 1 (.list (bs.map PyData.bool)) := fine_list fun d hd => by
  obtain ⟨b, _, rfl⟩ := List.mem_map.mp hd
  exact fine_bl b
/-- lists of bools compared -/
def rBls (k : Bool → Bool) : R2 := fun x y H Q => ∃ (a b : Addr) (xs ys : List Bool), x = .ref a ∧ y = .ref b ∧ H a = some (.lst (xs.map V.bl)) ∧ H b = some (.lst (ys.map V.bl)) ∧ Q (.bl (k (decide (xs = ys)))) H
section
variable {X : Cx}
theorem op_eqBls (hu : X.A.units + 64 < cLine) : OpR X (compareOp .Eq) (rBls id) := OpR.to (op_eqD hu) fun x y H Q h => by
  obtain ⟨a, b, xs, ys, rfl, rfl, h1, h2, q⟩ := h
  refine ⟨.list (xs.map PyData.bool), .list (ys.map PyData.bool), .lst (SqL.of h1) (dp_bls xs), .lst (SqL.of h2) (dp_bls ys), (fine_bls xs).shaped (by decide), (fine_bls ys).shaped (by decide), ?_⟩
  have e : PyData.eqv (.list (xs.map PyData.bool)) (.list (ys.map PyData.bool)) = decide (xs = ys) := by rw [← eqv_bls]; simp [PyData.eqv]
  rw [e]
  exact q
theorem op_neBls (hu : X.A.units + 64 < cLine) : OpR X (compareOp .NotEq) (rBls not) := OpR.to (op_neD hu) fun x y H Q h => by
  obtain ⟨a, b, xs, ys, rfl, rfl, h1, h2, q⟩ := h
  refine ⟨.list (xs.map PyData.bool), .list (ys.map PyData.bool), .lst (SqL.of h1) (dp_bls xs), .lst (SqL.of h2) (dp_bls ys), (fine_bls xs).shaped (by decide), (fine_bls ys).shaped (by decide), ?_⟩
  have e : PyData.eqv (.list (xs.map PyData.bool)) (.list (ys.map PyData.bool)) = decide (xs = ys) := by rw [← eqv_bls]; simp [PyData.eqv]
  rw [e]
  exact q
end
end Nb
namespace Nb
open PySem PySem.Spec PyProof.Rows
open L2 hiding del del_ne del_same
theorem eqv_ints : ∀ xs ys : List Int, PyData.eqvAll (xs.map PyData.int) (ys.map PyData.int) = decide (xs = ys)
  | [], [] => rfl
  | [], y :: ys => rfl
  | x :: xs, [] => rfl
  | x :: xs, y :: ys => by
    simp only [List.map_cons, PyData.eqvAll, eqv_ints xs ys, PyData.eqv]
    rw [Bool.eq_iff_iff]
    simp
/-- lists of ints compared -/
def rInts (k : Bool → Bool) : R2 := fun x y H Q => ∃ (a b : Addr) (xs ys : List Int), x = .ref a ∧ y = .ref b ∧ H a = some (.lst (xs.map V.int)) ∧ H b = some (.lst (ys.map V.int)) ∧ Q (.bl (k (decide (xs = ys)))) H
section
variable {X : Cx}
theorem op_eqInts (hu : X.A.units + 64 < cLine) : OpR X (compareOp .Eq) (rInts id) := OpR.to (op_eqD hu) fun x y H Q h => by
  obtain ⟨a, b, xs, ys, rfl, rfl, h1, h2, q⟩ := h
  refine ⟨.list (xs.map PyData.int), .list (ys.map PyData.int), .lst (SqL.of h1) (dp_ints xs), .lst (SqL.of h2) (dp_ints ys), (fine_ints xs).shaped (by decide), (fine_ints ys).shaped (by decide), ?_⟩
  have e : PyData.eqv (.list (xs.map PyData.int)) (.list (ys.map PyData.int)) = decide (xs = ys) := by rw [← eqv_ints]; simp [PyData.eqv]
  rw [e]
  exact q
theorem op_neInts (hu : X.A.units + 64 < cLine) : OpR X (compareOp .NotEq) (rInts not) := OpR.to (op_neD hu) fun x y H Q h => by
  obtain ⟨a, b, xs, ys, rfl, rfl, h1, h2, q⟩ := h
  refine ⟨.list (xs.map PyData.int), .list (ys.map PyData.int), .lst (SqL.of h1) (dp_ints xs), .lst (SqL.of h2) (dp_ints ys), (fine_ints xs).shaped (by decide), (fine_ints ys).shaped (by decide), ?_⟩
  have e : PyData.eqv (.list (xs.map PyData.int)) (.list (ys.map PyData.int)) = decide (xs = ys) := by rw [← eqv_ints]; simp [PyData.eqv]
  rw [e]
  exact q
/-- {} -/
theorem pe_dnewS {pos : Pos} : PE X (.Dict [] [] pos) (fun _ H Q => ∀ H2 d, Same H H2 → H d = none → H2 d = some (.dK []) → Q (.ref d) H2) := PE.to pe_dnewK fun σ H Q z d hd => z _ d (same_new hd) hd upd_same
end
theorem tzs_rep {H : Hp} {x : V} {d : PyData} (h : Tz H x d) : ∀ n, Tzs H (List.replicate n x) (List.replicate n d)
  | 0 => .nil
  | n + 1 => .cons h (tzs_rep h n)
/-- what stands in a heap beside the source -/
theorem del_keep {H : Hp} {p a : Addr} {o : HO} (e : H a = some o) (n : a ≠ p) : del H p a = some o := by rw [del_ne n]; exact e
theorem same_upd {F H : Hp} {p : Addr} (s : Same F H) (h : F p = none) : Same F (del H p) := same_del s h
theorem del_mono {H H' : Hp} {p : Addr} (s : Same H H') : Same (del H p) (del H' p) := same_del (del_same.trans s) del_at
theorem src_away {H : Hp} {p l : Addr} {b : Nat} (S : Src H p b) (h : H l = none) : l ≠ p := fun z => by
  obtain ⟨c, n, r, e, _⟩ := S
  rw [z, e] at h
  cases h
end Nb
namespace Nb
open PySem L2
theorem un100 {k : Nat} {A : Around} (hr : Room k A) : A.units + 100 < cLine := by
  have := hr.un
  omega
end Nb
namespace Nb
open PySem L2
/-- a law's own promise -/
def spLaw0 (K : PySem.W.Frag) : Sp := fun vs H Q _ => ∃ (a : Addr) (ns : List Int), vs = [.ref a] ∧ SqL K H a (ns.map V.int) ∧ ns.length ≤ 63 ∧ ∀ H', Q (.bl true) H'
end Nb

set_option Elab.async false
set_option maxRecDepth 100000
set_option maxHeartbeats 4000000
/-! repr of small data, where no repr is under way. -/
namespace Nb
open PySem L2
def okR (w : Nat) (d : PyData) : Prop := d.showable = true ∧ d.intsShort 13 = true ∧ d.weight ≤ w
/-- small data: w is its weight at most -/
def Tw (H : Hp) (n w : Nat) (v : V) : Prop := ∃ d, Td H n v d ∧ okR w d
section
variable {H H' : Hp} {n w : Nat} {v : V}
theorem tw_same (s : Same H H') (h : Tw H n w v) : Tw H' n w v := let ⟨d, k, o⟩ := h; ⟨d, td_same s k, o⟩
theorem tw_up (h : Tw H n w v) (k : Nat) : Tw H (n + k) w v := let ⟨d, t, o⟩ := h; ⟨d, td_mono t k, o⟩
theorem tw_mono (h : Tw H n w v) {u : Nat} (l : w ≤ u) : Tw H n u v := let ⟨d, t, o⟩ := h; ⟨d, t, o.1, o.2.1, Nat.le_trans o.2.2 l⟩
theorem tw_non : Tw H n w .non := ⟨_, .non, rfl, rfl, by simp [PyData.weight]⟩
theorem tw_bl (b : Bool) : Tw H n w (.bl b) := ⟨_, .bl b, rfl, rfl, by simp [PyData.weight]⟩
theorem tw_str {z : Str} (h : Word z) (l : z.length ≤ w) : Tw H n w (.str z) := ⟨_, .str h, rfl, rfl, l⟩
theorem tw_int {i : Int} (h : okR w (.int i)) : Tw H n w (.int i) := ⟨_, .int i, h⟩
theorem tw_all : ∀ {xs : List V}, (∀ x ∈ xs, Tw H n w x) → ∃ ds, Tds H n xs ds ∧ PyData.showableAll ds = true ∧ PyData.intsShortAll 13 ds = true ∧ PyData.weightAll ds ≤ (w + 1) * xs.length
  | [], _ => ⟨[], .nil, rfl, rfl, by simp [PyData.weightAll]⟩
  | x :: xs, h => by
    obtain ⟨d, t, o1, o2, o3⟩ := h x (List.mem_cons_self ..)
    obtain ⟨ds, ts, p1, p2, p3⟩ := tw_all (xs := xs) fun y hy => h y (List.mem_cons_of_mem _ hy)
    refine ⟨d :: ds, .cons t ts, by simp [PyData.showableAll, o1, p1], by simp [PyData.intsShortAll, o2, p2], ?_⟩
    simp only [PyData.weightAll, List.length_cons, Nat.mul_add]
    omega
theorem tw_tup {a : Addr} {xs : List V} (e : H a = some (.tup xs)) (l : xs.length ≤ 1000) (h : ∀ x ∈ xs, Tw H n w x) : Tw H (n + 1) ((w + 1) * xs.length) (.ref a) := by
  obtain ⟨ds, t, p1, p2, p3⟩ := tw_all h
  exact ⟨.tuple ds, .tup e l t, by simpa [PyData.showable] using p1, by simpa [PyData.intsShort] using p2, by simpa [PyData.weight] using p3⟩
theorem tw_lst {a : Addr} {xs : List V} (e : H a = some (.lst xs)) (l : xs.length ≤ 1000) (h : ∀ x ∈ xs, Tw H n w x) : Tw H (n + 1) ((w + 1) * xs.length) (.ref a) := by
  obtain ⟨ds, t, p1, p2, p3⟩ := tw_all h
  exact ⟨.list ds, .lst e l t, by simpa [PyData.showable] using p1, by simpa [PyData.intsShort] using p2, by simpa [PyData.weight] using p3⟩
end
theorem td_hasDict {H : Hp} : ∀ {n : Nat} {x : V} {d : PyData}, Td H n x d → d.hasDict = false := fun h => PyData.hasDict_of_canLay _ (td_dp (K := []) h).2.1
/-- repr of small data -/
theorem cr_reprD {X : Cx} (g : X.A.guards = some []) (u : X.A.units + 100 < cLine) : CallR X (.builtin "repr") (fun xs H Q => ∃ (x : V) (d : PyData) (n : Nat), xs = [x] ∧ Td H n x d ∧ n ≤ 60 ∧ okR (2 ^ 20) d ∧ Q (.str d.shown) H) := by
  intro pins s σ H xs us Q I r h
  obtain ⟨x, d, n, rfl, hd, hn, o, q⟩ := h
  obtain ⟨v, rfl, rv⟩ := vals1 r
  obtain ⟨k1, k2, k3⟩ := td_dp (K := X.K) hd
  obtain ⟨as, rd⟩ := Dp.reads I d x v k1 rv
  have lay : PyData.layable0 d = true := by
    unfold PyData.layable0
    rw [k2, decide_eq_true (show d.depth ≤ 64 by omega), decide_eq_true o.2.2]
    rfl
  have sz : d.shown.length ≤ sizeLine := Nat.le_trans (PyProof.Rows.shown_le13 lay o.2.1) (by decide)
  have nd := td_hasDict hd
  have byRef : ∀ a : Addr, v = .ref a → wpAny (model X.prog X.w) X.A (call (.builtin "repr") [v]) (EP X pins σ Q) X.xe s := fun a e => by
    subst e
    exact repr_of_reads' rd o.1 (fun z => by rw [nd] at z; cases z) g (by omega) (fun _ _ e => e) (fun h' t tk hk => ⟨.str d.shown, H, I.kept (t' := tk) hk, ⟨_, rfl⟩, q⟩) sz
  cases hd with
  | non =>
    cases (show v = Value.none from rv)
    exact PySem.P.repr_of_none ⟨.str _, H, I.tok _, ⟨_, rfl⟩, q⟩
  | bl b =>
    cases (show v = Value.bool b from rv)
    exact PySem.P.repr_of_bool ⟨.str _, H, I.tok _, ⟨_, rfl⟩, q⟩
  | int i =>
    obtain ⟨t, rfl⟩ := rv
    exact PySem.P.repr_of_int (of_decide_eq_true o.1) ⟨.str _, H, I.tok _, ⟨_, rfl⟩, q⟩
  | str z =>
    obtain ⟨t, rfl⟩ := rv
    exact PySem.P.repr_of_str ⟨.str _, H, I.tok _, ⟨_, rfl⟩, q⟩ sz
  | lst e l ts => exact byRef _ rv
  | tup e l ts => exact byRef _ rv
/-- repr of small data, or of an empty dict -/
theorem cr_reprX {X : Cx} (g : X.A.guards = some []) (u : X.A.units + 100 < cLine) : CallR X (.builtin "repr") (fun xs H Q => (∃ (x : V) (d : PyData) (n : Nat), xs = [x] ∧ Td H n x d ∧ n ≤ 60 ∧ okR (2 ^ 20) d ∧ Q (.str d.shown) H) ∨
    ∃ a, xs = [.ref a] ∧ H a = some (.dK []) ∧ Q (.str (PyData.dict []).shown) H) := by
  intro pins s σ H xs us Q I r h
  rcases h with h | ⟨a, rfl, e, q⟩
  · exact cr_reprD g u pins s σ H xs us Q I r h
  · obtain ⟨v, rfl, rv⟩ := vals1 r
    cases rv
    have ho : ObjOk X.prog X.w H s.heap a (.dK []) := I.hok a _ e
    obtain ⟨_, nm, vs, kv, o, es, ep, e1, e2, e3, _, e5, _⟩ := ho
    cases kv
    have e6 : es.toList = [] := by
      cases hz : es.toList with
      | nil => rfl
      | cons z zs =>
        rw [hz] at e5
        cases e5
    have rd : Reads s.heap (.ref a) (.dict []) (a :: [] ++ []) := .dict e1 e2.1 e3 (by rw [e6]; exact .nil) (by rw [e6]; exact .nil)
    have dz : (PyData.dict []).depth ≤ 10 := by decide +kernel
    refine repr_of_reads' rd rfl (fun _ hm => ?_) g (by omega) (fun _ _ e => e) (fun h' t tk hk => ⟨.str _, H, I.kept (t' := tk) hk, ⟨_, rfl⟩, q⟩) (by decide +kernel)
    have : sysModules = a := by simpa using hm
    rw [this] at nm
    simp at nm
end Nb

set_option Elab.async false
set_option maxRecDepth 100000
set_option maxHeartbeats 4000000
/-! Rows of names as the laws make them, each a tuple known to its object. -/
namespace Nb
open PySem
open L2 hiding del del_ne del_same
theorem hu65 {A : PySem.Around} {k : Nat} (hr : Room k A) : A.units + 65 < PySem.cLine := by
  have := hr.un
  omega
theorem seqIx {j n : Nat} (h : j < n) : PySem.seqIndex? (j : Int) n = some j := by
  have e : PySem.seqIndex? (j : Int) n = if (decide (0 ≤ (if (j : Int) < 0 then (j : Int) + n else (j : Int))) && decide ((if (j : Int) < 0 then (j : Int) + n else (j : Int)) < n)) = true then some (if (j : Int) < 0 then (j : Int) + n else (j : Int)).toNat else none := rfl
  rw [e, if_neg (show ¬ ((j : Int) < 0) by omega), if_pos (by simp; omega), Int.toNat_natCast]
theorem erase_map (l : List Str) (j : Nat) : (l.map V.str).eraseIdx j = (l.eraseIdx j).map V.str := by
  induction l generalizing j with
  | nil => rfl
  | cons x l ih =>
    cases j with
    | zero => rfl
    | succ j =>
      show V.str x :: (l.map V.str).eraseIdx j = V.str x :: (l.eraseIdx j).map V.str
      rw [ih]
theorem erase_perm {l : List Str} {j : Nat} (h : j < l.length) : (l[j] :: l.eraseIdx j).Perm l := by
  induction l generalizing j with
  | nil => simp at h
  | cons x l ih =>
    cases j with
    | zero => exact List.Perm.refl _
    | succ j =>
      have hj : j < l.length := by simpa using h
      show (l[j] :: x :: l.eraseIdx j).Perm (x :: l)
      exact (List.Perm.swap x l[j] _).trans ((ih hj).cons x)
theorem dps_strs {K : PySem.W.Frag} {H : Hp} : ∀ zs : List Str, DpAll K H (zs.map V.str) (zs.map PyData.str)
  | [] => .nil
  | z :: zs => .cons (.str z) (dps_strs zs)
theorem fine_strs {zs : List Str} (h : ∀ z ∈ zs, Word z) : Fine 1 (.list (zs.map PyData.str)) := fine_list fun d hd => by
  obtain ⟨z, hz, rfl⟩ := List.mem_map.mp hd
  exact fine_str (h z hz).2
/-- where a value stands in a row, or -1 -/
def spotI (row : List Str) (d : PyData) : Int := match place row d with
  | some j => (j : Nat)
  | none => -1
theorem any_place (row : List Str) (d : PyData) : ((row.map PyData.str).any fun z => PyData.eqv z d) = (place row d).isSome := by
  rw [List.any_map]
  cases d with
  | str x =>
    show row.any ((fun z => PyData.eqv z (.str x)) ∘ PyData.str) = (row.findIdx? (· == x)).isSome
    rw [List.findIdx?_isSome]
    congr 1
  | _ =>
    show row.any _ = false
    rw [List.any_eq_false]
    intro z _
    simp [PyData.eqv]
def badK (i j : Int) (k : Nat) : Bool := if k = 0 then decide (i < 0) else decide (j < 0) || decide (j ≤ i)
theorem before_spots (row : List Str) (a b : PyData) : ((List.range 2).filter (badK (spotI row a) (spotI row b))).isEmpty = before row a b := by
  have e : ((List.range 2).filter (badK (spotI row a) (spotI row b))).isEmpty = (!badK (spotI row a) (spotI row b) 0 && !badK (spotI row a) (spotI row b) 1) := by
    show (([0, 1] : List Nat).filter _).isEmpty = _
    cases h0 : badK (spotI row a) (spotI row b) 0 <;> cases h1 : badK (spotI row a) (spotI row b) 1 <;> simp [List.filter, h0, h1]
  rw [e]
  unfold badK spotI before
  cases ha : place row a with
  | none => simp
  | some i =>
    cases hb : place row b with
    | none => simp
    | some j =>
      simp
      rw [Bool.eq_iff_iff]
      simp
theorem dps_ints {K : PySem.W.Frag} {H : Hp} (ns : List Int) : DpAll K H (ns.map V.int) (ns.map PyData.int) := dp_ints ns
theorem good_words {row : List Str} (h : GoodRow row) : ∀ z ∈ row, Word z := fun z hz => (h.2.1 z hz).2
theorem fine_row {row : List Str} (h : ∀ z ∈ row, Word z) : Fine 1 (.tuple (row.map PyData.str)) := fine_tup fun d hd => by
  obtain ⟨z, hz, rfl⟩ := List.mem_map.mp hd
  exact fine_str (h z hz).2
def RowsL (H : Hp) (as : List Addr) (rows : List (List Str)) : Prop := as.length = rows.length ∧ ∀ (k : Nat) (a : Addr) (row : List Str), as[k]? = some a → rows[k]? = some row → ∃ o, H a = some (.frz o (.tup (row.map V.str))) ∧ TupObj o
theorem rowsL_same {H H' : Hp} {as : List Addr} {rows : List (List Str)} (s : Same H H') (h : RowsL H as rows) : RowsL H' as rows :=
  ⟨h.1, fun k a row e1 e2 => let ⟨o, e3, e4⟩ := h.2 k a row e1 e2; ⟨o, s _ _ e3, e4⟩⟩
theorem rowsL_del {H H' : Hp} {p : Addr} {b : Nat} {as : List Addr} {rows : List (List Str)} (S : Src H p b) (s : Same (del H p) H') (h : RowsL H as rows) : RowsL H' as rows :=
  ⟨h.1, fun k a row e1 e2 => let ⟨o, e3, e4⟩ := h.2 k a row e1 e2; ⟨o, del_get s (src_ne S e3 (fun xs z => by cases z)) e3, e4⟩⟩
theorem rowsL_snoc {H : Hp} {as : List Addr} {rows : List (List Str)} {a : Addr} {row : List Str} {o : PySem.Obj} (h : RowsL H as rows) (e : H a = some (.frz o (.tup (row.map V.str)))) (t : TupObj o) : RowsL H (as ++ [a]) (rows ++ [row]) := by
  refine ⟨by simp [h.1], fun k b r e1 e2 => ?_⟩
  by_cases hk : k < as.length
  · rw [List.getElem?_append_left hk] at e1
    rw [List.getElem?_append_left (by rw [← h.1]; exact hk)] at e2
    exact h.2 k b r e1 e2
  · have e3 : k = as.length := by
      have := (List.getElem?_eq_some_iff.mp e1).1
      simp at this
      omega
    subst e3
    rw [List.getElem?_append_right (Nat.le_refl _)] at e1
    rw [h.1, List.getElem?_append_right (Nat.le_refl _)] at e2
    simp at e1 e2
    subst e1 e2
    exact ⟨o, e, t⟩
theorem good_sub {r s : List Str} (h : GoodRow r) (l : s.Sublist r) : GoodRow s :=
  ⟨h.1.sublist l, fun z hz => h.2.1 z (l.subset hz), Nat.le_trans l.length_le h.2.2⟩
theorem good_perm {r s : List Str} (h : GoodRow r) (l : s.Perm r) : GoodRow s :=
  ⟨l.nodup_iff.mpr h.1, fun z hz => h.2.1 z (l.subset hz), by rw [l.length_eq]; exact h.2.2⟩
theorem cut_strs (ys : List Str) (lo hi : Option Int) : ∃ ws : List Str, cutV (ys.map V.str) lo hi = ws.map V.str ∧ ws.Sublist ys := by
  refine ⟨(ys.drop (HT.sIx (ys.map V.str).length 0 lo)).take (HT.sIx (ys.map V.str).length (ys.map V.str).length hi - HT.sIx (ys.map V.str).length 0 lo), ?_, (List.take_sublist _ _).trans (List.drop_sublist _ _)⟩
  unfold cutV
  rw [List.map_take, List.map_drop]
def eight : List Str := ["a", "b", "c", "d", "node", "f", "box", "h"]
theorem good_eight : GoodRow eight := by
  refine ⟨by decide +kernel, fun z hz => ?_, by decide⟩
  have h1 : eight.all (fun z => isNm z && (decide (z.length ≤ 1000) && PyData.strOk z)) = true := by decide +kernel
  have h2 := List.all_eq_true.mp h1 z hz
  rw [Bool.and_eq_true, Bool.and_eq_true, decide_eq_true_eq] at h2
  exact h2
/-- rows of names, each a tuple of some of the names -/
def spRows : Sp := fun vs H Q _ => ∃ (p : Addr) (m t : Nat) (free : Bool) (b : Nat) (F : Hp), vs = [.ref p, .int m, .int t, .bl free] ∧ m ≤ 10 ∧ t ≤ 20 ∧ Src H p b ∧ b ≤ 800000 ∧ F p = none ∧ Same F H ∧
  ∀ (H' : Hp) (l : Addr) (as : List Addr) (rows : List (List Str)), Same F H' → F l = none → l ≠ p → H' l = some (.lst (as.map V.ref)) → RowsL H' as rows → rows.length = m → (∀ row ∈ rows, GoodRow row) → Src H' p (b + 8 + 17 * m) → Q (.ref l) H'
/-- the same texts in another order, as a new list -/
def spMixed : Sp := fun vs H Q _ => ∃ (p l : Addr) (zs : List Str) (b : Nat) (F : Hp), vs = [.ref p, .ref l] ∧ F l = some (.lst (zs.map V.str)) ∧ zs.length ≤ 20 ∧ (∀ z ∈ zs, Word z) ∧ Src H p b ∧ b ≤ 900000 ∧ F p = none ∧ Same F H ∧
  ∀ (H' : Hp) (l' : Addr) (ys : List Str), Same F H' → F l' = none → l' ≠ p → H' l' = some (.lst (ys.map V.str)) → ys.Perm zs → Src H' p (b + zs.length) → Q (.ref l') H'
theorem cr_tupleFS {X : Cx} : CallR X (.type "tuple") (fun xs H Q => ∃ p ys, xs = [.ref p] ∧ SqL X.K H p ys ∧ ∀ H2 l o, Same H H2 → H l = none → H2 l = some (.frz o (.tup ys)) → TupObj o → Q (.ref l) H2) :=
  CallR.to cr_tupleF fun xs H Q ⟨p, ys, e, h, q⟩ => ⟨p, ys, e, h, fun l o nl t => q _ l o (same_new nl) nl upd_same t⟩
/-- repr of lists and tuples that are read -/
theorem cr_reprP {X : Cx} (g : X.A.guards = some []) (u : X.A.units + 100 < cLine) : CallR X (.builtin "repr") (fun xs H Q => ∃ (p : Addr) (d : PyData), xs = [.ref p] ∧ Dp X.K H (.ref p) d ∧ d.canLay0 = true ∧ d.depth ≤ 60 ∧ okR (2 ^ 20) d ∧ Q (.str d.shown) H) := by
  intro pins s σ H xs us Q I r h
  obtain ⟨p, d, rfl, k1, k2, k3, o, q⟩ := h
  obtain ⟨v, rfl, rv⟩ := vals1 r
  cases rv
  obtain ⟨as, rd⟩ := Dp.reads I d (.ref p) (.ref p) k1 rfl
  have lay : PyData.layable0 d = true := by
    unfold PyData.layable0
    rw [k2, decide_eq_true (show d.depth ≤ 64 by omega), decide_eq_true o.2.2]
    rfl
  have sz : d.shown.length ≤ sizeLine := Nat.le_trans (PyProof.Rows.shown_le13 lay o.2.1) (by decide)
  have nd := PyData.hasDict_of_canLay _ k2
  exact repr_of_reads' rd o.1 (fun z => by rw [nd] at z; cases z) g (by omega) (fun _ _ e => e) (fun h' t tk hk => ⟨.str d.shown, H, I.kept (t' := tk) hk, ⟨_, rfl⟩, q⟩) sz
end Nb

set_option Elab.async false
set_option linter.all false
set_option maxRecDepth 100000
set_option maxHeartbeats 4000000
/-! Comprehensions that change nothing that was told: what they give, item by item. -/
namespace Nb
open PySem
open L2 hiding del del_ne del_same
/-- item by item -/
inductive F2 {α β : Type} (R : α → β → Prop) : List α → List β → Prop
  | nil : F2 R [] []
  | cons {x y xs ys} : R x y → F2 R xs ys → F2 R (x :: xs) (y :: ys)
theorem f2_snoc {α β : Type} {R : α → β → Prop} : ∀ {xs : List α} {ys : List β} {x : α} {y : β}, F2 R xs ys → R x y → F2 R (xs ++ [x]) (ys ++ [y])
  | _, _, _, _, .nil, h => .cons h .nil
  | _, _, _, _, .cons a b, h => .cons a (f2_snoc b h)
theorem f2_imp {α β : Type} {R S : α → β → Prop} (k : ∀ a b, R a b → S a b) : ∀ {xs : List α} {ys : List β}, F2 R xs ys → F2 S xs ys
  | _, _, .nil => .nil
  | _, _, .cons a b => .cons (k _ _ a) (f2_imp k b)
theorem f2_len {α β : Type} {R : α → β → Prop} : ∀ {xs : List α} {ys : List β}, F2 R xs ys → xs.length = ys.length
  | _, _, .nil => rfl
  | _, _, .cons _ b => congrArg (· + 1) (f2_len b)
theorem f2_map {α β : Type} {f : α → β} : ∀ {xs : List α} {ys : List β}, F2 (fun x y => y = f x) xs ys → ys = xs.map f
  | _, _, .nil => rfl
  | _, _, .cons a b => by rw [a, f2_map b]; rfl
theorem f2_get {α β : Type} {R : α → β → Prop} : ∀ {xs : List α} {ys : List β} {i : Nat} {y : β}, F2 R xs ys → ys[i]? = some y → ∃ x, xs[i]? = some x ∧ R x y
  | _, _, 0, _, .cons (x := x) a _, h => ⟨x, rfl, by cases h; exact a⟩
  | _, _, i + 1, _, .cons _ b, h => f2_get (i := i) b h
theorem f2_getl {α β : Type} {R : α → β → Prop} : ∀ {xs : List α} {ys : List β} {i : Nat} {x : α}, F2 R xs ys → xs[i]? = some x → ∃ y, ys[i]? = some y ∧ R x y
  | _, _, 0, _, .cons (y := y) a _, h => ⟨y, rfl, by cases h; exact a⟩
  | _, _, i + 1, _, .cons _ b, h => f2_getl (i := i) b h
section
variable {J : It} {n : Nat} {G : Hp → Prop} {Y : Nat → Hp → V → Hp → Prop} {g : TG} {tt : TT} {te : TE} {vs : List Nat} {σ : L2.St} {H1 : Hp} {D : Addr} {Qd : Hp → Prop}
/-- what a comprehension's rule asks for behind the new list -/
def LcGoal (J : It) (g : TG) (tt : TT) (te : TE) (vs : List Nat) (σ : L2.St) (H1 : Hp) (D : Addr) (Qd : Hp → Prop) : Prop :=
    ∃ W : Nat → Nat → Hp → Prop, (∃ m, W 0 m (upd H1 D (.lst []))) ∧ ∀ i m H, W i m H →
      (J.stop i H ∧ Qd H) ∨ (J.go i H ∧ ∃ Nx : Hp → Prop, (∀ H', Nx H' → ∃ m', m' < m ∧ W (i + 1) m' H') ∧ ∀ x H', J.yld i H x H' → g x (wipe σ vs) H' fun σ2 H2 => wipe σ2 vs = wipe σ vs ∧ tt σ2 H2 fun b H3 =>
        if b = true then te σ2 H3 fun y H4 => ∃ acc, H4 D = some (.lst acc) ∧ acc.length < sizeLine ∧ Nx (upd H4 D (.lst (acc ++ [y]))) else Nx H3)
/-- the items are told by R, under which nothing that is told is lost -/
theorem lcR (w : Walk J n G Y) (p : Nat → Bool) (R : Nat → V → Hp → Prop) (hR : ∀ i y H H', Same H H' → R i y H → R i y H') (hn : n ≤ 100000) (hD : H1 D = none) (hG : ∀ H, Same H1 H → G H)
    (hs : ∀ i x H H' (Nx : VK) (Nf : Hp → Prop), i < n → Same H1 H → H D ≠ none → Y i H x H' → (p i = true → ∀ y H4, Same H H4 → R i y (del H4 D) → Nx y H4) → (p i = false → ∀ H3, Same H H3 → Nf H3) →
      g x (wipe σ vs) H' fun σ2 H2 => wipe σ2 vs = wipe σ vs ∧ tt σ2 H2 fun b H3 => if b = true then te σ2 H3 Nx else Nf H3)
    (hd : ∀ H ys, Same H1 H → H D = some (.lst ys) → F2 (fun i y => R i y H) ((List.range n).filter p) ys → Qd H) : LcGoal J g tt te vs σ H1 D Qd := by
  refine lc_it w (fun i H => ∃ ys, Same H1 H ∧ H D = some (.lst ys) ∧ F2 (fun j y => R j y (del H D)) ((List.range i).filter p) ys)
    ⟨[], same_new hD, upd_same, .nil⟩ (fun i H _ ⟨_, s, _⟩ => hG H s) (fun i x H H' hi ⟨ys, s, e, f⟩ y => ?_) (fun H ⟨ys, s, e, f⟩ => hd H ys s e (f2_imp (fun a b k => hR _ _ _ _ del_same k) f))
  have hl : ys.length ≤ i := by
    rw [← f2_len f]
    exact Nat.le_trans (List.length_filter_le _ _) (by rw [List.length_range]; exact Nat.le_refl _)
  have up : ∀ {H4 : Hp}, Same H H4 → Same (del H D) (del H4 D) := fun s4 => same_del (del_same.trans s4) del_at
  have un : ∀ {H4 : Hp} {o : HO}, del (upd H4 D o) D = del H4 D := fun {H4 o} => by
    funext b
    by_cases h : b = D
    · rw [h, del_at, del_at]
    · rw [del_ne h, del_ne h, upd_ne h]
  refine hs i x H H' _ _ hi s (by rw [e]; exact fun z => nomatch z) y (fun hp v H4 s4 r => ⟨ys, s4 _ _ e, ?_, ys ++ [v], same_at (s.trans s4) hD, upd_same, ?_⟩) (fun hp H3 s3 => ⟨ys, s.trans s3, s3 _ _ e, ?_⟩)
  · exact Nat.lt_of_le_of_lt hl (Nat.lt_of_lt_of_le hi (line100 hn))
  · rw [List.range_succ, List.filter_append, un]
    have e1 : [i].filter p = [i] := by simp [hp]
    rw [e1]
    exact f2_snoc (f2_imp (fun a b k => hR _ _ _ _ (up s4) k) f) r
  · rw [List.range_succ, List.filter_append]
    have e1 : [i].filter p = [] := by simp [hp]
    rw [e1, List.append_nil]
    exact f2_imp (fun a b k => hR _ _ _ _ (up s3) k) f
/-- the items are values that stand in no heap, or stood before -/
theorem lcS (w : Walk J n G Y) (p : Nat → Bool) (f : Nat → V) (hn : n ≤ 100000) (hD : H1 D = none) (hG : ∀ H, Same H1 H → G H)
    (hs : ∀ i x H H' (Nx : VK) (Nf : Hp → Prop), i < n → Same H1 H → Y i H x H' → (p i = true → ∀ H4, Same H H4 → Nx (f i) H4) → (p i = false → ∀ H3, Same H H3 → Nf H3) →
      g x (wipe σ vs) H' fun σ2 H2 => wipe σ2 vs = wipe σ vs ∧ tt σ2 H2 fun b H3 => if b = true then te σ2 H3 Nx else Nf H3)
    (hd : ∀ H, Same H1 H → H D = some (.lst (((List.range n).filter p).map f)) → Qd H) : LcGoal J g tt te vs σ H1 D Qd :=
  lcR w p (fun i y _ => y = f i) (fun _ _ _ _ _ z => z) hn hD hG (fun i x H H' Nx Nf hi s _ y k1 k2 => hs i x H H' Nx Nf hi s y (fun hp H4 s4 => k1 hp _ H4 s4 rfl) k2) fun H ys s e f2 => hd H s (by rw [e, f2_map f2])
/-- without an if -/
theorem lcM (w : Walk J n G Y) (f : Nat → V) (hn : n ≤ 100000) (hD : H1 D = none) (hG : ∀ H, Same H1 H → G H)
    (hs : ∀ i x H H' (Nx : VK), i < n → Same H1 H → Y i H x H' → (∀ H4, Same H H4 → Nx (f i) H4) →
      g x (wipe σ vs) H' fun σ2 H2 => wipe σ2 vs = wipe σ vs ∧ te σ2 H2 Nx)
    (hd : ∀ H, Same H1 H → H D = some (.lst ((List.range n).map f)) → Qd H) : LcGoal J g tYes te vs σ H1 D Qd :=
  lcS w (fun _ => true) f hn hD hG (fun i x H H' Nx Nf hi s y k1 k2 => hs i x H H' Nx hi s y (k1 rfl)) fun H s e => hd H s (by rw [e, List.filter_eq_self.mpr fun _ _ => rfl])
end
end Nb
namespace Nb
open PySem
open L2 hiding del del_ne del_same
section
variable {J : It} {n : Nat} {G : Hp → Prop} {Y : Nat → Hp → V → Hp → Prop} {g : TG} {tt : TT} {tk tv : TE} {vs : List Nat} {σ : L2.St} {H1 : Hp} {D : Addr} {Qd : Hp → Prop}
/-- a dict comprehension without an if, whose keys are all different -/
theorem dcM (w : Walk J n G Y) (key : Nat → Key) (val : Nat → V) (diff : ∀ i j, i < j → j < n → key i ≠ key j) (hn : n ≤ 100000) (hD : H1 D = none) (hG : ∀ H, Same H1 H → G H)
    (hs : ∀ i x H H' (N : V → V → Hp → Prop), i < n → Same H1 H → Y i H x H' → (∀ H5, Same H H5 → N (kV (key i)) (val i) H5) → g x (wipe σ vs) H' fun σ2 H2 => wipe σ2 vs = wipe σ vs ∧ tk σ2 H2 fun y H4 => tv σ2 H4 fun z H5 => N y z H5)
    (hd : ∀ H, Same H1 H → H D = some (.dK ((List.range n).map fun i => (key i, val i))) → Qd H) :
    ∃ W : Nat → Nat → Hp → Prop, (∃ m, W 0 m (upd H1 D (.dK []))) ∧ ∀ i m H, W i m H →
      (J.stop i H ∧ Qd H) ∨ (J.go i H ∧ ∃ Nx : Hp → Prop, (∀ H', Nx H' → ∃ m', m' < m ∧ W (i + 1) m' H') ∧ ∀ x H', J.yld i H x H' → g x (wipe σ vs) H' fun σ2 H2 => wipe σ2 vs = wipe σ vs ∧ tYes σ2 H2 fun b H3 =>
        if b = true then tk σ2 H3 fun y H4 => tv σ2 H4 fun z H5 => ∃ kvs k, y = kV k ∧ H5 D = some (.dK kvs) ∧ kvs.length < sizeLine ∧ Nx (upd H5 D (.dK (putK kvs k z))) else Nx H3) := by
  have inv : ∀ i H, (Same H1 H ∧ H D = some (.dK ((List.range i).map fun i => (key i, val i)))) → Same H1 H := fun _ _ h => h.1
  refine ⟨fun i m H => m + i = n ∧ Same H1 H ∧ H D = some (.dK ((List.range i).map fun i => (key i, val i))), ⟨n, rfl, same_new hD, upd_same⟩, fun i m H ⟨em, s, e⟩ => ?_⟩
  by_cases hlt : i < n
  · refine .inr ⟨w.goes i H hlt (hG H s), fun H' => Same H1 H' ∧ H' D = some (.dK ((List.range (i + 1)).map fun i => (key i, val i))), fun H' p' => ⟨m - 1, by omega, by omega, p'⟩, fun x H' y => ?_⟩
    have z := hs i x H H' (fun y z H5 => ∃ kvs k, y = kV k ∧ H5 D = some (.dK kvs) ∧ kvs.length < sizeLine ∧ Same H1 (upd H5 D (.dK (putK kvs k z))) ∧ (upd H5 D (.dK (putK kvs k z))) D = some (.dK ((List.range (i + 1)).map fun i => (key i, val i)))) hlt s (w.yields i H x H' hlt (hG H s) y)
      (fun H5 s5 => ⟨_, key i, rfl, s5 _ _ e, ?_, same_at (s.trans s5) hD, ?_⟩)
    · exact z
    · rw [List.length_map, List.length_range]
      exact Nat.lt_of_lt_of_le hlt (line100 hn)
    · rw [upd_same]
      have v : valV ((List.range i).map fun i => (key i, val i)) (key i) = none := by
        unfold valV
        rw [Option.map_eq_none_iff, List.find?_eq_none]
        intro p hp
        obtain ⟨j, hj, rfl⟩ := List.mem_map.mp hp
        have := diff j i (List.mem_range.mp hj) hlt
        simpa using this
      rw [putK_new _ v, List.range_succ, List.map_append]
      rfl
  · have e2 : i = n := by omega
    subst e2
    exact .inl ⟨w.stops H (hG H s), hd H s e⟩
end
theorem range_getD {α : Type} (d : α) : ∀ ps : List α, (List.range ps.length).map (fun i => ps.getD i d) = ps := fun ps => by
  apply List.ext_getElem?
  intro i
  rw [List.getElem?_map]
  by_cases h : i < ps.length
  · rw [List.getElem?_range h]
    simp [h]
  · rw [List.getElem?_eq_none_iff.mpr (by rw [List.length_range]; omega), List.getElem?_eq_none_iff.mpr (by omega)]
    rfl
theorem filter_range {α : Type} (d : α) (q : α → Bool) (ps : List α) : ((List.range ps.length).filter fun i => q (ps.getD i d)).length = (ps.filter q).length := by
  conv => rhs; rw [← range_getD d ps]
  rw [List.filter_map, List.length_map]
  rfl
def tUp (t : TT) : TT := fun σ H Q => ∃ R : Bool → Hp → Prop, t σ H R ∧ ∀ b H, R b H → Q b H
theorem pt_up {X : Cx} {e : Expr} {t : TT} (h : PT X e t) : PT X e (tUp t) := ⟨fun pins s σ H _ I ⟨R, r, k⟩ => thn (h.run pins s σ H R I r) fun b s1 ⟨H1, I1, q⟩ => ⟨H1, I1, k b H1 q⟩⟩
theorem tUp_mono {t : TT} : ∀ σ H Q Q', (∀ b H1, Q b H1 → Q' b H1) → tUp t σ H Q → tUp t σ H Q' := fun _ _ _ _ k ⟨R, r, z⟩ => ⟨R, r, fun b H q => k b H (z b H q)⟩
end Nb

set_option Elab.async false
set_option linter.all false
set_option maxRecDepth 100000
/-! The places of names in rows. -/
namespace Nb
open PySem
theorem grow_mem (l : List Str) (x y : Str) : y ∈ grow l x ↔ y ∈ l ∨ y = x := by
  unfold grow
  split
  · rename_i h
    obtain ⟨z, hz, e⟩ := List.any_eq_true.mp h
    have : z = x := eq_of_beq e
    subst this
    constructor
    · exact .inl
    · rintro (k | rfl)
      · exact k
      · exact hz
  · simp
theorem foldl_grow_mem (y : Str) : ∀ (xs acc : List Str), y ∈ xs.foldl grow acc ↔ y ∈ acc ∨ y ∈ xs
  | [], acc => by simp
  | x :: xs, acc => by
    rw [List.foldl_cons, foldl_grow_mem y xs, grow_mem, List.mem_cons]
    constructor
    · rintro ((h | h) | h)
      · exact .inl h
      · exact .inr (.inl h)
      · exact .inr (.inr h)
    · rintro (h | h | h)
      · exact .inl (.inl h)
      · exact .inl (.inr h)
      · exact .inr h
theorem mem_seen {y : Str} {xs : List Str} : y ∈ seen xs ↔ y ∈ xs := by
  unfold seen
  rw [foldl_grow_mem]
  simp
theorem grow_nodup {l : List Str} (x : Str) (h : l.Nodup) : (grow l x).Nodup := by
  unfold grow
  split
  · exact h
  · rename_i k
    refine List.nodup_append.mpr ⟨h, by simp, fun a ha b hb e => ?_⟩
    have : b = x := by simpa using hb
    subst this
    subst e
    exact k (List.any_eq_true.mpr ⟨a, ha, by simp⟩)
theorem nodup_foldl : ∀ (xs acc : List Str), acc.Nodup → (xs.foldl grow acc).Nodup
  | [], _, h => h
  | x :: xs, acc, h => nodup_foldl xs _ (grow_nodup x h)
theorem nodup_seen (xs : List Str) : (seen xs).Nodup := nodup_foldl xs [] List.nodup_nil
namespace Mg
/-- each name with its row and its place there, row by row -/
def row3 (i : Nat) (r : List Str) : List (Str × Nat × Nat) := r.zipIdx.map fun p => (p.1, i, p.2)
def trips : Nat → List (List Str) → List (Str × Nat × Nat)
  | _, [] => []
  | i, r :: rs => row3 i r ++ trips (i + 1) rs
def pl (ts : List (Str × Nat × Nat)) (x : Str) : List (Nat × Nat) := (ts.filter fun t => t.1 == x).map (·.2)
def plc : Nat → List (List Str) → Str → List (Nat × Nat)
  | _, [], _ => []
  | k, r :: rs, x => (if x ∈ r then [(k, r.idxOf x)] else []) ++ plc (k + 1) rs x
theorem trips_take : ∀ (rows : List (List Str)) (k i : Nat) (r : List Str), rows[i]? = some r → trips k (rows.take (i + 1)) = trips k (rows.take i) ++ row3 (k + i) r
  | r0 :: rs, k, 0, r, e => by
    cases e
    simp [trips]
  | r0 :: rs, k, i + 1, r, e => by
    have ih := trips_take rs (k + 1) i r e
    rw [List.take_succ_cons, List.take_succ_cons]
    simp only [trips]
    rw [ih, List.append_assoc, show k + 1 + i = k + (i + 1) by omega]
  | [], _, _, _, e => by simp at e
theorem pl_app (a b : List (Str × Nat × Nat)) (x : Str) : pl (a ++ b) x = pl a x ++ pl b x := by
  unfold pl
  rw [List.filter_append, List.map_append]
theorem pl_row (k : Nat) (x : Str) : ∀ (r : List Str) (j : Nat), r.Nodup → pl ((r.zipIdx j).map fun p => (p.1, k, p.2)) x = if x ∈ r then [(k, j + r.idxOf x)] else []
  | [], j, _ => rfl
  | y :: r, j, nd => by
    have nd2 := List.nodup_cons.mp nd
    have ih := pl_row k x r (j + 1) nd2.2
    have e : pl ((((y :: r).zipIdx j)).map fun p => (p.1, k, p.2)) x = pl [(y, k, j)] x ++ pl ((r.zipIdx (j + 1)).map fun p => (p.1, k, p.2)) x := by
      rw [← pl_app]
      rfl
    rw [e, ih]
    by_cases h : y = x
    · subst h
      rw [if_neg nd2.1, if_pos (List.mem_cons_self ..)]
      simp [pl, List.idxOf_cons_self]
    · have h2 : (y == x) = false := by simpa using h
      have h3 : pl [(y, k, j)] x = [] := by simp [pl, h]
      rw [h3, List.nil_append]
      by_cases m : x ∈ r
      · rw [if_pos m, if_pos (List.mem_cons_of_mem _ m), List.idxOf_cons, h2]
        simp only [cond_false]
        rw [show j + 1 + r.idxOf x = j + (r.idxOf x + 1) by omega]
      · rw [if_neg m, if_neg (by simp [m, Ne.symm h])]
theorem pl_trips (x : Str) : ∀ (rows : List (List Str)) (k : Nat), (∀ r ∈ rows, r.Nodup) → pl (trips k rows) x = plc k rows x
  | [], _, _ => rfl
  | r :: rs, k, h => by
    simp only [trips, plc]
    rw [pl_app, pl_trips x rs (k + 1) fun r hr => h r (List.mem_cons_of_mem _ hr)]
    have := pl_row k x r 0 (h r (List.mem_cons_self ..))
    rw [Nat.zero_add] at this
    unfold row3
    rw [this]
theorem zip_fst : ∀ (r : List Str) (j : Nat), (r.zipIdx j).map (fun p => p.1) = r
  | [], _ => rfl
  | y :: r, j => congrArg (y :: ·) (zip_fst r (j + 1))
theorem names_trips : ∀ (rows : List (List Str)) (k : Nat), (trips k rows).map (·.1) = rows.flatten
  | [], _ => rfl
  | r :: rs, k => by
    simp only [trips, List.map_append, List.flatten_cons]
    rw [names_trips rs (k + 1)]
    have : (row3 k r).map (·.1) = r := by
      unfold row3
      rw [List.map_map]
      show (r.zipIdx).map (fun p => p.1) = r
      exact zip_fst r 0
    rw [this]
theorem mem_plc {x : Str} : ∀ (rows : List (List Str)) (k i a : Nat), (i, a) ∈ plc k rows x ↔ ∃ r, k ≤ i ∧ rows[i - k]? = some r ∧ x ∈ r ∧ a = r.idxOf x
  | [], k, i, a => by simp [plc]
  | r :: rs, k, i, a => by
    simp only [plc, List.mem_append]
    rw [mem_plc rs (k + 1) i a]
    constructor
    · rintro (h | ⟨r', l, e, m, z⟩)
      · split at h
        · rename_i m
          obtain ⟨rfl, rfl⟩ := Prod.mk.inj (by simpa using h)
          exact ⟨r, Nat.le_refl _, by simp, m, rfl⟩
        · cases h
      · refine ⟨r', by omega, ?_, m, z⟩
        rw [show i - k = (i - (k + 1)) + 1 by omega]
        exact e
    · rintro ⟨r', l, e, m, z⟩
      by_cases q : i = k
      · subst q
        rw [Nat.sub_self] at e
        cases e
        subst z
        left
        rw [if_pos m]
        simp
      · right
        refine ⟨r', by omega, ?_, m, z⟩
        rw [show i - k = (i - (k + 1)) + 1 by omega] at e
        exact e
theorem plc_head {x : Str} : ∀ (rows : List (List Str)) (k : Nat), x ∈ rows.flatten → ∃ a tl, plc k rows x = (k + first rows x, a) :: tl
  | [], _, h => by simp at h
  | r :: rs, k, h => by
    by_cases m : x ∈ r
    · refine ⟨r.idxOf x, plc (k + 1) rs x, ?_⟩
      simp only [plc]
      rw [if_pos m]
      have : first (r :: rs) x = 0 := by simp [first, List.findIdx_cons, m]
      rw [this]
      rfl
    · have hm : x ∈ rs.flatten := by
        rw [List.flatten_cons, List.mem_append] at h
        exact h.resolve_left m
      obtain ⟨a, tl, e⟩ := plc_head rs (k + 1) hm
      refine ⟨a, tl, ?_⟩
      simp only [plc]
      rw [if_neg m, List.nil_append, e]
      have : first (r :: rs) x = first rs x + 1 := by simp [first, List.findIdx_cons, m]
      rw [this, show k + 1 + first rs x = k + (first rs x + 1) by omega]
theorem plc_rise {x : Str} : ∀ (rows : List (List Str)) (k : Nat), (plc k rows x).Pairwise fun p q => p.1 < q.1
  | [], _ => .nil
  | r :: rs, k => by
    simp only [plc]
    refine List.pairwise_append.mpr ⟨?_, plc_rise rs (k + 1), fun p hp q hq => ?_⟩
    · split <;> simp
    · obtain ⟨i, a⟩ := q
      obtain ⟨_, l, _⟩ := (mem_plc rs (k + 1) i a).mp hq
      split at hp
      · have : p = (k, r.idxOf x) := by simpa using hp
        rw [this]
        show k < i
        omega
      · cases hp
theorem plc_behind {x : Str} : ∀ (rows : List (List Str)) (k : Nat), ((plc k rows x).filter fun p => decide (0 < p.2)).length = behN rows (List.replicate rows.length 0) x
  | [], _ => rfl
  | r :: rs, k => by
    simp only [plc, List.filter_append, List.length_append, List.length_cons, List.replicate_succ, behN]
    rw [plc_behind rs (k + 1)]
    congr 1
    by_cases m : x ∈ r
    · rw [if_pos m]
      by_cases z : 0 < r.idxOf x
      · simp [m, z]
      · simp [m, z]
    · rw [if_neg m]
      simp [m]
theorem plc_few : ∀ (rows : List (List Str)) (k : Nat) (x : Str), (plc k rows x).length ≤ rows.length
  | [], _, _ => Nat.le_refl _
  | r :: rs, k, x => by
    simp only [plc, List.length_append, List.length_cons]
    have := plc_few rs (k + 1) x
    split
    · simp
      omega
    · simp
      omega
/-- at the beginning every row's first name is its head -/
theorem inv_begin {rows : List (List Str)} {rdy : Nat} (nd : ∀ r ∈ rows, r.Nodup)
    (rd : ∀ j, rdy.testBit j = true ↔ ∃ x, x ∈ rows.flatten ∧ behN rows (List.replicate rows.length 0) x = 0 ∧ first rows x = j) : Inv rows [] (List.replicate rows.length 0) rdy none fun _ => False := by
  have z : ∀ (i : Nat) (h : Nat), (List.replicate rows.length 0)[i]? = some h → h = 0 := fun i h e => by
    rw [List.getElem?_replicate] at e
    split at e
    · cases e; rfl
    · cases e
  refine ⟨List.length_replicate, nd, fun i r h e1 e2 => ?_, fun i r h e1 e2 j y l => ?_, fun i r h e1 e2 y ey g => (nomatch g), fun j => ?_⟩
  · rw [z i h e2]
    exact Nat.zero_le _
  · rw [z i h e2] at l
    omega
  · rw [rd j]
    constructor
    · rintro ⟨x, a, b, c⟩
      exact ⟨x, by simp, a, b, c⟩
    · rintro ⟨x, _, a, b, c⟩
      exact ⟨x, a, b, c⟩
end Mg
end Nb

set_option Elab.async false
set_option linter.all false
set_option maxRecDepth 100000
set_option maxHeartbeats 4000000
/-! Classes, their methods, and defs with a star, each with all that a caller must know. -/
namespace Nb
open PySem PySem.Spec PyProof.Rows
open L2 hiding del del_ne del_same
/-- a class of the text: the names of its instances' attributes are no names of the class -/
structure Kl (K : PySem.W.Frag) (mg : Str → Option Value) (x : Str) (C : Addr) (fs : List Str) : Prop where
  cl : Cls K C
  g : mg x = some (.ref C)
  no : ∀ f ∈ fs, NoAttr K C f
structure Mn (P : Program) (w : World) (K : PySem.W.Frag) (mg : Str → Option Value) (base : Heap) (CX : CXT) (k : Nat) (C : Addr) (m : Str) (ps : List Str) (sp : Sp) : Prop where
  ex : ∃ (f : Addr) (fd : FuncData), Meth K C m f ∧ Binds K fd ps [] ∧ FnOk P w K mg base CX k f fd ps sp
/-- a class's own __init__ -/
structure Mi (P : Program) (w : World) (K : PySem.W.Frag) (mg : Str → Option Value) (base : Heap) (CX : CXT) (k : Nat) (C : Addr) (ps : List Str) (sp : Sp) : Prop where
  ex : ∃ (f : Addr) (fd : FuncData), Mk K C f ∧ Binds K fd ps [] ∧ FnOk P w K mg base CX k f fd ps sp
/-- a def with a star: its promise is of the positional arguments -/
structure Dr (P : Program) (w : World) (K : PySem.W.Frag) (mg : Str → Option Value) (base : Heap) (CX : CXT) (k : Nat) (x : Str) (sp : Sp) : Prop where
  ex : ∃ f : Addr, PySem.W.keepIn K (.ref f) = true ∧ mg x = some (.ref f) ∧ FnR P w K mg base CX k f sp
section
variable {X : Cx} {CX : CXT} {k : Nat} {ps : List Str} {sp : Sp} {E : XK} {W : L2.St → XK} {x m : Str} {p pos apos : Pos} {o e : Expr} {es : List Expr} {ta : TE} {t : TA} {C : Addr}
theorem pe_M {pl : Sem Bool} (D : Mn X.prog X.w X.K X.mg X.base CX k C m ps sp) (c : Cls X.K C) (he : PE X o ta) (hr : Room k X.A) (hx : Passes CX X E) (ha : PA X (e :: es) t)
    (hst : starEach (e :: es) X.env = (false, eval e X.env) :: starEach es X.env := by rfl) (hpl : (backTo pos (starEach es X.env)).any (·.1) = false := by rfl)
    (ht : eval (.Call (.Attribute o m apos) (e :: es) [] pos) X.env = (do
      let ov ← eval o X.env
      standAt apos.atName
      let (f, first) ← holding [ov] (getMethod ov m pl)
      callWith pos f first (backTo pos (starEach (e :: es) X.env)) (backToKw pos (keywordEach [] X.env))) := by rfl) : PE X (.Call (.Attribute o m apos) (e :: es) [] pos) (tMeth C m sp [] E ta t) :=
  let ⟨_, _, M, b, F⟩ := D.ex
  pe_meth he c M F hr b .nil hx ha hst hpl ht
theorem pe_M0 {pl : Sem Bool} (D : Mn X.prog X.w X.K X.mg X.base CX k C m ps sp) (c : Cls X.K C) (he : PE X o ta) (hr : Room k X.A) (hx : Passes CX X E)
    (ht : eval (.Call (.Attribute o m apos) [] [] pos) X.env = (do
      let ov ← eval o X.env
      standAt apos.atName
      let (f, first) ← holding [ov] (getMethod ov m pl)
      callWith pos f first (backTo pos (starEach [] X.env)) (backToKw pos (keywordEach [] X.env))) := by rfl) : PE X (.Call (.Attribute o m apos) [] [] pos) (tMeth C m sp [] E ta tNil) :=
  let ⟨_, _, M, b, F⟩ := D.ex
  pe_meth0 he c M F hr b .nil hx ht
theorem pe_Mi (D : Mi X.prog X.w X.K X.mg X.base CX k C ps sp) (hr : Room (k + 1) X.A) (hg : Gl X x) (hm : X.mg x = some (.ref C)) (hx : Passes CX X E) (ha : PA X (e :: es) t)
    (hdb : (x == ("__debug__" : Str)) = false := by decide) (he : starEach (e :: es) X.env = (false, eval e X.env) :: starEach es X.env := by rfl) (hpl : (backTo pos (starEach es X.env)).any (·.1) = false := by rfl) : PE X (.Call (.Name x p) (e :: es) [] pos) (tMake C sp [] E t) :=
  let ⟨_, _, M, b, F⟩ := D.ex
  pe_make M F hr hg hm b .nil hx ha hdb he hpl
theorem pe_Mi0 (D : Mi X.prog X.w X.K X.mg X.base CX k C ps sp) (hr : Room (k + 1) X.A) (hg : Gl X x) (hm : X.mg x = some (.ref C)) (hx : Passes CX X E) (hdb : (x == ("__debug__" : Str)) = false := by decide) : PE X (.Call (.Name x p) [] [] pos) (tMake C sp [] E tNil) :=
  let ⟨_, _, M, b, F⟩ := D.ex
  pe_make0 M F hr hg hm b .nil hx hdb
def tR (sp : Sp) (E : XK) (t : TA) : TE := fun σ H Q => t σ H fun vs H1 => sp vs H1 Q E
theorem pe_R (D : Dr X.prog X.w X.K X.mg X.base CX k x sp) (hr : Room k X.A) (hg : Gl X x) (hx : Passes CX X E) (ha : PA X (e :: es) t)
    (hdb : (x == ("__debug__" : Str)) = false := by decide) (he : starEach (e :: es) X.env = (false, eval e X.env) :: starEach es X.env := by rfl) (hpl : (backTo pos (starEach es X.env)).any (·.1) = false := by rfl) : PE X (.Call (.Name x p) (e :: es) [] pos) (tR sp E t) := by
  obtain ⟨f, kp, g, F⟩ := D.ex
  exact ⟨fun pins s σ H Q I h => wpAny_Call_Name_kw (ld_glob I hg g (PySem.W.callWith_K (h₀ := X.base) I.ok.mod.kin kp (thn (ha.run pos pins s σ H _ I h) fun us s1 ⟨vs, H1, I1, r, q⟩ => ⟨I1.kIn, wpAny_call (run_fnR F hr hx I1 r q)⟩) he hpl) hdb)⟩
theorem pe_R0 (D : Dr X.prog X.w X.K X.mg X.base CX k x sp) (hr : Room k X.A) (hg : Gl X x) (hx : Passes CX X E) (hdb : (x == ("__debug__" : Str)) = false := by decide) : PE X (.Call (.Name x p) [] [] pos) (tR sp E tNil) := by
  obtain ⟨f, kp, g, F⟩ := D.ex
  exact ⟨fun pins s σ H Q I h => wpAny_Call_Name_kw (ld_glob I hg g (PySem.W.callWith_K0 I.kIn kp (wpAny_call (run_fnR F hr hx I .nil h))) hdb)⟩
theorem pe_Rs {sq : Pos} (D : Dr X.prog X.w X.K X.mg X.base CX k x sp) (hr : Room k X.A) (hg : Gl X x) (hx : Passes CX X E) (he : PE X e ta) (hdb : (x == ("__debug__" : Str)) = false := by decide) (hst : starEach [.Starred e sq] X.env = [(true, eval e X.env)] := by rfl) :
    PE X (.Call (.Name x p) [.Starred e sq] [] pos) (fun σ H Q => ta σ H fun y H1 => ∃ a xs, y = V.ref a ∧ (SqT X.K H1 a xs ∨ SqL X.K H1 a xs) ∧ sp xs H1 Q E) :=
  let ⟨_, kp, g, F⟩ := D.ex
  StX.pe_callS1 F hr kp hg g hx he hdb hst
/-- a def that is never called needs no promise -/
theorem fn_never {P : Program} {w : World} {K : PySem.W.Frag} {mg : Str → Option Value} {base : Heap} {f : Addr} {fd : FuncData} : FnOk P w K mg base CX k f fd ps fun _ _ _ _ => False := ⟨fun _ _ _ _ h => h.elim, fun _ _ _ _ _ _ _ _ _ _ _ _ _ h => h.elim⟩
end
/-! ### an instance whose attributes are told in the order of their first store -/
theorem ins_put {H : Hp} {a C dx : Addr} {fs : List (Str × V)} : upd H a (.ins C dx fs) a = some (.ins C dx fs) := upd_same
end Nb
namespace Nb
open PySem
open L2 hiding del del_ne del_same
/-- e.f within a comprehension: the written part is named -/
theorem pe_fldK {X : Cx} {K : PySem.W.Frag} {e : Expr} {f : Str} {pos : Pos} {ta : TE} (hK : X.K = K) (he : PE X e ta) (hb : attributeBase e f X.env (eval e X.env) = eval e X.env) : PE X (.Attribute e f pos) (tFld K ta f) := by
  subst hK
  exact pe_fld he hb
/-- len(x) within a comprehension: the written part is named -/
theorem call_len_seqK {X : Cx} {K : PySem.W.Frag} (hK : X.K = K) : CallR X (.builtin "len") (fun xs H Q => ∃ p ys, xs = [.ref p] ∧ (SqL K H p ys ∨ SqT K H p ys) ∧ Q (.int ys.length) H) := by
  subst hK
  exact call_len_seq
def spStar (sp : Sp) : Sp := fun vs H Q E => vs.length ≤ 100000 ∧ ∀ p, H p = none → sp [.ref p] (upd H p (.tup vs)) Q E
/-- a def with a star and nothing else, by its body -/
theorem okStar {P : Program} {w : World} {K : PySem.W.Frag} {mg : Str → Option Value} {base : Heap} {x qual pv : Str} {st : Stmt} {f : Addr} {fd : FuncData} {N : List Str} {k : Nat} {sp : Sp} (F : Fun K x qual st f fd) (S : FnScope N [pv] (defScope st))
    (hb0 : ∀ (kV doc pm : Value) (an : Option Addr) (cdv ct : Value), bindArgs (PySem.W.fnOf x qual (defArgs st) (defBody st) (defScope st) .none kV doc pm an cdv ct) ⟨[], []⟩ = (newTuple [] >>= fun t => pure [(pv, t)]))
    (hb1 : ∀ (kV doc pm : Value) (an : Option Addr) (cdv ct : Value) (r : Value) (rs : List Value), bindArgs (PySem.W.fnOf x qual (defArgs st) (defBody st) (defScope st) .none kV doc pm an cdv ct) ⟨r :: rs, []⟩ = (newTuple (r :: rs) >>= fun t => pure [(pv, t)]))
    (hbody : ∀ (cdv : Value) (A : Around) (outer : List Env) (s : Shared) (H : Hp) (vs : List V) (Q : VK) (E : XK), Room k (A.deeper (PyProof.Rows.envOfC qual (defScope st) s.heap.objs.size f cdv)) → sp vs H Q E →
      ∃ t, PSs (cxOf CX0 P w K mg base N qual (defScope st) f cdv A outer s H E).nox (defBody st) t ∧ t { nx := fun _ H' => Q .non H', rt := Q } (start N vs) H) : FnR P w K mg base CX0 (k + 1) f (spStar sp) := by
  obtain ⟨oc, od, kV, doc, pm, an, cdv, ct, osl, rfl, lk, hcd⟩ := F.ex
  refine (StX.fn_star (ps := []) (sp := sp) lk hcd S StX.cxUp_none (fun us rest hl => ?_) (fun A outer s H vs Q E hr h => ?_)).imp fun vs H Q E h => ⟨[], vs, rfl, rfl, line100 h.1, fun p np => h.2 p np⟩
  · cases us with
    | cons a as => cases hl
    | nil =>
      cases rest with
      | nil => exact hb0 kV doc pm an cdv ct
      | cons r rs => exact hb1 kV doc pm an cdv ct r rs
  · obtain ⟨t, h, q⟩ := hbody cdv A outer s H vs Q E hr h
    exact ⟨t, h.nox, q⟩
end Nb

set_option Elab.async false
set_option linter.all false
set_option maxRecDepth 100000
set_option maxHeartbeats 4000000
/-! The lowest bit of a number, and its rules. -/
namespace Nb
open PySem PySem.Spec PyProof.Rows
open L2 hiding del del_ne del_same
theorem low_form : ∀ r : Nat, r ≠ 0 → ∃ k a, r = 2 ^ k * (2 * a + 1) := by
  intro r
  induction r using Nat.strongRecOn with
  | ind r ih =>
    intro h
    by_cases p : r % 2 = 1
    · exact ⟨0, r / 2, by simp; omega⟩
    · obtain ⟨k, a, e⟩ := ih (r / 2) (by omega) (by omega)
      refine ⟨k + 1, a, ?_⟩
      rw [Nat.pow_succ, Nat.mul_comm (2 ^ k) 2, Nat.mul_assoc, ← e]
      omega
theorem low_bits (k a j : Nat) : (2 ^ k * (2 * a + 1)).testBit j = (decide (k ≤ j) && (2 * a + 1).testBit (j - k)) := by
  rw [Nat.mul_comm, Nat.testBit_mul_two_pow]
theorem low_clear (k a j : Nat) : ((2 ^ k * (2 * a + 1)) &&& (2 ^ k * (2 * a + 1) - 1)).testBit j = (decide (j ≠ k) && (2 ^ k * (2 * a + 1)).testBit j) := by
  have p := Nat.two_pow_pos k
  have e : 2 ^ k * (2 * a + 1) - 1 = 2 ^ k * (2 * a) + (2 ^ k - 1) := by
    rw [Nat.mul_add, Nat.mul_one]
    omega
  rw [Nat.testBit_and, e, Nat.testBit_two_pow_mul_add _ (by omega), low_bits]
  by_cases h : j < k
  · rw [if_pos h]
    have : ¬ k ≤ j := by omega
    simp [this]
  · rw [if_neg h]
    have h2 : k ≤ j := by omega
    by_cases h3 : j = k
    · subst h3
      simp
    · obtain ⟨m, e2⟩ : ∃ m, j - k = m + 1 := ⟨j - k - 1, by omega⟩
      rw [e2, Nat.testBit_succ, Nat.testBit_succ, show (2 * a + 1) / 2 = a by omega, show 2 * a / 2 = a by omega]
      simp [h2, h3]
/-- the lowest bit of r: where it is, and r without it -/
theorem low_of (r : Nat) (h : r ≠ 0) : ∃ k r' : Nat, r.testBit k = true ∧ (∀ j, j < k → r.testBit j = false) ∧ Builtin.bitAnd (r : Int) (-(r : Int)) = 2 ^ k ∧ Builtin.bitAnd (r : Int) ((r : Int) - 1) = (r' : Int) ∧ ∀ j, r'.testBit j = (decide (j ≠ k) && r.testBit j) := by
  obtain ⟨k, a, e⟩ := low_form r h
  have pos : 0 < 2 ^ k * (2 * a + 1) := Nat.mul_pos (Nat.two_pow_pos k) (by omega)
  refine ⟨k, r &&& (r - 1), ?_, fun j hj => ?_, ?_, ?_, fun j => ?_⟩
  · rw [e, low_bits]
    simp
  · rw [e, low_bits]
    have : ¬ k ≤ j := by omega
    simp [this]
  · have c : (r : Int) = 2 ^ k * (2 * (a : Int) + 1) := by
      rw [e, ← PySem.W.kbt_cast]
      push_cast
      rfl
    rw [c]
    exact PySem.W.kbt_low k a
  · have c : (r : Int) - 1 = ((r - 1 : Nat) : Int) := by omega
    rw [c]
    exact PySem.W.os_band r (r - 1)
  · rw [e]
    exact low_clear k a j
theorem bits_pow (k : Nat) : Builtin.Int.intBits ((2 : Int) ^ k) = k + 1 := by
  rw [← PySem.W.kbt_cast]
  unfold Builtin.Int.intBits
  have p := Nat.two_pow_pos k
  have nz : ¬ (((2 ^ k : Nat) : Int) == 0) = true := by
    rw [beq_iff_eq]
    exact_mod_cast Nat.ne_of_gt p
  rw [if_neg nz, Int.natAbs_natCast, Nat.log2_two_pow]
theorem or_nat (a b : Nat) : Builtin.bitOr (a : Int) (b : Int) = ((a ||| b : Nat) : Int) := by
  rw [bitOr_nn (Int.natCast_nonneg a) (Int.natCast_nonneg b), Int.toNat_natCast, Int.toNat_natCast]
section
variable {X : Cx}
theorem in_andI : InOp X .BitAnd (fun x y H Q => ∃ i j, x = .int i ∧ y = .int j ∧ Q (.int (Builtin.bitAnd i j)) H) := by
  rintro pins s σ H x y u v Q I rx ry ⟨i, j, rfl, rfl, q⟩
  obtain ⟨t, rfl⟩ := (show ∃ t, u = Value.int i t from rx)
  obtain ⟨t', rfl⟩ := (show ∃ t', v = Value.int j t' from ry)
  exact PyProof.Rows.iand_int ⟨.int _, H, I.tok _, ⟨_, rfl⟩, q⟩
theorem in_orI : InOp X .BitOr (fun x y H Q => ∃ i j, x = .int i ∧ y = .int j ∧ Q (.int (Builtin.bitOr i j)) H) := by
  rintro pins s σ H x y u v Q I rx ry ⟨i, j, rfl, rfl, q⟩
  obtain ⟨t, rfl⟩ := (show ∃ t, u = Value.int i t from rx)
  obtain ⟨t', rfl⟩ := (show ∃ t', v = Value.int j t' from ry)
  exact PyProof.Rows.ior_int ⟨.int _, H, I.tok _, ⟨_, rfl⟩, q⟩
end
end Nb

set_option Elab.async false
set_option linter.all false
set_option maxRecDepth 100000
set_option maxHeartbeats 4000000
/-! A merge that is under way, in the heap. -/
namespace Nb
open PySem
open L2 hiding del del_ne del_same
abbrev Rows := List (List Str)
def names (rows : Rows) : List Str := seen rows.flatten
theorem mem_names {rows : Rows} {x : Str} : x ∈ names rows ↔ x ∈ rows.flatten := mem_seen
/-- rows that are not too long -/
structure Fit (rows : Rows) : Prop where
  nd : ∀ r ∈ rows, r.Nodup
  few : rows.length ≤ 1000
  all : rows.flatten.length ≤ 100000
theorem Fit.row {rows : Rows} (h : Fit rows) {r : List Str} (hr : r ∈ rows) : r.length ≤ 100000 := by
  refine Nat.le_trans ?_ h.all
  obtain ⟨a, b, e⟩ := List.append_of_mem hr
  rw [e, List.flatten_append, List.flatten_cons, List.length_append, List.length_append]
  omega
theorem seen_len (xs : List Str) : (seen xs).length ≤ xs.length := seen_le xs
/-- the places of the names of a list of triples: D the dict, L x the list of x -/
structure Pl (H : Hp) (D : Addr) (L : Str → Addr) (ts : List (Str × Nat × Nat)) : Prop where
  d : Rd H D (.dK ((seen (ts.map (·.1))).map fun x => ((Sum.inr x : Key), V.ref (L x))))
  l : ∀ x ∈ ts.map (·.1), ∃ as : List Addr, H (L x) = some (.lst (as.map V.ref)) ∧ F2 (fun a (p : Nat × Nat) => H a = some (.tup [.int p.1, .int p.2])) as (Mg.pl ts x)
theorem f2_same {H H' : Hp} (s : Same H H') {as : List Addr} {ps : List (Nat × Nat)} (h : F2 (fun a (p : Nat × Nat) => H a = some (.tup [.int p.1, .int p.2])) as ps) : F2 (fun a (p : Nat × Nat) => H' a = some (.tup [.int p.1, .int p.2])) as ps := f2_imp (fun _ _ k => s _ _ k) h
theorem pl_same {H H' : Hp} {D : Addr} {L : Str → Addr} {ts : List (Str × Nat × Nat)} (s : Same H H') (h : Pl H D L ts) : Pl H' D L ts := ⟨rd_same s h.d, fun x hx => let ⟨as, e, f⟩ := h.l x hx; ⟨as, s _ _ e, f2_same s f⟩⟩
theorem val_map {L : Str → Addr} {x : Str} : ∀ {xs : List Str}, valV (xs.map fun x => ((Sum.inr x : Key), V.ref (L x))) (Sum.inr x) = if x ∈ xs then some (.ref (L x)) else none
  | [] => rfl
  | y :: ys => by
    have ih := val_map (L := L) (x := x) (xs := ys)
    by_cases h : y = x
    · subst h
      rw [if_pos (List.mem_cons_self ..)]
      simp [valV]
    · have e : valV (((Sum.inr y : Key), V.ref (L y)) :: ys.map fun x => ((Sum.inr x : Key), V.ref (L x))) (Sum.inr x) = valV (ys.map fun x => ((Sum.inr x : Key), V.ref (L x))) (Sum.inr x) := by
        simp [valV, h]
      rw [List.map_cons, e, ih]
      by_cases m : x ∈ ys
      · rw [if_pos m, if_pos (List.mem_cons_of_mem _ m)]
      · rw [if_neg m, if_neg (by simp [m, Ne.symm h])]
/-- what stands still of a merge: the rows, the places -/
structure MgF (F : Hp) (T P : Addr) (rows : Rows) (L : Str → Addr) : Prop where
  fit : Fit rows
  at_ : RowsAt F T rows
  pl : Pl F P L (Mg.trips 0 rows)
theorem mgF_same {F F' : Hp} {T P : Addr} {rows : Rows} {L : Str → Addr} (s : Same F F') (h : MgF F T P rows L) : MgF F' T P rows L := ⟨h.fit, rows_same s h.at_, pl_same s h.pl⟩
abbrev flds (T P g hd b : Addr) (rdy : Nat) : List (Str × V) := [("rows", .ref T), ("places", .ref P), ("gone", .ref g), ("heads", .ref hd), ("behind", .ref b), ("ready", .int rdy)]
/-- what is changed of a merge -/
structure MgS (C m T P g hd b : Addr) (rows : Rows) (F H : Hp) (gone : List Str) (hs : List Nat) (rdy : Nat) : Prop where
  same : Same F H
  off : F m = none ∧ F g = none ∧ F hd = none ∧ F b = none
  gb : g ≠ b
  obj : ∃ dx, H m = some (.ins C dx (flds T P g hd b rdy))
  hg : H g = some (.dK (gone.map fun x => ((Sum.inr x : Key), V.bl true)))
  hh : H hd = some (.lst (hs.map fun n => V.int (n : Nat)))
  hb : ∃ bs : List (Key × V), H b = some (.dK bs) ∧ bs.length ≤ 100000 ∧ ∀ x ∈ names rows, ∃ n : Int, valV bs (Sum.inr x) = some (.int n) ∧ (x ∉ gone → n = (Mg.behN rows hs x : Nat))
def spPrepare (C : Addr) : Sp := fun vs H Q _ => ∃ (m T P g hd b : Addr) (rows : Rows) (F : Hp) (L : Str → Addr) (gone : List Str) (hs : List Nat) (rdy : Nat) (x : Str), vs = [.ref m, .str x] ∧ MgF F T P rows L ∧ MgS C m T P g hd b rows F H gone hs rdy ∧ x ∈ names rows ∧ x ∉ gone ∧
  ∀ H', MgS C m T P g hd b rows F H' gone hs (Mg.bits rows hs rdy (some x)) → Q .non H'
def spAdvance (C : Addr) : Sp := fun vs H Q _ => ∃ (m T P g hd b : Addr) (rows : Rows) (F : Hp) (L : Str → Addr) (gone : List Str) (hs : List Nat) (rdy : Nat) (x : Str) (i : Nat) (r : List Str) (h : Nat) (pd : Nat → Prop), vs = [.ref m, .int i] ∧ MgF F T P rows L ∧ MgS C m T P g hd b rows F H gone hs rdy ∧
  Mg.Inv rows gone hs rdy (some x) pd ∧ rows[i]? = some r ∧ hs[i]? = some h ∧ r[h]? = some x ∧ x ∈ gone ∧
  ∀ H' hs' rdy', MgS C m T P g hd b rows F H' gone hs' rdy' → Mg.Inv rows gone hs' rdy' (some x) (fun k => pd k ∧ k ≠ i) → (∀ k, k ≠ i → hs'[k]? = hs[k]?) → Q .non H'
def spDrop (C : Addr) : Sp := fun vs H Q _ => ∃ (m T P g hd b : Addr) (rows : Rows) (F : Hp) (L : Str → Addr) (gone : List Str) (hs : List Nat) (rdy : Nat) (x : Str), vs = [.ref m, .str x] ∧ MgF F T P rows L ∧ MgS C m T P g hd b rows F H gone hs rdy ∧ x ∈ names rows ∧ x ∉ gone ∧ gone.length ≤ 100000 ∧
  Mg.Inv rows (gone ++ [x]) hs rdy (some x) (fun i => ∃ r h, rows[i]? = some r ∧ hs[i]? = some h ∧ r[h]? = some x) ∧
  ∀ H' hs' rdy', MgS C m T P g hd b rows F H' (gone ++ [x]) hs' rdy' → Mg.Inv rows (gone ++ [x]) hs' rdy' none (fun _ => False) → Q .non H'
end Nb
namespace Nb
open PySem
open L2 hiding del del_ne del_same
section
variable {C m T P g hd b : Addr} {rows : Rows} {F H : Hp} {gone : List Str} {hs : List Nat} {rdy : Nat}
theorem flds_put (n : Nat) : putF "ready" (.int n) (flds T P g hd b rdy) = flds T P g hd b n := by rfl
theorem MgS.nes (S : MgS C m T P g hd b rows F H gone hs rdy) : m ≠ g ∧ m ≠ hd ∧ m ≠ b ∧ g ≠ hd ∧ hd ≠ b := by
  obtain ⟨dx, e1⟩ := S.obj
  obtain ⟨bs, e4, _⟩ := S.hb
  exact ⟨ne_of e1 S.hg (by intro z; cases z), ne_of e1 S.hh (by intro z; cases z), ne_of e1 e4 (by intro z; cases z), ne_of S.hg S.hh (by intro z; cases z), ne_of S.hh e4 (by intro z; cases z)⟩
theorem MgS.ready (S : MgS C m T P g hd b rows F H gone hs rdy) {dx : Addr} (n : Nat) : MgS C m T P g hd b rows F (upd H m (.ins C dx (putF "ready" (.int n) (flds T P g hd b rdy)))) gone hs n := by
  obtain ⟨n1, n2, n3, _, _⟩ := S.nes
  obtain ⟨bs, e4, k⟩ := S.hb
  exact ⟨same_at S.same S.off.1, S.off, S.gb, ⟨dx, by rw [upd_same, flds_put]⟩, by rw [upd_ne (Ne.symm n1)]; exact S.hg, by rw [upd_ne (Ne.symm n2)]; exact S.hh, bs, by rw [upd_ne (Ne.symm n3)]; exact e4, k⟩
theorem ixN_at {n j : Nat} (h : j < n) : ixN n (j : Int) = some j := by
  unfold ixN
  rw [if_pos (Int.natCast_nonneg j), if_pos (by omega), Int.toNat_natCast]
theorem putK_old {kvs : List (Key × V)} {k : Key} {v w : V} (h : valV kvs k = some w) : (putK kvs k v).length = kvs.length := by
  unfold putK
  rw [if_pos (by rw [valV_any, h]; rfl), List.length_map]
theorem val_gone {x : Str} : ∀ {xs : List Str}, valV (xs.map fun x => ((Sum.inr x : Key), V.bl true)) (Sum.inr x) = if x ∈ xs then some (.bl true) else none
  | [] => rfl
  | y :: ys => by
    have ih := val_gone (x := x) (xs := ys)
    by_cases h : y = x
    · subst h
      rw [if_pos (List.mem_cons_self ..)]
      simp [valV]
    · have e : valV (((Sum.inr y : Key), V.bl true) :: ys.map fun x => ((Sum.inr x : Key), V.bl true)) (Sum.inr x) = valV (ys.map fun x => ((Sum.inr x : Key), V.bl true)) (Sum.inr x) := by
        simp [valV, h]
      rw [List.map_cons, e, ih]
      by_cases m : x ∈ ys
      · rw [if_pos m, if_pos (List.mem_cons_of_mem _ m)]
      · rw [if_neg m, if_neg (by simp [m, Ne.symm h])]
/-- the heads stored anew, where nobody's number changes -/
theorem MgS.heads (S : MgS C m T P g hd b rows F H gone hs rdy) (hs' : List Nat) (k : ∀ x, x ∉ gone → Mg.behN rows hs' x = Mg.behN rows hs x) : MgS C m T P g hd b rows F (upd H hd (.lst (hs'.map fun n => V.int (n : Nat)))) gone hs' rdy := by
  obtain ⟨_, n2, _, n4, n5⟩ := S.nes
  obtain ⟨dx, e1⟩ := S.obj
  obtain ⟨bs, e4, l4, k4⟩ := S.hb
  exact ⟨same_at S.same S.off.2.2.1, S.off, S.gb, ⟨dx, by rw [upd_ne n2]; exact e1⟩, by rw [upd_ne n4]; exact S.hg, upd_same, bs, by rw [upd_ne (Ne.symm n5)]; exact e4, l4, fun x hx =>
    let ⟨n, v, z⟩ := k4 x hx
    ⟨n, v, fun gx => by rw [k x gx]; exact z gx⟩⟩
/-- the heads stored anew, and the number of the one that became a head -/
theorem MgS.moved (S : MgS C m T P g hd b rows F H gone hs rdy) (hs' : List Nat) (y : Str) (bs : List (Key × V)) (n : Int) (e : H b = some (.dK bs)) (l : bs.length ≤ 100000) (v : valV bs (Sum.inr y) = some (.int n)) (my : y ∈ names rows) (gy : y ∉ gone)
    (kb : ∀ x ∈ names rows, ∃ n : Int, valV bs (Sum.inr x) = some (.int n) ∧ (x ∉ gone → n = (Mg.behN rows hs x : Nat)))
    (k : ∀ x, x ∉ gone → Mg.behN rows hs' x + (if x = y then 1 else 0) = Mg.behN rows hs x) : MgS C m T P g hd b rows F (upd (upd H hd (.lst (hs'.map fun n => V.int (n : Nat)))) b (.dK (putK bs (Sum.inr y) (.int (n - 1))))) gone hs' rdy := by
  obtain ⟨_, n2, n3, n4, n5⟩ := S.nes
  obtain ⟨dx, e1⟩ := S.obj
  refine ⟨same_at (same_at S.same S.off.2.2.1) S.off.2.2.2, S.off, S.gb, ⟨dx, by rw [upd_ne n3, upd_ne n2]; exact e1⟩, by rw [upd_ne S.gb, upd_ne n4]; exact S.hg, by rw [upd_ne n5]; exact upd_same, _, upd_same, by rw [putK_old v]; exact l, fun x hx => ?_⟩
  obtain ⟨n2', v2, z2⟩ := kb x hx
  rw [valV_put]
  by_cases h : x = y
  · subst h
    rw [if_pos rfl]
    refine ⟨_, rfl, fun gx => ?_⟩
    rw [v] at v2
    have en : n = n2' := by
      injection v2 with v2
      injection v2
    have k1 := k x gx
    rw [if_pos rfl] at k1
    have := z2 gx
    omega
  · rw [if_neg (by simpa using h)]
    refine ⟨n2', v2, fun gx => ?_⟩
    have k1 := k x gx
    rw [if_neg h] at k1
    have := z2 gx
    omega
theorem MgS.dropped (S : MgS C m T P g hd b rows F H gone hs rdy) {x : Str} (nx : x ∉ gone) : MgS C m T P g hd b rows F (upd H g (.dK (putK (gone.map fun x => ((Sum.inr x : Key), V.bl true)) (Sum.inr x) (.bl true)))) (gone ++ [x]) hs rdy := by
  obtain ⟨n1, _, _, n4, _⟩ := S.nes
  obtain ⟨dx, e1⟩ := S.obj
  obtain ⟨bs, e4, l4, k4⟩ := S.hb
  have v := val_gone (x := x) (xs := gone)
  rw [if_neg nx] at v
  refine ⟨same_at S.same S.off.2.1, S.off, S.gb, ⟨dx, by rw [upd_ne n1]; exact e1⟩, by rw [upd_same, putK_new _ v, List.map_append]; rfl, by rw [upd_ne (Ne.symm n4)]; exact S.hh, bs, by rw [upd_ne (Ne.symm S.gb)]; exact e4, l4, fun y hy => ?_⟩
  obtain ⟨n, v, z⟩ := k4 y hy
  exact ⟨n, v, fun gy => z fun h => gy (List.mem_append_left _ h)⟩
end
theorem Mg.Inv.weak {rows : Rows} {gone : List Str} {hs : List Nat} {rdy : Nat} {nm : Option Str} {pd pd' : Nat → Prop} (I : Mg.Inv rows gone hs rdy nm pd) (h : ∀ k, pd k → pd' k) : Mg.Inv rows gone hs rdy nm pd' := ⟨I.len, I.nd, I.le, I.past, fun i r h' e1 e2 y ey gy => let ⟨a, b⟩ := I.hd i r h' e1 e2 y ey gy; ⟨a, h _ b⟩, I.rd⟩
section
variable {C m T P g hd b : Addr} {rows : Rows} {F F' H : Hp} {gone : List Str} {hs : List Nat} {rdy : Nat}
theorem MgS.frame (S : MgS C m T P g hd b rows F H gone hs rdy) (s : Same F' H) (off : F' m = none ∧ F' g = none ∧ F' hd = none ∧ F' b = none) : MgS C m T P g hd b rows F' H gone hs rdy := ⟨s, off, S.gb, S.obj, S.hg, S.hh, S.hb⟩
theorem MgS.beside (S : MgS C m T P g hd b rows F H gone hs rdy) {l : Addr} {o : HO} (n1 : l ≠ m) (n2 : l ≠ g) (n3 : l ≠ hd) (n4 : l ≠ b) (fl : F l = none) : MgS C m T P g hd b rows F (upd H l o) gone hs rdy := by
  obtain ⟨dx, e1⟩ := S.obj
  obtain ⟨bs, e4, k⟩ := S.hb
  exact ⟨same_at S.same fl, S.off, S.gb, ⟨dx, by rw [upd_ne (Ne.symm n1)]; exact e1⟩, by rw [upd_ne (Ne.symm n2)]; exact S.hg, by rw [upd_ne (Ne.symm n3)]; exact S.hh, bs, by rw [upd_ne (Ne.symm n4)]; exact e4, k⟩
/-- with one object more in the frame -/
theorem MgS.hold (S : MgS C m T P g hd b rows F H gone hs rdy) {l : Addr} {o : HO} (e : H l = some o) (n1 : l ≠ m) (n2 : l ≠ g) (n3 : l ≠ hd) (n4 : l ≠ b) : MgS C m T P g hd b rows (upd F l o) H gone hs rdy := by
  refine S.frame (fun c u hc => ?_) ⟨by rw [upd_ne (Ne.symm n1)]; exact S.off.1, by rw [upd_ne (Ne.symm n2)]; exact S.off.2.1, by rw [upd_ne (Ne.symm n3)]; exact S.off.2.2.1, by rw [upd_ne (Ne.symm n4)]; exact S.off.2.2.2⟩
  by_cases h : c = l
  · subst h
    rw [upd_same] at hc
    cases hc
    exact e
  · rw [upd_ne h] at hc
    exact S.same _ _ hc
end
def spDraw (C : Addr) : Sp := fun vs H Q _ => ∃ (m T P g hd b : Addr) (rows : Rows) (F : Hp) (L : Str → Addr) (gone : List Str) (hs : List Nat) (rdy : Nat), vs = [.ref m] ∧ MgF F T P rows L ∧ MgS C m T P g hd b rows F H gone hs rdy ∧ gone.Nodup ∧ (∀ x ∈ gone, x ∈ names rows) ∧
  Mg.Inv rows gone hs rdy none (fun _ => False) ∧
  ∀ H' l hs', MgS C m T P g hd b rows F H' (gone ++ Mg.drawn (Mg.alive gone rows)) hs' 0 → Mg.Inv rows (gone ++ Mg.drawn (Mg.alive gone rows)) hs' 0 none (fun _ => False) → H' l = some (.lst ((Mg.drawn (Mg.alive gone rows)).map V.str)) → H l = none →
    (gone ++ Mg.drawn (Mg.alive gone rows)).Nodup → (∀ x ∈ gone ++ Mg.drawn (Mg.alive gone rows), x ∈ names rows) → Q (.ref l) H'
theorem nodup_sub : ∀ {xs ys : List Str}, xs.Nodup → (∀ x ∈ xs, x ∈ ys) → xs.length ≤ ys.length
  | [], _, _, _ => Nat.zero_le _
  | x :: xs, ys, nd, h => by
    have nd2 := List.nodup_cons.mp nd
    obtain ⟨a, b, e⟩ := List.append_of_mem (h x (List.mem_cons_self ..))
    have := nodup_sub (xs := xs) (ys := a ++ b) nd2.2 fun y hy => by
      have hm := h y (List.mem_cons_of_mem _ hy)
      rw [e] at hm
      rcases List.mem_append.mp hm with z | z
      · exact List.mem_append_left _ z
      · rcases List.mem_cons.mp z with z | z
        · subst z
          exact absurd hy nd2.1
        · exact List.mem_append_right _ z
    rw [e, List.length_append, List.length_cons]
    rw [List.length_append] at this
    rw [List.length_cons]
    omega
end Nb
namespace Nb
open PySem
open L2 hiding del del_ne del_same
/-- places that are being filled: what is told of them stood not before -/
structure Plm (H0 H : Hp) (D : Addr) (L : Str → Addr) (ts : List (Str × Nat × Nat)) : Prop where
  same : Same H0 H
  nd : H0 D = none
  d : H D = some (.dK ((seen (ts.map (·.1))).map fun x => ((Sum.inr x : Key), V.ref (L x))))
  l : ∀ x ∈ ts.map (·.1), H0 (L x) = none ∧ ∃ as : List Addr, H (L x) = some (.lst (as.map V.ref)) ∧ F2 (fun a (p : Nat × Nat) => H a = some (.tup [.int p.1, .int p.2])) as (Mg.pl ts x)
  inj : ∀ x ∈ ts.map (·.1), ∀ y ∈ ts.map (·.1), L x = L y → x = y
theorem Plm.to {H0 H : Hp} {D : Addr} {L : Str → Addr} {ts : List (Str × Nat × Nat)} (p : Plm H0 H D L ts) : Pl H D L ts := ⟨.inl p.d, fun x hx => (p.l x hx).2⟩
theorem pl_snoc (ts : List (Str × Nat × Nat)) (x y : Str) (i j : Nat) : Mg.pl (ts ++ [(x, i, j)]) y = if x = y then Mg.pl ts y ++ [(i, j)] else Mg.pl ts y := by
  rw [Mg.pl_app]
  by_cases h : x = y
  · subst h
    rw [if_pos rfl]
    simp [Mg.pl]
  · rw [if_neg h]
    simp [Mg.pl, h]
theorem seen_old {xs : List Str} {x : Str} (h : x ∈ xs) : seen (xs ++ [x]) = seen xs := by
  rw [seen_snoc]
  unfold grow
  rw [if_pos (List.any_eq_true.mpr ⟨x, mem_seen.mpr h, by simp⟩)]
theorem seen_new {xs : List Str} {x : Str} (h : x ∉ xs) : seen (xs ++ [x]) = seen xs ++ [x] := by
  rw [seen_snoc]
  unfold grow
  rw [if_neg]
  intro k
  obtain ⟨y, hy, e⟩ := List.any_eq_true.mp k
  have : y = x := eq_of_beq e
  subst this
  exact h (mem_seen.mp hy)
section
variable {H0 H H2 : Hp} {D t l0 : Addr} {L : Str → Addr} {ts : List (Str × Nat × Nat)} {x : Str} {i j : Nat}
/-- one place more of a name that has some -/
theorem Plm.more (p : Plm H0 H D L ts) (mx : x ∈ ts.map (·.1)) (s : Same H H2) (et : H2 t = some (.tup [.int i, .int j])) (nt : H t = none) : ∃ as : List Addr, H2 (L x) = some (.lst (as.map V.ref)) ∧ as.length ≤ ts.length ∧ Plm H0 (upd H2 (L x) (.lst (as.map V.ref ++ [.ref t]))) D L (ts ++ [(x, i, j)]) := by
  obtain ⟨n0, as, e, f⟩ := p.l x mx
  have len : as.length ≤ ts.length := by
    rw [f2_len f]
    unfold Mg.pl
    rw [List.length_map]
    exact List.length_filter_le ..
  have nD : D ≠ L x := fun z => by
    have := p.d
    rw [z, e] at this
    cases this
  refine ⟨as, s _ _ e, len, same_at (p.same.trans s) n0, p.nd, ?_, fun y hy => ?_, fun y hy z hz => ?_⟩
  · rw [upd_ne nD, List.map_append]
    show H2 D = some (.dK ((seen (ts.map (·.1) ++ [x])).map _))
    rw [seen_old mx]
    exact s _ _ p.d
  · have hy : y ∈ ts.map (·.1) := by
      rw [List.map_append] at hy
      rcases List.mem_append.mp hy with h | h
      · exact h
      · have : y = x := by simpa using h
        rw [this]
        exact mx
    obtain ⟨n1, bs, e1, f1⟩ := p.l y hy
    have off : ∀ {a : Addr} {q : Nat × Nat}, H a = some (.tup [.int q.1, .int q.2]) → (upd H2 (L x) (.lst (as.map V.ref ++ [.ref t]))) a = some (.tup [.int q.1, .int q.2]) := fun {a q} k => by
      have : a ≠ L x := fun z => by
        rw [z, e] at k
        cases k
      rw [upd_ne this]
      exact s _ _ k
    refine ⟨n1, ?_⟩
    rw [pl_snoc]
    by_cases h : x = y
    · subst h
      rw [if_pos rfl]
      refine ⟨as ++ [t], by rw [upd_same, List.map_append]; rfl, f2_snoc (f2_imp (fun a q k => off k) f) ?_⟩
      have : t ≠ L x := fun z => by
        rw [z, e] at nt
        cases nt
      rw [upd_ne this]
      exact et
    · rw [if_neg h]
      have : L y ≠ L x := fun z => h (p.inj x mx y hy z.symm)
      exact ⟨bs, by rw [upd_ne this]; exact s _ _ e1, f2_imp (fun a q k => off k) f1⟩
  · have key : ∀ w, w ∈ (ts ++ [(x, i, j)]).map (·.1) → w ∈ ts.map (·.1) := fun w hw => by
      rw [List.map_append] at hw
      rcases List.mem_append.mp hw with h | h
      · exact h
      · have : w = x := by simpa using h
        rw [this]
        exact mx
    exact p.inj y (key y hy) z (key z hz)
/-- the first place of a name -/
theorem Plm.fresh (p : Plm H0 H D L ts) (mx : x ∉ ts.map (·.1)) {H1 : Hp} (s1 : Same H H1) (n0 : H l0 = none) (e0 : H1 l0 = some (.lst []))
    (s2 : Same (upd H1 D (.dK (putK ((seen (ts.map (·.1))).map fun x => ((Sum.inr x : Key), V.ref (L x))) (Sum.inr x) (.ref l0)))) H2) (et : H2 t = some (.tup [.int i, .int j])) (nt : (upd H1 D (.dK (putK ((seen (ts.map (·.1))).map fun x => ((Sum.inr x : Key), V.ref (L x))) (Sum.inr x) (.ref l0)))) t = none) :
    H2 l0 = some (.lst []) ∧ Plm H0 (upd H2 l0 (.lst ([] ++ [.ref t]))) D (fun y => if y = x then l0 else L y) (ts ++ [(x, i, j)]) := by
  have nD : D ≠ l0 := fun z => by
    have := p.d
    rw [z, n0] at this
    cases this
  have v := val_map (L := L) (x := x) (xs := seen (ts.map (·.1)))
  rw [if_neg (fun k => mx (mem_seen.mp k))] at v
  rw [putK_new _ v] at s2 nt
  have eD := s2 _ _ upd_same
  have e2 : H2 l0 = some (.lst []) := s2 _ _ (by rw [upd_ne (Ne.symm nD)]; exact e0)
  have keep : ∀ {a : Addr} {o : HO}, H a = some o → a ≠ D → a ≠ l0 → (upd H2 l0 (.lst ([] ++ [.ref t]))) a = some o := fun {a o} k n1 n2 => by
    rw [upd_ne n2]
    exact s2 _ _ (by rw [upd_ne n1]; exact s1 _ _ k)
  have ne0 : ∀ {a : Addr} {o : HO}, H a = some o → a ≠ l0 := fun {a o} k z => by
    rw [z, n0] at k
    cases k
  refine ⟨e2, fun a o k => ?_, p.nd, ?_, fun y hy => ?_, fun y hy z hz e => ?_⟩
  · have k1 := p.same _ _ k
    exact keep k1 (fun z => by rw [z, p.nd] at k; cases k) (ne0 k1)
  · rw [upd_ne nD, eD, List.map_append]
    show some (HO.dK _) = some (HO.dK ((seen (ts.map (·.1) ++ [x])).map _))
    rw [seen_new mx, List.map_append]
    congr 2
    congr 1
    · refine List.map_congr_left fun y hy => ?_
      have : y ≠ x := fun z => by
        rw [z] at hy
        exact mx (mem_seen.mp hy)
      rw [if_neg this]
    · simp
  · rw [List.map_append] at hy
    rw [pl_snoc]
    by_cases h : x = y
    · subst h
      have none' : Mg.pl ts x = [] := by
        unfold Mg.pl
        rw [List.map_eq_nil_iff, List.filter_eq_nil_iff]
        intro q hq k
        have : q.1 = x := eq_of_beq k
        exact mx (List.mem_map.mpr ⟨q, hq, this⟩)
      rw [if_pos rfl, if_pos rfl, none']
      refine ⟨p.same.free n0, [t], upd_same, .cons ?_ .nil⟩
      have : t ≠ l0 := fun z => by
        rw [z, upd_ne (Ne.symm nD), e0] at nt
        cases nt
      rw [upd_ne this]
      exact et
    · have hy : y ∈ ts.map (·.1) := by
        rcases List.mem_append.mp hy with k | k
        · exact k
        · have : y = x := by simpa using k
          exact absurd this.symm h
      rw [if_neg h, if_neg (Ne.symm h)]
      obtain ⟨n1, bs, e1, f1⟩ := p.l y hy
      refine ⟨n1, bs, keep e1 (fun z => ?_) (ne0 e1), f2_imp (fun a q k => keep k (fun z => ?_) (ne0 k)) f1⟩
      · rw [z, p.d] at e1
        cases e1
      · rw [z, p.d] at k
        cases k
  · have key : ∀ w, w ∈ (ts ++ [(x, i, j)]).map (·.1) → w = x ∨ w ∈ ts.map (·.1) := fun w hw => by
      rw [List.map_append] at hw
      rcases List.mem_append.mp hw with h | h
      · exact .inr h
      · exact .inl (by simpa using h)
    have e : (if y = x then l0 else L y) = (if z = x then l0 else L z) := e
    rcases key y hy with hy | hy <;> rcases key z hz with hz | hz
    · rw [hy, hz]
    · have : z ≠ x := fun k => mx (k ▸ hz)
      rw [if_pos hy, if_neg this] at e
      obtain ⟨_, _, e1, _⟩ := p.l z hz
      exact absurd e.symm (ne0 e1)
    · have : y ≠ x := fun k => mx (k ▸ hy)
      rw [if_neg this, if_pos hz] at e
      obtain ⟨_, _, e1, _⟩ := p.l y hy
      exact absurd e (ne0 e1)
    · have a1 : y ≠ x := fun k => mx (k ▸ hy)
      have a2 : z ≠ x := fun k => mx (k ▸ hz)
      rw [if_neg a1, if_neg a2] at e
      exact p.inj y hy z hz e
end
def spPlaces : Sp := fun vs H Q _ => ∃ (T : Addr) (rows : Rows), vs = [.ref T] ∧ RowsAt H T rows ∧ Fit rows ∧ ∀ H' D L, Plm H H' D L (Mg.trips 0 rows) → Q (.ref D) H'
theorem row3_snoc {r : List Str} {j i : Nat} {x : Str} (e : r[j]? = some x) : Mg.row3 i (r.take (j + 1)) = Mg.row3 i (r.take j) ++ [(x, i, j)] := by
  have lt := (List.getElem?_eq_some_iff.mp e).1
  unfold Mg.row3
  rw [List.take_add_one, e, Option.toList_some, List.zipIdx_append, List.map_append, List.length_take, Nat.min_eq_left (Nat.le_of_lt lt)]
  simp
end Nb
namespace Nb
open PySem
open L2 hiding del del_ne del_same
theorem val_int {f : Str → Nat} {x : Str} : ∀ {xs : List Str}, x ∈ xs → valV (xs.map fun x => ((Sum.inr x : Key), V.int (f x : Nat))) (Sum.inr x) = some (.int (f x : Nat))
  | y :: ys, h => by
    by_cases e : y = x
    · subst e
      simp [valV]
    · have h2 : x ∈ ys := (List.mem_cons.mp h).resolve_left (Ne.symm e)
      have := val_int (f := f) h2
      rw [List.map_cons, valV_neg (by simpa using e)]
      exact this
section
variable {C m T P g hd b : Addr} {rows : Rows} {F H : Hp} {gone : List Str} {hs : List Nat} {rdy : Nat} {L : Str → Addr} {od : Obj} {u : HO}
theorem MgS.locked (S : MgS C m T P g hd b rows F H gone hs rdy) (n1 : P ≠ m) (n2 : P ≠ g) (n3 : P ≠ hd) (n4 : P ≠ b) : MgS C m T P g hd b rows (upd F P u) (upd H P u) gone hs rdy := by
  obtain ⟨dx, e1⟩ := S.obj
  obtain ⟨bs, e4, k⟩ := S.hb
  exact ⟨grow_up S.same, ⟨by rw [upd_ne (Ne.symm n1)]; exact S.off.1, by rw [upd_ne (Ne.symm n2)]; exact S.off.2.1, by rw [upd_ne (Ne.symm n3)]; exact S.off.2.2.1, by rw [upd_ne (Ne.symm n4)]; exact S.off.2.2.2⟩, S.gb, ⟨dx, by rw [upd_ne (Ne.symm n1)]; exact e1⟩, by rw [upd_ne (Ne.symm n2)]; exact S.hg, by rw [upd_ne (Ne.symm n3)]; exact S.hh, bs, by rw [upd_ne (Ne.symm n4)]; exact e4, k⟩
theorem MgS.unlocked (S : MgS C m T P g hd b rows (upd F P u) H gone hs rdy) {o : HO} (e : F P = some o) (n1 : P ≠ m) (n2 : P ≠ g) (n3 : P ≠ hd) (n4 : P ≠ b) : MgS C m T P g hd b rows F (upd H P o) gone hs rdy := by
  obtain ⟨dx, e1⟩ := S.obj
  obtain ⟨bs, e4, k⟩ := S.hb
  obtain ⟨f1, f2, f3, f4⟩ := S.off
  rw [upd_ne (Ne.symm n1)] at f1
  rw [upd_ne (Ne.symm n2)] at f2
  rw [upd_ne (Ne.symm n3)] at f3
  rw [upd_ne (Ne.symm n4)] at f4
  refine ⟨fun a o' h => ?_, ⟨f1, f2, f3, f4⟩, S.gb, ⟨dx, by rw [upd_ne (Ne.symm n1)]; exact e1⟩, by rw [upd_ne (Ne.symm n2)]; exact S.hg, by rw [upd_ne (Ne.symm n3)]; exact S.hh, bs, by rw [upd_ne (Ne.symm n4)]; exact e4, k⟩
  by_cases z : a = P
  · rw [z, e] at h
    cases h
    rw [z, upd_same]
  · rw [upd_ne z]
    exact S.same _ _ (by rw [upd_ne z]; exact h)
theorem MgF.locked {kvs : List (Key × V)} (M : MgF F T P rows L) (dF : F P = some (.dK kvs)) (ekv : kvs = (names rows).map fun x => ((Sum.inr x : Key), V.ref (L x))) : MgF (upd F P (.frz od (.dK kvs))) T P rows L := by
  have keep : ∀ {a : Addr} {o : HO}, F a = some o → (∀ kvs, o ≠ .dK kvs) → (upd F P (.frz od (.dK kvs))) a = some o := fun {a o} h n => by
    have : a ≠ P := fun z => by
      rw [z, dF] at h
      cases h
      exact n _ rfl
    rw [upd_ne this]
    exact h
  obtain ⟨as, t1, t2, t3⟩ := M.at_
  refine ⟨M.fit, ⟨as, keep t1 (fun _ z => by cases z), t2, fun k a row e1 e2 => ?_⟩, ⟨.inr ⟨od, ?_⟩, fun x hx => ?_⟩⟩
  · rcases t3 k a row e1 e2 with h | ⟨ob, h⟩
    · exact .inl (keep h fun _ z => by cases z)
    · exact .inr ⟨ob, keep h fun _ z => by cases z⟩
  · rw [upd_same, ekv, Mg.names_trips]
    rfl
  · obtain ⟨bs, k1, k2⟩ := M.pl.l x hx
    exact ⟨bs, keep k1 (fun _ z => by cases z), f2_imp (fun a q k => keep k fun _ z => by cases z) k2⟩
end
/-- Merge.__init__ -/
def spMInit (C : Addr) : Sp := fun vs H Q _ => ∃ (m dx T : Addr) (rows : Rows), vs = [.ref m, .ref T] ∧ H m = some (.ins C dx []) ∧ RowsAt (del H m) T rows ∧ Fit rows ∧
  ∀ H' P g hd b L F rdy, Same (del H m) F → MgF F T P rows L → MgS C m T P g hd b rows F H' [] (List.replicate rows.length 0) rdy → Mg.Inv rows [] (List.replicate rows.length 0) rdy none (fun _ => False) →
    F P = some (.dK ((names rows).map fun x => ((Sum.inr x : Key), V.ref (L x)))) → Q .non H'
theorem same_off {H0 H H' : Hp} {m : Addr} (s : Same H H') : Same (del H m) (del H' m) := del_mono s
/-- a heap with the instance at m stored anew -/
theorem del_upd {H : Hp} {m : Addr} {o : HO} : del (upd H m o) m = del H m := by
  funext c
  by_cases h : c = m
  · rw [h, del_at, del_at]
  · rw [del_ne h, del_ne h, upd_ne h]
end Nb

set_option Elab.async false
set_option maxRecDepth 100000
set_option maxHeartbeats 4000000
/-! A caught error that is asked behind its handler: it is told in the heap from then on. -/
namespace Nb
open PySem PySem.Spec PyProof.Rows L2
/-- an error of the class cls, its dict at d, that flies no more -/
def Ke (cls : Value) (d : Option Addr) (a : Addr) : HO := .ext fun h => ∃ (oe : Obj) (vs : Array Value), h.get? a = some oe ∧ Zc cls d oe ∧ oe.data = .fields vs
theorem ke_ok {P : Program} {w : World} {H : Hp} {h : Heap} {a : Addr} {cls : Value} {d : Option Addr} {oe : Obj} {vs : Array Value} (e : h.get? a = some oe) (z : Zc cls d oe) (f : oe.data = .fields vs) : ObjOk P w H h a (Ke cls d a) :=
  ⟨⟨oe, vs, e, z, f⟩, ⟨oe, e⟩, fun _ _ ⟨o, ws, e1, z1, f1⟩ k => ⟨o, ws, k o e1, z1, f1⟩⟩
theorem ke_at {P : Program} {w : World} {H : Hp} {h : Heap} {a : Addr} {cls : Value} {d : Option Addr} (hok : HOk P w H h) (e : H a = some (Ke cls d a)) : ∃ (oe : Obj) (vs : Array Value), h.get? a = some oe ∧ Zc cls d oe ∧ oe.data = .fields vs := (show ObjOk P w H h a (Ke cls d a) from hok a _ e).1
section
variable {X : Cx} {pins : List (Addr × Obj)} {σ : L2.St} {H : Hp} {s : Shared} {a : Addr}
/-- what is new since the def began, and stands nowhere, may be told -/
theorem inv_tell {o : HO} (I : Inv X pins σ H s) (na : H a = none) (n0 : X.s_0.heap.get? a = none) (nL : a ≠ X.env.locals) (nC : ∀ v, ¬ s.heap.IsCell a v) (nP : ∀ p ∈ X.pn ++ pins, p.1 ≠ a) (ho : ObjOk X.prog X.w (upd H a o) s.heap a o) :
    Inv X pins σ (upd H a o) s := by
  have ne : ∀ {b : Addr} {u : HO}, H b = some u → b ≠ a := fun e => ne_of_none e na
  refine ⟨I.ok, I.os, I.bare, ?_, I.loc, I.cell, ?_, ?_, ?_, ?_, I.len⟩
  · refine ⟨I.base.keep, I.base.slot, fun b ob e n hx => ?_, I.base.there, fun b xs e => ?_, fun b ob u e => ?_, fun b ps e => ?_⟩
    · have nb : b ≠ a := fun z => by
        rw [z, n0] at e
        cases e
      rw [upd_ne nb]
      exact I.base.free b ob e n hx
    · have t := I.base.tups b xs e
      rw [upd_ne (ne t)]
      exact t
    · have t := I.base.frzs b ob u e
      rw [upd_ne (ne t)]
      exact t
    · obtain ⟨m, t⟩ := I.base.tbls b ps e
      exact ⟨m, by rw [upd_ne (ne t)]; exact t⟩
  · rw [upd_ne (Ne.symm nL)]
    exact I.free
  · intro y c hc
    have nc : c ≠ a := fun z => by
      obtain ⟨v, hv⟩ := I.cell y c hc
      exact nC v (z ▸ hv)
    rw [upd_ne nc]
    exact I.freeC y c hc
  · intro p hp
    obtain ⟨p1, p2, p3⟩ := I.pin p hp
    exact ⟨p1, by rw [upd_ne (nP p hp)]; exact p2, p3⟩
  · intro b u e
    by_cases hb : b = a
    · subst hb
      rw [upd_same] at e
      cases e
      exact ho
    · rw [upd_ne hb] at e
      exact (I.hok b u e).stay (fun c v _ q => q) (fun c q => by rw [upd_ne (ne q)]; exact q) fun c xs q => by rw [upd_ne (ne q)]; exact q
end
/-- what such a clause wishes of an error of the body: slot i is the name of the clause -/
def wKept (K : PySem.W.Frag) (c : Value) (i : Nat) (ts : Addr → Value → Option Addr → TS) (D : Ends) : WX := fun cls d σ H =>
  PySem.W.exmOne K cls c = some true ∧ ∀ a, H a = none → ts a cls d { nx := fun σ' H' => D.nx (σ'.set i none) (upd H' a (Ke cls d a)), rt := fun v H' => D.rt v (upd H' a (Ke cls d a)), bk := fun σ' H' => D.bk (σ'.set i none) (upd H' a (Ke cls d a)), ct := fun σ' H' => D.ct (σ'.set i none) (upd H' a (Ke cls d a)) } (σ.set i (some (.ref a))) H
section
variable {X : Cx} {nm : Str} {c : Value} {i : Nat} {x : Str} {body su : List Stmt} {b1 : Stmt} {px p1 p2 : Pos} {tb : WX → TS} {ts : Addr → Value → Option Addr → TS}
/-- try: .. except C as n: .., where the body lets out nothing but errors of C: what is caught is told in the heap behind the clause -/
theorem ps_try_kept (st : X.stack = X.env :: X.outer) (fl : X.env.frame = some X.env.locals) (x0 : X.ex = []) (nd : X.N.Nodup) (at_ : X.N[i]? = some nm) (lc : X.env.kindOf nm = some .local) (cn : Names X x c)
    (tbd : ∀ (W : WX) (pn : List (Addr × Obj)) (xe : Value → Shared → Prop), Takes (X.tr pn xe) W → PassesOwn (model X.prog X.w) X.A X.env xe → PSs (X.tr pn xe) body (tb W))
    (tsu : ∀ (a : Addr) (oe : Obj) (cls : Value) (d : Option Addr) (pn : List (Addr × Obj)), Zc cls d oe → (∃ vs, oe.data = .fields vs) → PSs (X.suite a ((a, oe) :: pn)) (b1 :: su) (ts a cls d)) :
    PS X (.Try body [.ExceptHandler (some (.Name x px)) (some nm) (b1 :: su) p1] [] [] p2) (fun D σ H => tb (wKept X.K c i ts D) D σ H) := by
  refine ⟨fun pins s σ H D I h => wpAny_Try_except ?_⟩
  have ok := I.ok
  have fr : X.A.frames = some (X.env :: X.outer) := by rw [ok.frames, st]
  refine wpAny_mono ((tbd (wKept X.K c i ts D) (X.pn ++ pins) _ ?take PassesOwn.looking).run [] s σ H D (I.toTry _) h) (fun f s1 r => ?done) (fun e s1 r => r)
  case done =>
    cases f with
    | next =>
      obtain ⟨σ1, H1, J, r⟩ := r
      exact wpAny_execs_nil ⟨σ1, H1, J.ofTry ok, r⟩
    | ret u =>
      obtain ⟨v, σ1, H1, J, e, r⟩ := r
      exact ⟨v, σ1, H1, J.ofTry ok, e, r⟩
    | brk =>
      obtain ⟨σ1, H1, J, r⟩ := r
      exact ⟨σ1, H1, J.ofTry ok, r⟩
    | cont =>
      obtain ⟨σ1, H1, J, r⟩ := r
      exact ⟨σ1, H1, J.ofTry ok, r⟩
  case take =>
    rintro u s1 ⟨a, B, s0, ps, σ1, H1, cls, d, rfl, J0, inB, up, sky, na, os, ag, mt, yes⟩
    have J := J0.ofTry (pn' := ps) ok
    have sky1 : Sky B (X.env :: X.outer) a (Zc cls d) X.env.locals s1.heap := st ▸ sky
    have notB : B.get? a = none := by
      rcases sky1 with k | k | k
      · exact k.2.1
      · exact k.2.1
      · exact k.2.1
    refine Sky.land Zc.steady fr fl sky1 fun h2 f2 up2 => ?_
    have J2 : Inv X pins σ1 H1 { s1 with heap := h2 } := J.landed inB f2.1 (up.trans up2) os ag
    obtain ⟨o2, w2, e2, z2, d2⟩ := f2.there
    have out : a ∉ frs (X.env :: X.outer) := fun hm => by
      obtain ⟨_, o, eo, no⟩ := f2.2.2.1.mem hm
      rw [e2] at eo
      cases eo
      exact no _ d2
    have nL : a ≠ X.env.locals := fun z => out (List.mem_filterMap.mpr ⟨X.env, List.mem_cons_self, by rw [fl, z]⟩)
    have nF : a ∉ X.fs := fun hm => by
      obtain ⟨e, he, q⟩ := List.mem_filterMap.mp hm
      exact out (List.mem_filterMap.mpr ⟨e, List.mem_cons_of_mem _ he, q⟩)
    have gone : ∀ {b : Addr} {o : Obj}, s0.heap.get? b = some o → b ∉ frs X.stack → b ≠ a := fun e n z => by
      have q := inB _ _ e n
      rw [z, notB] at q
      cases q
    have outS : a ∉ frs X.stack := st ▸ out
    have new0 : X.s_0.heap.get? a = none := by
      cases e : X.s_0.heap.get? a with
      | none => rfl
      | some o =>
        obtain ⟨o', e'⟩ := J.base.there a o e (by rw [x0]; exact fun z => nomatch z)
        exact absurd rfl (gone e' outS)
    have nP : ∀ p ∈ X.pn ++ pins, p.1 ≠ a := fun p hp => by
      obtain ⟨g1, _, g3, g4, _⟩ := J.pin p hp
      refine gone g1 fun hm => ?_
      rw [st] at hm
      obtain ⟨e, he, q⟩ := List.mem_filterMap.mp hm
      rcases List.mem_cons.mp he with rfl | he
      · rw [fl] at q
        exact g3 (Option.some.inj q).symm
      · exact g4 (List.mem_filterMap.mpr ⟨e, he, q⟩)
    have S2 := J2.suite e2 d2 na nL nF
    have isC : PySem.W.Looks (model X.prog X.w) h2 (typeOf (.ref a)) cls := fun A Q E s k q => wpAny_typeOf_ref (k _ _ e2) (by rw [z2.1]; exact q)
    have asks := PySem.W.exm_one (M := model X.prog X.w) J2.kIn isC mt
    have named : ∀ {Q : Value → Shared → Prop} {E : Value → Shared → Prop}, Q c { s1 with heap := h2 } → wpAny (model X.prog X.w) (X.A.mark (some (.ref a))) (eval (.Name x px) X.env) Q E { s1 with heap := h2 } := fun q => by
      rcases cn with ⟨g1, g2, g3 | ⟨g3, g4, g5⟩⟩
      · exact ld_glob (X := X.suite a ((a, o2) :: (X.pn ++ pins))) S2 g1 g3 q g2
      · exact ld_blt (X := X.suite a ((a, o2) :: (X.pn ++ pins))) S2 g1 g3 g4 q g5 g2
    refine wpAny_handleBy_cons (codeAny_handlers_test (named (asks.here ?_))) fun q => nomatch q
    refine codeAny_handlers_suite_as (HandSPX.lands_againZ f2 fun h3 f3 up3 => ?_)
    have J3 : Inv X pins σ1 H1 { s1 with heap := h3 } := J.landed inB f3.1 ((up.trans up2).trans up3) os ag
    obtain ⟨o3, w3, e3, z3, d3⟩ := f3.there
    refine store_ok (X := X.suite a ((a, o3) :: (X.pn ++ pins))) (v := .ref a) (J3.suite e3 d3 na nL nF) nd at_ (.inl lc) rfl (fun s4 S4 => ?_) (.inr lc)
    refine wpAny_mono ((tsu a o3 cls d (X.pn ++ pins) z3 ⟨_, d3⟩).run [] s4 _ H1 _ S4 (yes a na)) (fun f s5 r => ?_) (fun _ _ z => False.elim z)
    have close : ∀ {σ5 : L2.St} {H5 : Hp} {Q : Shared → Prop}, Inv (X.suite a ((a, o3) :: (X.pn ++ pins))) [] σ5 H5 s5 → (∀ s6, Inv X pins (σ5.set i none) (upd H5 a (Ke cls d a)) s6 → Q s6) →
        wpAny (model X.prog X.w) X.A (do bindName X.env nm .none; unbindBehindTheSuite X.env nm p1) (fun _ s6 => Q s6) X.xe s5 := fun {σ5 H5 Q} S5 q => by
      obtain ⟨g1, g2, _⟩ := S5.pin (a, o3) (List.mem_append_left _ List.mem_cons_self)
      have g1 : s5.heap.get? a = some o3 := g1
      refine gone_ok (inv_tell (S5.unsuite ok) g2 new0 nL (fun v hv => ?_) nP (ke_ok g1 z3 d3)) nd at_ lc q
      obtain ⟨o, ho, hd⟩ := hv
      rw [g1] at ho
      cases ho
      rw [d3] at hd
      cases hd
    cases f with
    | next =>
      obtain ⟨σ5, H5, S5, r⟩ := r
      exact close S5 fun s6 J6 => ⟨_, _, J6, r⟩
    | ret u =>
      obtain ⟨v, σ5, H5, S5, e, r⟩ := r
      exact close S5 fun s6 J6 => ⟨_, _, _, J6, e, r⟩
    | brk =>
      obtain ⟨σ5, H5, S5, r⟩ := r
      exact close S5 fun s6 J6 => ⟨_, _, J6, r⟩
    | cont =>
      obtain ⟨σ5, H5, S5, r⟩ := r
      exact close S5 fun s6 J6 => ⟨_, _, J6, r⟩
end
/-- an error that is told, with its fields -/
def KeptAt (H : Hp) (a D dd : Addr) (fs : List (Str × V)) : Prop := H a = some (Ke (.ref D) (some dd) a) ∧ H dd = some (.xd fs)
theorem kept_same {H H' : Hp} {a D dd : Addr} {fs : List (Str × V)} (s : Same H H') (h : KeptAt H a D dd fs) : KeptAt H' a D dd fs := ⟨s _ _ h.1, s _ _ h.2⟩
theorem kept_inst {P : Program} {w : World} {H : Hp} {h : Heap} {a D dd : Addr} {fs : List (Str × V)} (hok : HOk P w H h) (k : KeptAt H a D dd fs) :
    ∃ (oe od : Obj) (mA : Str → Option Value), PySem.W.InstAt h a oe D (some od) ∧ h.Ns1 dd mA ∧ (∀ f, RelO (fs.lookup f) (mA f)) ∧ ∀ f, PySem.W.lookIn f od = some (mA f) := by
  obtain ⟨oe, vs, e1, z1, f1⟩ := ke_at hok k.1
  have x : ObjOk P w H h dd (.xd fs) := hok dd _ k.2
  obtain ⟨mA, hns, hr⟩ := x
  obtain ⟨od, ho, hl⟩ := lookIn_ns hns
  refine ⟨oe, od, mA, ⟨e1, z1.1, ?_, ?_⟩, hns, hr, fun f => ?_⟩
  · unfold PySem.W.notCls
    rw [f1] <;> rfl
  · rw [z1.2]
    exact ho
  · exact hl f
/-- e.f of such an error -/
def tKf (K : PySem.W.Frag) (f : Str) (te : TE) : TE := fun σ H Q => te σ H fun x H1 => ∃ (a D dd : Addr) (fs : List (Str × V)) (v : V), x = .ref a ∧ XfC K D ∧ PySem.W.findIn K (.ref D) f = some none ∧ KeptAt H1 a D dd fs ∧ fs.lookup f = some v ∧ Q v H1
theorem pe_kf {X : Cx} {e : Expr} {te : TE} {pos : Pos} {f : Str} (he : PE X e te) (hb : attributeBase e f X.env (eval e X.env) = eval e X.env := by rfl) : PE X (.Attribute e f pos) (tKf X.K f te) := by
  refine ⟨fun pins s σ H Q I h => attr_of hb (thn (he.run pins s σ H _ I h) fun u s1 k => ?_)⟩
  obtain ⟨x, H1, I1, rx, a, D, dd, fs, v, rfl, T, no, ka, l, q⟩ := k
  cases rx
  obtain ⟨oe, od, mA, J, hns, hr, hl⟩ := kept_inst I1.hok ka
  obtain ⟨u, hu, ru⟩ := RelO.some_of (v := v) (o := mA f) (by rw [← l]; exact hr f)
  exact HandSPX.exc_get I1.kIn J T.ga T.gg T.exC (PySem.W.findObj_own T.hdC no rfl (by rw [hl, hu])) (handed_of ru) ⟨v, H1, I1.tok _, ru, q⟩
/-- isinstance(e, c) of such an error -/
def rIsK (K : PySem.W.Frag) : List V → Hp → VK → Prop := fun xs H Q => ∃ (a D dd : Addr) (fs : List (Str × V)) (c : V) (cv : Value) (b : Bool), xs = [.ref a, c] ∧ ExcC K D ∧ KeptAt H a D dd fs ∧ (∀ u, RelV c u → u = cv) ∧ PySem.W.kitOne K (.ref D) cv = some b ∧ Q (.bl b) H
theorem call_isK {X : Cx} : CallR X (.builtin "isinstance") (rIsK X.K) := by
  intro pins s σ H xs us Q I r h
  obtain ⟨a, D, dd, fs, c, cv, b, rfl, C, ka, hcv, e, q⟩ := h
  obtain ⟨oe, od, mA, J, _⟩ := kept_inst I.hok ka
  cases r with
  | cons rx rr => cases rr with
    | cons rt rr =>
      cases rr
      cases rx
      cases hcv _ rt
      obtain ⟨cd, hc, _⟩ := PySem.W.any_some C.hd
      exact PySem.W.kia_one (PySem.W.kitx_exc (by rw [hc]; rfl) C.hg C.hk C.hs C.ha C.hn C.ht C.hm) I.kIn J e (fun z => nomatch z) fun tk => ⟨.bl b, H, I.kept (t' := tk) fun _ _ z => z, rfl, q⟩
end Nb

set_option Elab.async false
set_option maxRecDepth 100000
set_option maxHeartbeats 4000000
/-! An own error that is made and held as a value, not raised: told in the heap at once. -/
namespace Nb
open PySem PySem.Spec PyProof.Rows L2
/-- what the making of an error wishes, where the error is a value -/
def tKept (t : L2.St → Hp → XK → Prop) : TE := fun σ H Q => t σ H fun cls d H' => ∀ a, H' a = none → Q (.ref a) (upd H' a (Ke cls d a))
theorem pe_kept {X : Cx} {e : Expr} {t : L2.St → Hp → XK → Prop} (x0 : X.ex = []) (st : X.stack = X.env :: X.outer) (fl : X.env.frame = some X.env.locals) (he : PMk X e t) : PE X e (tKept t) := by
  refine ⟨fun pins s σ H Q I h => wpAny_mono (he pins s σ H _ I h) (fun u s1 r => ?_) fun _ _ z => z⟩
  obtain ⟨a, oe, vs, s0, H1, cls, d, rfl, J, k, na0, ea, zc, dv, _, na, os, ag, _, q⟩ := r
  have ok := J.ok
  have J1 : Inv X pins σ H1 s1 := by
    have J2 := J.call (ch := []) (h' := s1.heap) (g' := s1.gens) (t' := s1.toks) (d' := s1.drawn) (H' := H1)
      ⟨fun b o e _ _ _ => k b o e, fun b o e _ _ _ => ⟨o.slots, k b o e⟩, fun _ _ _ n _ => n, fun b o e _ => ⟨o, k b o e⟩, fun _ _ e => e, fun _ _ _ e => e, fun b ps e => ⟨#[], by rw [e]; simp⟩⟩ (J.hok.kept k) ag (fun _ z => nomatch z)
    obtain ⟨a1, a2, a3, a4, a5⟩ := s1
    cases (show a5 = s0.os from os)
    exact J2
  have gone : ∀ {b : Addr} {o : Obj}, s0.heap.get? b = some o → b ≠ a := fun e z => by
    rw [z, na0] at e
    cases e
  have n0 : X.s_0.heap.get? a = none := by
    cases e : X.s_0.heap.get? a with
    | none => rfl
    | some o =>
      obtain ⟨o', e'⟩ := J.base.there a o e (by rw [x0]; exact fun z => nomatch z)
      exact absurd rfl (gone e')
  have nL : a ≠ X.env.locals := fun z => by
    obtain ⟨m, hn, _⟩ := J.loc
    obtain ⟨o, _, _, e, _⟩ := hn
    exact gone e z.symm
  refine ⟨.ref a, upd H1 a (Ke cls d a), inv_tell J1 na n0 nL (fun v hv => ?_) (fun p hp => gone (J.pin p hp).1) (ke_ok ea zc dv), rfl, q a na⟩
  obtain ⟨o, ho, hd⟩ := hv
  rw [ea] at ho
  cases ho
  rw [dv] at hd
  cases hd
end Nb

set_option Elab.async false
set_option maxRecDepth 100000
set_option maxHeartbeats 4000000
/-! Own errors over any of four built-in classes, whose __init__ stores its arguments under their names. -/
namespace Nb
open PySem PySem.Spec PyProof.Rows Builtin.ObjectAttr
open L2 hiding del del_ne del_same
/-- the built-in class below -/
structure Over (B nw ini : String) (bm : List Value) : Prop where
  fb : ExcBaseFacts B nw ini bm
  sf : StoreFacts B bm "object.__setattr__" "object"
theorem overV : Over "ValueError" "ValueError.__new__" "ValueError.__init__" [.type "ValueError", .type "Exception", .type "BaseException", .type "object"] := ⟨F.excBase_ValueError, F.store_ValueError⟩
theorem overA : Over "ArithmeticError" "ArithmeticError.__new__" "ArithmeticError.__init__" [.type "ArithmeticError", .type "Exception", .type "BaseException", .type "object"] := ⟨F.excBase_ArithmeticError, F.store_ArithmeticError⟩
theorem overL : Over "LookupError" "LookupError.__new__" "LookupError.__init__" [.type "LookupError", .type "Exception", .type "BaseException", .type "object"] := ⟨F.excBase_LookupError, F.store_LookupError⟩
theorem overR : Over "RuntimeError" "RuntimeError.__new__" "RuntimeError.__init__" [.type "RuntimeError", .type "Exception", .type "BaseException", .type "object"] := ⟨F.excBase_RuntimeError, F.store_RuntimeError⟩
/-- what the written part says of an own error class -/
structure ErrC (K : PySem.W.Frag) (C : Addr) : Prop where
  ov : ∃ B nw ini bm, Over B nw ini bm ∧ PySem.W.excInitIn K C bm nw = true ∧ PySem.W.excOver K C bm = true
  sa : PySem.W.findIn K (.ref C) "__setattr__" = some (some (.builtin "object.__setattr__"))
  tyC : PySem.W.typeIn K (.ref C) = some (.type "type")
  kC : PySem.W.keepIn K (.ref C) = true
  ex : ExcC K C
theorem taker_of {K : PySem.W.Frag} {C : Addr} {f : Str} (h : PySem.W.findIn K (.ref C) f = some none) : PySem.W.takerIn K C f = some none := by
  unfold PySem.W.takerIn
  rw [h]
  rfl
section
variable {X : Cx} {pins : List (Addr × Obj)} {σ : L2.St} {H : Hp} {s : Shared} {a C d : Addr} {f : Str} {y : V} {u : Value} {fs : List (Str × V)} {Q : Unit → Shared → Prop} {E : Value → Shared → Prop} {A : Around}
theorem put_first (T : ErrC X.K C) (I : Inv X pins σ H s) (e : H a = some (exo a C none)) (hno : PySem.W.findIn X.K (.ref C) f = some none) (ry : RelV y u)
    (h : ∀ d s', H d = none → d ≠ a → Inv X pins σ (upd (upd (upd H d (exd d [])) a (exo a C (some d))) d (exd d [(f, y)])) s' → Q () s') : wpAny (model X.prog X.w) A (setAttr (.ref a) f u) Q E s := by
  obtain ⟨t1, ho⟩ := exo_at I.hok e
  obtain ⟨B, nw, ini, bm, ov, q1, q2⟩ := T.ov
  obtain ⟨cd, hc, hd⟩ := PySem.W.any_some T.ex.hd
  obtain ⟨hp, g, dr, t, os⟩ := s
  have la : a < hp.objs.size := Heap.lt_size ho
  refine PySem.W.set_plain (od := none) I.kIn ⟨ho, rfl, rfl, trivial⟩ T.sa ?_
  refine PySem.W.osa_openX (od := none) ov.sf I.kIn ⟨ho, rfl, rfl, trivial⟩ q2 (taker_of hno) fun b => ?_
  refine wpAny_bind (wpAny_pure (wpAny_bind (PySem.W.instanceDict_exc (c2 := .none) ho (PySem.W.looks_clsIn I.kIn hc) hd ?_)))
  have sz : hp.objs.size ≠ a := Nat.ne_of_gt la
  have e1 : (hp.push (PySem.W.dictOf [] 0)).get? hp.objs.size = some (PySem.W.dictOf [] 0) := Heap.get?_push_at rfl rfl
  have n1 : (hp.push (PySem.W.dictOf [] 0)).Ns hp.objs.size (fun _ => none) := ⟨_, #[], _, e1, rfl, fun e he => absurd he (by simp), fun _ => rfl⟩
  have I1 := I.laid (t' := t) (a := hp.objs.size) (o := exd hp.objs.size []) (h' := hp.push (PySem.W.dictOf [] 0)) (fun b o q => Heap.get?_push_of_some _ q) (Nat.le_refl _) (exd_ok (Heap.Ns1.of_empty n1) fun _ => True.intro)
  have h1 : (hp.push (PySem.W.dictOf [] 0)).get? a = some ({ cls := .ref C, data := .fields #[.ref t1, .none, .none, .none, .bool false, .none] } : Obj) := Heap.get?_push_of_some _ ho
  have I2 := I1.write (t' := t) (x := a) (e := a) (o := exo a C (some hp.objs.size)) (h' := (hp.push (PySem.W.dictOf [] 0)).update a fun o => { o with dict := some hp.objs.size }) (by rw [upd_ne (Ne.symm sz), e]; exact True.intro) (.inl rfl)
    (fun b o hb q => (Heap.get?_update_ne _ _ _ _ hb).trans q) ⟨_, Heap.get?_update_self _ h1 rfl⟩ (exo_ok (Heap.get?_update_self _ h1 rfl))
  have n2 : ((hp.push (PySem.W.dictOf [] 0)).update a fun o => { o with dict := some hp.objs.size }).Ns hp.objs.size (fun _ => none) :=
    ⟨_, #[], _, (Heap.get?_update_ne _ _ _ _ sz).trans e1, rfl, fun e he => absurd he (by simp), fun _ => rfl⟩
  show wpAny _ _ (storeInDict hp.objs.size (.str f _) f u) _ _ _
  refine PySem.HandSPX.store_in_new n2 fun h' tk' hn' hs => ?_
  have at2 : upd (upd H hp.objs.size (exd hp.objs.size [])) a (exo a C (some hp.objs.size)) hp.objs.size = some (exd hp.objs.size []) := by rw [upd_ne sz, upd_same]
  have hd2 : ∃ o, h'.get? hp.objs.size = some o := by
    obtain ⟨o, _, _, e', _⟩ := hn'
    exact ⟨o, e'⟩
  exact h _ _ (I.hok.fresh (Nat.le_refl _)) sz (I2.write (t' := tk') (x := hp.objs.size) (e := hp.objs.size) (o := exd hp.objs.size [(f, y)]) (by rw [at2]; exact True.intro) (.inl rfl) (fun b o hb q => (hs.2 b hb).trans q) hd2
    (exd_ok hn' (relO_put (fs := []) ry fun _ => True.intro)))
theorem put_more (T : ErrC X.K C) (I : Inv X pins σ H s) (e : H a = some (exo a C (some d))) (ed : H d = some (exd d fs)) (hl : fs.length ≤ 900) (hno : PySem.W.findIn X.K (.ref C) f = some none) (ry : RelV y u)
    (h : ∀ s', Inv X pins σ (upd H d (exd d ((f, y) :: fs))) s' → Q () s') : wpAny (model X.prog X.w) A (setAttr (.ref a) f u) Q E s := by
  obtain ⟨t1, ho⟩ := exo_at I.hok e
  obtain ⟨mA, hns, rel⟩ := exd_at I.hok ed
  have hw := within_of rel
  obtain ⟨B, nw, ini, bm, ov, q1, q2⟩ := T.ov
  obtain ⟨cd, hc, hd⟩ := PySem.W.any_some T.ex.hd
  obtain ⟨hp, g, dr, t, os⟩ := s
  obtain ⟨oD, _, _, hoD, _, _⟩ := hns.count hw
  refine PySem.W.set_plain (od := some oD) I.kIn ⟨ho, rfl, rfl, hoD⟩ T.sa ?_
  refine PySem.W.osa_openX (od := some oD) ov.sf I.kIn ⟨ho, rfl, rfl, hoD⟩ q2 (taker_of hno) fun b => ?_
  refine wpAny_bind (wpAny_pure (wpAny_bind (wpAny_bind (wpAny_loadPart ho (wpAny_bind ((PySem.W.looks_clsIn I.kIn hc).at ?_))))))
  rw [hd]
  refine wpAny_pure (a := some d) ?_
  refine PySem.OEX.store_in_old hns hw (by rw [List.length_map]; omega) fun h' tk' hn' hs => ?_
  have hd2 : ∃ o, h'.get? d = some o := by
    obtain ⟨o, _, _, e', _⟩ := hn'
    exact ⟨o, e'⟩
  exact h _ (I.write (t' := tk') (x := d) (e := d) (o := exd d ((f, y) :: fs)) (by rw [ed]; exact True.intro) (.inl rfl) (fun b o hb q => (hs.2 b hb).trans q) hd2 (exd_ok hn' (relO_put ry rel)))
end
/-- H is H0 and, at a, an error of C that is being made, with the fields fs -/
def Mkg (H0 H : Hp) (a C : Addr) (fs : List (Str × V)) : Prop := H0 a = none ∧ ((fs = [] ∧ H = upd H0 a (exo a C none)) ∨ ∃ d, H0 d = none ∧ d ≠ a ∧ H = upd (upd H0 d (exd d fs)) a (exo a C (some d)))
def tPut (K : PySem.W.Frag) (f : Str) (to te : TE) : TS := fun D σ H => te σ H fun y H1 => to σ H1 fun x H2 => ∃ (a C : Addr) (H0 : Hp) (fs : List (Str × V)), x = .ref a ∧ ErrC K C ∧ PySem.W.findIn K (.ref C) f = some none ∧ fs.length ≤ 900 ∧ Mkg H0 H2 a C fs ∧ ∀ H3, Mkg H0 H3 a C ((f, y) :: fs) → D.nx σ H3
theorem ps_put {X : Cx} {o e : Expr} {to te : TE} {f : Str} {p' pos : Pos} (ho : PE X o to) (he : PE X e te) (hs : swapsWith e (some (.Attribute o f p')) pos.line X.env = pure false := by rfl) : PS X (.Assign [.Attribute o f p'] e pos) (tPut X.K f to te) := by
  refine ⟨fun pins s σ H D I h => ?_⟩
  refine plainObj_wpAny_Assign_Attribute (thn (he.run pins s σ H _ I h) fun v s1 ⟨y, H1, I1, r1, q1⟩ => thn (ho.run pins s1 σ H1 _ I1 q1) fun u s2 ⟨x, H2, I2, r2, a, C, H0, fs, ex, T, hno, hl, mk, q⟩ => ?_) hs
  subst ex
  cases (show u = Value.ref a from r2)
  obtain ⟨na, ⟨rfl, rfl⟩ | ⟨d, nd, ne, rfl⟩⟩ := mk
  · refine put_first T I2 upd_same hno r1 fun d s' n ne J => ⟨σ, _, J, q _ ⟨na, .inr ⟨d, ?_, ne, ?_⟩⟩⟩
    · rw [upd_ne ne] at n
      exact n
    · funext b
      by_cases h1 : b = d
      · subst h1
        rw [upd_same, upd_ne ne, upd_same]
      · rw [upd_ne h1]
        by_cases h2 : b = a
        · subst h2
          rw [upd_same, upd_same]
        · rw [upd_ne h2, upd_ne h1, upd_ne h2, upd_ne h2, upd_ne h1]
  · refine put_more T I2 upd_same (by rw [upd_ne ne, upd_same]) hl hno r1 fun s' J => ⟨σ, _, J, q _ ⟨na, .inr ⟨d, nd, ne, ?_⟩⟩⟩
    funext b
    by_cases h1 : b = d
    · subst h1
      rw [upd_same, upd_ne ne, upd_same]
    · rw [upd_ne h1]
      by_cases h2 : b = a
      · subst h2
        rw [upd_same, upd_same]
      · rw [upd_ne h2, upd_ne h2, upd_ne h1, upd_ne h1]
/-- __init__ of such a class: the fields are its parameters behind self -/
def spMk (K : PySem.W.Frag) (fs : List Str) : Sp := fun vs H Q _ => ∃ (a C : Addr) (H0 : Hp) (ws : List V), vs = .ref a :: ws ∧ ws.length = fs.length ∧ ErrC K C ∧ (∀ f ∈ fs, PySem.W.findIn K (.ref C) f = some none) ∧ Mkg H0 H a C [] ∧
  ∀ H', Mkg H0 H' a C (fs.zip ws).reverse → Q .non H'
/-- an error of C(e, ..), made: a dict with its fields is left -/
def tMkE0 (C : Addr) (fs : List Str) (ta : TA) : L2.St → Hp → XK → Prop := fun σ H Q => ∃ R : List V → Hp → Prop, ta σ H R ∧ ∀ vs H1, R vs H1 → vs.length = fs.length ∧ ∀ d, H1 d = none → Q (.ref C) (some d) (upd H1 d (.xd (fs.zip vs).reverse))
def tMkE (C : Addr) (fs : List Str) (ta : TA) : L2.St → Hp → XK → Prop := fun σ H Q => ta σ H fun vs H1 => vs.length = fs.length ∧ ∀ d, H1 d = none → Q (.ref C) (some d) (upd H1 d (.xd (fs.zip vs).reverse))
/-- all that is known of an own error class -/
structure Er (P : Program) (w : World) (K : PySem.W.Frag) (mg : Str → Option Value) (base : Heap) (x : Str) (C : Addr) (fs : List Str) : Prop where
  T : ErrC K C
  g : mg x = some (.ref C)
  no : ∀ f ∈ fs, PySem.W.findIn K (.ref C) f = some none
  len : fs.length ≤ 900
  pos : 1 ≤ fs.length
  ini : ∃ (fI : Addr) (fd : FuncData), PySem.W.findIn K (.ref C) "__init__" = some (some (.ref fI)) ∧ PySem.W.typeIn K (.ref fI) = some (.type "function") ∧ Binds K fd ("self" :: fs) [] ∧ FnOk P w K mg base CX0 1 fI fd ("self" :: fs) (spMk K fs)
section
variable {X : Cx} {x : Str} {C : Addr} {fs : List Str} {e : Expr} {es : List Expr} {ta : TA} {p pos : Pos}
theorem pmk_err0 (R : Er X.prog X.w X.K X.mg X.base x C fs) (hr : Room 2 X.A) (hg : Gl X x) (ha : PA X (e :: es) ta)
    (hdb : (x == ("__debug__" : Str)) = false := by decide) (he : starEach (e :: es) X.env = (false, eval e X.env) :: starEach es X.env := by rfl) (hpl : (backTo pos (starEach es X.env)).any (·.1) = false := by rfl) :
    PMk X (.Call (.Name x p) (e :: es) [] pos) (tMkE0 C fs ta) := by
  intro pins s σ H Q I ⟨R0, h, imp⟩
  obtain ⟨B, nw, ini, bm, ov, q1, _⟩ := R.T.ov
  obtain ⟨fI, fd, iC, tI, hb, F1⟩ := R.ini
  refine wpAny_Call_Name_kw (ld_glob I hg R.g ?_ hdb)
  refine PySem.W.callWith_K (h₀ := X.base) I.ok.mod.kin R.T.kC (thn (ha.run pos pins s σ H _ I h) fun us s1 ⟨vs, H1, I1, r1, q0⟩ => ⟨I1.kIn, ?_⟩) he hpl
  show wpAny _ _ (call (.ref C) us) _ _ _
  obtain ⟨hz, qf⟩ := imp vs H1 q0
  obtain ⟨hp, g, dr, tk, os⟩ := s1
  obtain ⟨nm, N, qn, bs, bm', hdct, sn, sub, ab, col, dd, k0, k1, k2, k3, k5, hC, hT⟩ := PySem.W.excInit_of I1.kIn q1
  have up1 : hp.objs.size ≤ hp.objs.size + 1 := Nat.le_succ _
  have hn : H1 (hp.objs.size + 1) = none := I1.hok.fresh up1
  have kk : ∀ b o, hp.get? b = some o → ((hp.push (PySem.W.kdv_tup us)).push (PySem.HandSPX.excO C hp.objs.size)).get? b = some o := fun b o e => Heap.get?_push_of_some _ (Heap.get?_push_of_some _ e)
  have ge : ((hp.push (PySem.W.kdv_tup us)).push (PySem.HandSPX.excO C hp.objs.size)).get? (hp.objs.size + 1) = some (PySem.HandSPX.excO C hp.objs.size) := by heap_get
  have I2 : Inv X pins σ (upd H1 (hp.objs.size + 1) (exo (hp.objs.size + 1) C none)) ⟨(hp.push (PySem.W.kdv_tup us)).push (PySem.HandSPX.excO C hp.objs.size), g, dr, tk, os⟩ :=
    I1.laid (t' := tk) (a := hp.objs.size + 1) (o := exo (hp.objs.size + 1) C none) (h' := (hp.push (PySem.W.kdv_tup us)).push (PySem.HandSPX.excO C hp.objs.size)) kk up1 (exo_ok ge)
  have r2 : Vals (V.ref (hp.objs.size + 1) :: vs) (Value.ref (hp.objs.size + 1) :: us) := .cons rfl r1
  have zl : us.length = fs.length := by rw [← Paired.length r1, hz]
  have hus : us.length ≤ sizeLine := by
    rw [zl, sizeLine_eq]
    exact Nat.le_trans R.len (by decide)
  refine wpAny_call (PySem.HandSPX.call_own ov.fb hT hC (PySem.W.looks_findIn I1.kIn iC) (fun self => PySem.W.bind_fn I1.kIn self tI) hus
    (codeAny_mono (F1.run _ X.stack _ _ ⟨Value.ref (hp.objs.size + 1) :: us, []⟩ (Value.ref (hp.objs.size + 1) :: us)
      (Q := fun v H2 => v = .non ∧ Mkg H1 H2 (hp.objs.size + 1) C (fs.zip vs).reverse) _ (fun _ _ _ => False) (hr.make C us []) (I2.env0.make C us [])
      (by simpa using hb _ (Value.ref (hp.objs.size + 1) :: us) I2.kIn (by rw [List.length_append, List.length_cons, zl]; rfl)) r2 ⟨_, C, H1, vs, rfl, hz, R.T, R.no, ⟨hn, .inl ⟨rfl, rfl⟩⟩, fun H' m => ⟨rfl, m⟩⟩) fun r s' hq' => ?_))
  cases r with
  | error er => exact False.elim hq'
  | ok fl =>
    cases fl with
    | ret u =>
      obtain ⟨v, H2, os2, bare2, un2, hok2, rv, ev, na, mk⟩ := hq'
      subst ev
      obtain ⟨h2, g2, d2, t2, os'⟩ := s'
      refine ⟨rv, ?_⟩
      rcases mk with ⟨mk, _⟩ | ⟨d, nd, ne, rfl⟩
      · have l0 := congrArg List.length mk
        rw [List.length_reverse, List.length_zip, ← hz, Nat.min_self, hz, List.length_nil] at l0
        have := R.pos
        omega
      · refine mk_end (raises_own R.T.ex.hs R.T.tyC) I1 up1 kk un2 hok2 os2 bare2 upd_same (by rw [upd_ne ne, upd_same]) nd ?_
        have e : upd (L2.del (upd (upd H1 d (exd d (fs.zip vs).reverse)) (hp.objs.size + 1) (exo (hp.objs.size + 1) C (some d))) (hp.objs.size + 1)) d (.xd (fs.zip vs).reverse) = upd H1 d (.xd (fs.zip vs).reverse) := by
          funext b
          by_cases h1 : b = d
          · rw [h1, upd_same, upd_same]
          · rw [upd_ne h1, upd_ne h1]
            by_cases h2 : b = hp.objs.size + 1
            · rw [h2, L2.del_same, hn]
            · rw [L2.del_ne h2, upd_ne h2, upd_ne h1]
        rw [e]
        exact qf d nd
    | next => exact False.elim hq'
    | brk => exact False.elim hq'
    | cont => exact False.elim hq'
theorem pmk_err (R : Er X.prog X.w X.K X.mg X.base x C fs) (hr : Room 2 X.A) (hg : Gl X x) (ha : PA X (e :: es) ta)
    (hdb : (x == ("__debug__" : Str)) = false := by decide) (he : starEach (e :: es) X.env = (false, eval e X.env) :: starEach es X.env := by rfl) (hpl : (backTo pos (starEach es X.env)).any (·.1) = false := by rfl) :
    PMk X (.Call (.Name x p) (e :: es) [] pos) (tMkE C fs ta) := fun pins s σ H Q I h => pmk_err0 R hr hg ha hdb he hpl pins s σ H Q I ⟨_, h, fun _ _ z => z⟩
end

/-- an error as a value: it is told, with its fields -/
def tErr (C : Addr) (fs : List Str) (ta : TA) : TE := fun σ H Q => ta σ H fun vs H1 => vs.length = fs.length ∧ ∀ H2 a d, Same H1 H2 → H1 a = none → H1 d = none → KeptAt H2 a C d (fs.zip vs).reverse → Q (.ref a) H2
theorem PE.weak {X : Cx} {e : Expr} {t u : TE} (h : PE X e t) (k : ∀ σ H Q, u σ H Q → t σ H Q) : PE X e u := ⟨fun pins s σ H Q I z => h.run pins s σ H Q I (k _ _ _ z)⟩
theorem pe_err {X : Cx} {x : Str} {C : Addr} {fs : List Str} {e : Expr} {es : List Expr} {ta : TA} {p pos : Pos} (x0 : X.ex = []) (st : X.stack = X.env :: X.outer) (fl : X.env.frame = some X.env.locals) (R : Er X.prog X.w X.K X.mg X.base x C fs) (hr : Room 2 X.A) (hg : Gl X x) (ha : PA X (e :: es) ta)
    (hdb : (x == ("__debug__" : Str)) = false := by decide) (he : starEach (e :: es) X.env = (false, eval e X.env) :: starEach es X.env := by rfl) (hpl : (backTo pos (starEach es X.env)).any (·.1) = false := by rfl) :
    PE X (.Call (.Name x p) (e :: es) [] pos) (tErr C fs ta) := by
  refine PE.weak (pe_kept x0 st fl (pmk_err0 R hr hg ha hdb he hpl)) fun σ H Q h => ⟨_, h, fun vs H1 ⟨l, q⟩ => ⟨l, fun d hd a ha => ?_⟩⟩
  have ne : a ≠ d := fun z => by rw [z, upd_same] at ha; cases ha
  have ha1 : H1 a = none := by rw [upd_ne ne] at ha; exact ha
  refine q _ a d ((same_new hd).trans (same_new ha)) ha1 hd ⟨upd_same, ?_⟩
  rw [upd_ne (Ne.symm ne), upd_same]
end Nb
namespace Nb
open PySem PySem.Spec PyProof.Rows Builtin.ObjectAttr
open L2 hiding del del_ne del_same
/-- all of it as one answer of the written part -/
def errB (K : PySem.W.Frag) (C : Addr) (bm : List Value) (nw : String) (fs : List Str) : Bool :=
  PySem.W.excInitIn K C bm nw && (PySem.W.excOver K C bm && (decide (PySem.W.findIn K (.ref C) "__setattr__" = some (some (.builtin "object.__setattr__"))) && (decide (PySem.W.typeIn K (.ref C) = some (.type "type")) && (PySem.W.keepIn K (.ref C) &&
  (decide (PySem.W.findIn K (.ref C) "__getattribute__" = some (some (.builtin "BaseException.__getattribute__"))) && (decide (PySem.W.findIn K (.ref C) "__getattr__" = some none) && (decide (PySem.W.subIn K (.ref C) (.type "BaseException") = some true) && (PySem.W.hasDictIn K C &&
  (decide (PySem.W.findIn K (.ref C) "__class__" = some (some (.builtin "object.__class__"))) && (decide (PySem.W.specialIn K (.builtin "object.__class__") "__get__" = some (some (.builtin "getset_descriptor.__get__"))) && (decide (PySem.W.takesIn K (.builtin "object.__class__") = some true) &&
  (decide (PySem.W.mroIn K C (.type "object") = some true) && fs.all fun f => decide (PySem.W.findIn K (.ref C) f = some none)))))))))))))
theorem er_mk {P : Program} {w : World} {K : PySem.W.Frag} {mg : Str → Option Value} {base : Heap} {x : Str} {C fI : Addr} {fd : FuncData} {fs : List Str} {B nw ini : String} {bm : List Value} (ov : Over B nw ini bm) (g : mg x = some (.ref C)) (q : errB K C bm nw fs = true)
    (i : PySem.W.findIn K (.ref C) "__init__" = some (some (.ref fI))) (t : PySem.W.typeIn K (.ref fI) = some (.type "function")) (b : Binds K fd ("self" :: fs) []) (G : FnOk P w K mg base CX0 1 fI fd ("self" :: fs) (spMk K fs)) (l1 : fs.length ≤ 900) (l2 : 1 ≤ fs.length) : Er P w K mg base x C fs := by
  unfold errB at q
  simp only [Bool.and_eq_true, decide_eq_true_eq, List.all_eq_true] at q
  obtain ⟨q1, q2, q3, q4, q5, q6, q7, q8, q9, q10, q11, q12, q13, q14⟩ := q
  exact ⟨⟨⟨B, nw, ini, bm, ov, q1, q2⟩, q3, q4, q5, ⟨q6, q7, q8, q9, q10, q11, q12, q13⟩⟩, g, q14, l1, l2, fI, fd, i, t, b, G⟩
theorem Er.xf {P : Program} {w : World} {K : PySem.W.Frag} {mg : Str → Option Value} {base : Heap} {x : Str} {C : Addr} {fs : List Str} (R : Er P w K mg base x C fs) : XfC K C := ⟨R.T.ex.hg, R.T.ex.hk, R.T.ex.hs, R.T.ex.hd⟩
/-- isinstance(e, (C, D, ..)) of a kept error -/
def rIsT (K : PySem.W.Frag) : List V → Hp → VK → Prop := fun xs H Q => ∃ (a D dd t : Addr) (fs : List (Str × V)) (cs : List V) (cvs : List Value) (b : Bool), xs = [.ref a, .ref t] ∧ ExcC K D ∧ KeptAt H a D dd fs ∧ SqT K H t cs ∧ (∀ us, Vals cs us → us = cvs) ∧ PySem.W.kitAny K (.ref D) cvs = some b ∧ Q (.bl b) H
theorem call_isKt {X : Cx} : CallR X (.builtin "isinstance") (rIsT X.K) := by
  intro pins s σ H xs us Q I r h
  obtain ⟨a, D, dd, t, fs, cs, cvs, b, rfl, C, ka, ht, hcv, e, q⟩ := h
  obtain ⟨oe, od, mA, J, _⟩ := kept_inst I.hok ka
  obtain ⟨its, ri, ⟨⟨tc, td, tdat, tsl⟩, et, ec1, n2, ed1⟩, _⟩ := I.tuple ht
  cases (show tc = Value.type "tuple" from ec1)
  cases (show tdat = Data.seq its.toArray n2 from ed1)
  cases r with
  | cons rx rr => cases rr with
    | cons rt rr =>
      cases rr
      cases rx
      cases rt
      obtain ⟨cd, hc, _⟩ := PySem.W.any_some C.hd
      have ec := hcv _ ri
      subst ec
      exact PySem.W.kia_tup (PySem.W.kitx_exc (by rw [hc]; rfl) C.hg C.hk C.hs C.ha C.hn C.ht C.hm) I.kIn J et e (fun z => nomatch z) fun tk => ⟨.bl b, H, I.kept (t' := tk) fun _ _ z => z, rfl, q⟩
end Nb

set_option Elab.async false
set_option linter.all false
set_option maxRecDepth 100000
set_option maxHeartbeats 4000000
namespace K07
open PySem Nb
open L2 hiding del del_ne del_same
def topS (i : Nat) : Stmt := PySem.Challenge.pw_nextbehind_k07_merges_related.main.body.getD i (.Pass ⟨0, 0, 0, 0⟩)
def clsAt (s : Stmt) (j : Nat) : Stmt := match s with
  | .ClassDef _ _ _ body _ _ _ _ _ _ _ => body.getD j (.Pass ⟨0, 0, 0, 0⟩)
  | _ => .Pass ⟨0, 0, 0, 0⟩
structure Txt (mg : Str → Option Value) : Prop where
  len : mg "len" = none
  isinstance : mg "isinstance" = none
  str : mg "str" = none
  tuple : mg "tuple" = none
  all : mg "all" = none
  set : mg "set" = none
  list : mg "list" = none
  range : mg "range" = none
  enumerate : mg "enumerate" = none
  max : mg "max" = none
  min : mg "min" = none
section
variable {P : Program} {w : World} {K : PySem.W.Frag} {mg : Str → Option Value} {base : Heap}
abbrev s_h_source : Stmt := topS 19
theorem sc_h_source : FnScope ["_law_script", "_law_k", "_law_cell"] ["_law_script", "_law_k"] (defScope s_h_source) := ⟨rfl, rfl, rfl, by decide +kernel, rfl, by decide +kernel, by decide +kernel⟩
theorem ok_h_source {f : Addr} {fd : FuncData} (F : Fun K "_law_source" "_law_source" s_h_source f fd) (T : Txt mg) : FnOk P w K mg base CX0 1 f fd ["_law_script", "_law_k"] (spSource K) := by
  refine F.ok sc_h_source (fun vs H Q E h => ?_) (fun cdv A outer s H vs Q E hr h => ?_)
  · obtain ⟨a, ns, k, rfl, _⟩ := h
    rfl
  · obtain ⟨a, ns, k, rfl, hS, hlen, hk, q⟩ := h
    refine ⟨_, pss_cons (ps_set (i := 2) sc_h_source.nd rfl (Or.inl rfl) (pe_ifExp (pt_cmpR (op_neD hr.units) (pv 0) (pe_lst pa_nil) (nomark _)) (pe_ix ix_list (pv 0) (pe_op op_modN (pv 1) (pe_callB call_len_seq (by rfl) T.len PySem.boot_len (pa_cons (pv 0) pa_nil))) (fun _ _ => rfl)) pe_int))
        (pss_one (ps_ret (pe_lst (pa_cons (pv 2) (pa_cons (pe_op op_mul pe_int (pv 1)) (pa_cons (pe_ifExp (pt_cmpR op_ge (pv 2) (pe_op op_pow pe_int pe_int) (nomark _)) (pe_op op_fdivW (pv 2) (pe_op op_pow pe_int pe_int)) pe_int) pa_nil)))))), ?_⟩
    refine ⟨_, rfl, Nat.zero_le _, fun l hl => ?_⟩
    have s1 : Same H (upd H l (.lst [])) := same_new hl
    refine ⟨.list (ns.map PyData.int), .list [], .lst (s1.seq hS) (dp_ints ns), .lst (SqL.of upd_same) .nil, (fine_ints ns).shaped (by decide), by decide, _, rfl, ?_⟩

    rw [eqv_nil]
    cases ns with
    | nil =>
      refine iteF ?_
      refine ⟨_, rfl, _, rfl, _, _, rfl, rfl, .inl (by decide), _, rfl, _, _, rfl, rfl, ⟨by decide, by decide, by decide⟩, _, _, rfl, rfl, _, rfl, ?_⟩
      refine iteF ⟨(by show 3 ≤ sizeLine; decide), fun p hp => ?_⟩
      have s2 := s1.trans (same_new (o := .lst [.int 1, .int (3 * (k : Int)), .int 0]) hp)
      exact q _ p s2 (s1.free hp) ⟨1, 3 * (k : Int), 0, upd_same, by omega, by omega⟩
    | cons n ns =>
      refine iteT ?_
      have hl2 : ((k : Int).fmod ((((n :: ns).map V.int).length : Nat) : Int)) < (((n :: ns).map V.int).length : Nat) ∧ 0 ≤ (k : Int).fmod ((((n :: ns).map V.int).length : Nat) : Int) :=
        ⟨(fmod_pos _ (by simp; omega)).2, (fmod_pos _ (by simp; omega)).1⟩
      obtain ⟨j, hj⟩ : ∃ j : Nat, (k : Int).fmod ((((n :: ns).map V.int).length : Nat) : Int) = (j : Int) := ⟨_, (Int.toNat_of_nonneg hl2.2).symm⟩
      have hjl : j < (n :: ns).length := by
        have h1 := hl2.1
        rw [hj] at h1
        simp at h1 ⊢
        omega
      refine ⟨_, rfl, _, rfl, _, rfl, a, _, rfl, .inl (s1.seq hS), _, _, rfl, rfl, (by simp; omega), a, _, _, .int (n :: ns)[j], rfl, rfl, s1.seq hS, ?_, ?_⟩
      · rw [hj]
        refine atI_nat ?_
        rw [List.getElem?_map, List.getElem?_eq_getElem hjl]
        rfl
      · refine ⟨_, rfl, _, rfl, _, _, rfl, rfl, .inl (by decide), _, rfl, _, _, rfl, rfl, ⟨by decide, by decide, by decide⟩, _, _, rfl, rfl, _, rfl, ?_⟩
        refine ite2 (fun _ => ?_) (fun _ => ?_)
        · refine ⟨_, rfl, _, _, rfl, rfl, ⟨by decide, by decide, by decide⟩, _, _, rfl, rfl, wide_div (b := 70) (by decide) (by decide) (by decide) (by decide), (by show 3 ≤ sizeLine; decide), fun p hp => ?_⟩
          exact q _ p (s1.trans (same_new hp)) (s1.free hp) ⟨_, 3 * (k : Int), _, upd_same, by omega, by omega⟩
        · refine ⟨(by show 3 ≤ sizeLine; decide), fun p hp => ?_⟩
          exact q _ p (s1.trans (same_new hp)) (s1.free hp) ⟨_, 3 * (k : Int), _, upd_same, by omega, by omega⟩
abbrev s_h_next : Stmt := topS 20
theorem sc_h_next : FnScope ["_law_source_here", "_law_many", "_law_found", "_law_primes", "_law_prime"] ["_law_source_here", "_law_many"] (defScope s_h_next) := ⟨rfl, rfl, rfl, by decide +kernel, rfl, by decide +kernel, by decide +kernel⟩
theorem ok_h_next {f : Addr} {fd : FuncData} (F : Fun K "_law_next" "_law_next" s_h_next f fd) (T : Txt mg) : FnOk P w K mg base CX0 1 f fd ["_law_source_here", "_law_many"] (spNext) := by
  refine F.ok sc_h_next (fun vs H Q E h => ?_) (fun cdv A outer s H vs Q E hr h => ?_)
  · obtain ⟨p, m, b, G, rfl, _⟩ := h
    rfl
  · obtain ⟨p, m, b, G, rfl, m1, m2, ⟨c, n, r, hp, hn, hb⟩, hB, hG, hs, q⟩ := h
    refine ⟨_, pss_cons (ps_if (pt_cmpR op_gt (pe_ix ix_list (pv 0) pe_int (fun _ _ => rfl)) pe_int (nomark _)) (pss_cons (ps_set (i := 2) sc_h_next.nd rfl (Or.inl rfl) (pe_op op_modN (pe_ix ix_list (pv 0) pe_int (fun _ _ => rfl)) (pv 1)))
        (pss_cons (ps_asg (pe_op op_fdivN (pe_ix ix_list (pv 0) pe_int (fun _ _ => rfl)) (pv 1)) (pg_sub (pv 0) pe_int set_list))
        (pss_one (ps_ret (pv 2))))) pss_nil)
        (pss_cons (ps_asg (pe_op op_add (pe_ix ix_list (pv 0) pe_int (fun _ _ => rfl)) pe_int) (pg_sub (pv 0) pe_int set_list))
        (pss_cons (ps_set (i := 3) sc_h_next.nd rfl (Or.inl rfl) (pe_lst (pa_cons pe_int (pa_cons pe_int (pa_cons pe_int (pa_cons pe_int (pa_cons pe_int (pa_cons pe_int (pa_cons pe_int (pa_cons pe_int pa_nil))))))))))
        (pss_cons (ps_set (i := 4) sc_h_next.nd rfl (Or.inl rfl) (pe_ix ix_list (pe_op op_cat (pv 3) (pe_lst (pa_cons pe_int (pa_cons pe_int (pa_cons pe_int pa_nil))))) (pe_op op_modN (pe_ix ix_list (pv 0) pe_int (fun _ _ => rfl)) pe_int) (fun _ _ => rfl)))
        (pss_one (ps_ret (pe_op op_modN (pe_op op_fdivN (pe_op op_modN (pe_op op_pow (pe_op op_add (pe_op op_add (pe_op op_modN (pe_ix ix_list (pv 0) pe_int (fun _ _ => rfl)) (pv 4)) (pe_op op_mul pe_int (pe_ix ix_list (pv 0) pe_int (fun _ _ => rfl)))) pe_int) pe_int) (pv 4)) pe_int) (pv 1))))))), ?_⟩
    refine ⟨_, rfl, p, _, _, _, rfl, rfl, SqL.of hp, atI_nat (j := 2) rfl, _, _, rfl, rfl, _, rfl, ?_⟩
    refine ite2 (fun _ => ?_) (fun _ => ?_)
    · refine ⟨_, rfl, p, _, _, _, rfl, rfl, SqL.of hp, atI_nat (j := 2) rfl, _, rfl, _, _, rfl, rfl, (by omega), ?_⟩
      refine ⟨_, rfl, p, _, _, _, rfl, rfl, SqL.of hp, atI_nat (j := 2) rfl, _, rfl, _, _, rfl, rfl, ⟨by omega, by omega⟩, _, rfl, p, _, _, 2, rfl, rfl, hp, rfl, _, rfl, ?_⟩
      have f1 := fmod_pos r m1
      exact q _ _ f1.1 f1.2 (same_at hs hG) ⟨c, n, _, upd_same, hn, by omega⟩
    · refine ⟨_, rfl, p, _, _, _, rfl, rfl, SqL.of hp, atI_nat (j := 1) rfl, _, _, rfl, rfl, _, rfl, p, _, _, 1, rfl, rfl, hp, rfl, ?_⟩
      refine ⟨(by show 8 ≤ sizeLine; decide), fun l1 hl1 => ?_⟩
      have npl1 : p ≠ l1 := ne_of_none upd_same hl1
      have hp1 : (upd (upd H p (.lst [.int c, .int (n + 1), .int r])) l1 (.lst ((primes.take 8).map V.int))) p = some (.lst [.int c, .int (n + 1), .int r]) := by
        rw [upd_ne npl1]
        exact upd_same
      refine ⟨_, rfl, (by show 3 ≤ sizeLine; decide), fun l2 hl2 => ?_⟩
      have npl2 : p ≠ l2 := ne_of_none hp1 hl2
      have nl12 : l1 ≠ l2 := ne_of_none upd_same hl2
      refine ⟨l1, l2, _, _, rfl, rfl, (by rw [upd_ne nl12]; exact upd_same), upd_same, (by show 8 + 3 ≤ sizeLine; decide), fun l3 hl3 => ?_⟩
      have hp2 : ∀ o2 : HO, (upd (upd (upd H p (.lst [.int c, .int (n + 1), .int r])) l1 (.lst ((primes.take 8).map V.int))) l2 o2) p = some (.lst [.int c, .int (n + 1), .int r]) := fun o2 => by
        rw [upd_ne npl2]
        exact hp1
      have npl3 : p ≠ l3 := ne_of_none (hp2 _) hl3
      have hp3 : ∀ o2 o3 : HO, (upd (upd (upd (upd H p (.lst [.int c, .int (n + 1), .int r])) l1 (.lst ((primes.take 8).map V.int))) l2 o2) l3 o3) p = some (.lst [.int c, .int (n + 1), .int r]) := fun o2 o3 => by
        rw [upd_ne npl3]
        exact hp2 _
      have f0 := fmod_pos (n + 1) (show (1 : Int) ≤ 11 by decide)
      obtain ⟨pr, ep, pr2, pr31⟩ := prime_at _ f0.1 f0.2
      refine ⟨_, rfl, p, _, _, _, rfl, rfl, SqL.of (hp3 _ _), atI_nat (j := 1) rfl, _, _, rfl, rfl, (by show (11 : Int) ≠ 0; decide), l3, _, _, _, rfl, rfl, SqL.of upd_same, ep, ?_⟩
      have f1 := fmod_pos c (show 1 ≤ pr by omega)
      refine ⟨_, rfl, p, _, _, _, rfl, rfl, SqL.of (hp3 _ _), atI_nat (j := 0) rfl, _, rfl, _, _, rfl, rfl, (by omega), _, rfl, p, _, _, _, rfl, rfl, SqL.of (hp3 _ _), atI_nat (j := 1) rfl, _, _, rfl, rfl, .inl (by decide), _, _, rfl, rfl,
        _, _, rfl, rfl, _, _, rfl, rfl, ⟨by decide, by decide, (by omega)⟩, _, rfl, _, _, rfl, rfl, (by omega), _, _, rfl, rfl, ⟨by decide, by decide⟩, _, rfl, _, _, rfl, rfl, (by omega), ?_⟩
      have f2 := fmod_pos ((((c.fmod pr + 7919 * (n + 1) + 1) ^ (5 : Int).toNat).fmod pr).fdiv 13) m1
      have s1 : Same G (upd H p (.lst [.int c, .int (n + 1), .int r])) := same_at hs hG
      exact q _ _ f2.1 f2.2 (((s1.trans (same_new hl1)).trans (same_new hl2)).trans (same_new hl3)) ⟨c, n + 1, r, hp3 _ _, by omega, by omega⟩
abbrev s_is_name : Stmt := topS 7
theorem sc_is_name : FnScope ["thing", "letter"] ["thing"] (defScope s_is_name) := ⟨rfl, rfl, rfl, by decide +kernel, rfl, by decide +kernel, by decide +kernel⟩
def sx_is_name_0 : Scope := { kind := .function, names := [(".0", .local), ("letter", .local)], isGenerator := false, isCoroutine := false, more := [] }
theorem ok_is_name {f : Addr} {fd : FuncData} (F : Fun K "is_name" "is_name" s_is_name f fd) (T : Txt mg) {t_LONGEST_NAME : Tok} (m_LONGEST_NAME : mg "_LONGEST_NAME" = some (.int 8 t_LONGEST_NAME)) : FnOk P w K mg base CX0 1 f fd ["thing"] (spName K) := by
  refine F.ok sc_is_name (fun vs H Q E h => ?_) (fun cdv A outer s H vs Q E hr h => ?_)
  · obtain ⟨x, rfl, _⟩ := h
    rfl
  · obtain ⟨x, rfl, hx, q⟩ := h
    refine ⟨_, pss_cons (ps_if (PW.pt (pw_or (pt_not (pt_val (pe_callB call_isi (by rfl) T.isinstance (by decide +kernel) (pa_cons (pv 0) (pa_cons (pe_bltn (v := .ty "str") (by rfl) T.str (by decide +kernel) rfl) pa_nil))))) (pw_or1 (pt_not (pt_chain op_le op_le pe_int (pe_callB call_len_str (by rfl) T.len PySem.boot_len (pa_cons (pv 0) pa_nil)) (pe_glob (v := .int 8) (by rfl) m_LONGEST_NAME ⟨_, rfl⟩)))))) (pss_one (ps_ret pe_bl)) pss_nil)
        (pss_one (ps_ret (pe_callB (cr_all rfl) (by rfl) T.all (by decide +kernel) (pa_cons (pe_lc (own := [("letter", 1)]) (g := gName 1) (tt := tYes) rfl sc_is_name.nd (pi_str (pv 0)) (blkOk_by (N := ["thing", "letter"]) (sc := (defScope s_is_name)) (by decide +kernel)) (fun _ _ _ _ _ => (pg_name (i := 1) sc_is_name.nd rfl (Or.inl rfl))) (fun _ _ _ _ _ => pts_nil) (fun _ _ _ _ _ => (pe_chain op_le_str op_le_str pe_str (pv 1) pe_str))) pa_nil)))), ?_⟩
    rcases hx with ⟨z, rfl, hz, _⟩ | ⟨hno, ty, hty, hk⟩
    · refine ⟨_, rfl, _, _, .type "str", _, true, rfl, .ty _, .base (.str z), kit_ty (by decide +kernel), _, rfl, ?_⟩
      refine iteF ⟨_, rfl, z, rfl, Nat.le_of_lt (small1000 hz), ?_⟩
      refine ⟨_, _, rfl, rfl, _, rfl, ?_⟩
      have big : ∀ b : Bool, isNm z = ((decide ((1 : Int) ≤ (z.length : Int)) && decide ((z.length : Int) ≤ 8)) && z.cps.toList.all letterOk) := fun _ => rfl
      by_cases h1 : (1 : Int) ≤ (z.length : Int)
      · rw [decide_eq_true h1]
        refine iteT ?_
        refine ⟨_, _, rfl, rfl, _, rfl, ?_⟩
        by_cases h8 : (z.length : Int) ≤ 8
        · rw [decide_eq_true h8]
          refine iteF ?_
          refine ⟨_, rfl, z, rfl, fun D hD => ?_⟩
          refine lc_str (x := z) (fun i H' => Same H H' ∧ H' D = some (.lst (((z.cps.toList.take i).map letterOk).map V.bl))) ⟨same_new hD, upd_same⟩ (fun i c H' hc ⟨s1, eD⟩ => ?_) (fun H' ⟨s1, eD⟩ => ?_)
          · refine ⟨rfl, ?_⟩
            have hil : i < z.cps.toList.length := (List.getElem?_eq_some_iff.mp hc).1
            have hzl : z.cps.toList.length = z.length := Array.length_toList
            have next : (((z.cps.toList.take i).map letterOk).map V.bl) ++ [V.bl (letterOk c)] = (((z.cps.toList.take (i + 1)).map letterOk).map V.bl) := by
              rw [List.take_add_one, hc]
              simp
            have sm : (((z.cps.toList.take i).map letterOk).map V.bl).length < sizeLine := by
              rw [List.length_map, List.length_map, List.length_take]
              exact Nat.lt_of_le_of_lt (Nat.min_le_left _ _) (small1000 (by omega))
            refine ⟨_, rfl, _, _, rfl, rfl, _, rfl, ?_⟩
            by_cases ha : [c] < lowA
            · rw [decide_eq_true (show ((⟨#[c]⟩ : Str).cps.toList < ("a" : Str).cps.toList) from ha)]
              refine iteF ⟨_, eD, sm, same_at s1 hD, ?_⟩
              have e : letterOk c = false := by
                unfold letterOk
                rw [decide_eq_true ha]
                rfl
              rw [← next, e]
              exact upd_same
            · rw [decide_eq_false (show ¬ ((⟨#[c]⟩ : Str).cps.toList < ("a" : Str).cps.toList) from ha)]
              refine iteT ⟨_, _, rfl, rfl, _, eD, sm, same_at s1 hD, ?_⟩
              have e : letterOk c = !decide (lowZ < [c]) := by
                unfold letterOk
                rw [decide_eq_false ha]
                rfl
              rw [← next, e]
              exact upd_same
          · refine ⟨D, _, rfl, SqL.of eD, ?_⟩
            have e : (((z.cps.toList.take z.cps.toList.length).map letterOk).all id) = isNm z := by
              rw [List.take_length]
              unfold isNm
              rw [decide_eq_true h1, decide_eq_true h8]
              simp [List.all_map]
            rw [e]
            exact q H' s1
        · rw [decide_eq_false h8]
          refine iteT ?_
          have e : nameV (.str z) = false := by
            show isNm z = false
            unfold isNm
            rw [decide_eq_false h8]
            simp
          rw [← e]
          exact q H (Same.refl H)
      · rw [decide_eq_false h1]
        refine iteF ⟨_, rfl, ?_⟩
        refine iteT ?_
        have e : nameV (.str z) = false := by
          show isNm z = false
          unfold isNm
          rw [decide_eq_false h1]
          simp
        rw [← e]
        exact q H (Same.refl H)
    · refine ⟨_, rfl, _, _, .type ty, _, false, rfl, .ty _, hty, kit_ty hk, _, rfl, ?_⟩
      refine iteT ?_
      have e : nameV x = false := by
        cases x with
        | str z => exact absurd rfl (hno z)
        | _ => rfl
      rw [← e]
      exact q H (Same.refl H)
abbrev s_are_names : Stmt := topS 8
theorem sc_are_names : FnScope ["thing", "item"] ["thing"] (defScope s_are_names) := ⟨rfl, rfl, rfl, by decide +kernel, rfl, by decide +kernel, by decide +kernel⟩
def sx_are_names_0 : Scope := { kind := .function, names := [(".0", .local), ("item", .local), ("is_name", .globalImplicit)], isGenerator := false, isCoroutine := false, more := [] }
theorem ok_are_names {f : Addr} {fd : FuncData} (F : Fun K "are_names" "are_names" s_are_names f fd) (T : Txt mg) (D_is_name : Dn P w K mg base CX0 1 "is_name" ["thing"] (spName K)) : FnOk P w K mg base CX0 2 f fd ["thing"] (spOf K namesV) := by
  refine F.ok sc_are_names (fun vs H Q E h => ?_) (fun cdv A outer s H vs Q E hr h => ?_)
  · obtain ⟨x, rfl, _⟩ := h
    rfl
  · obtain ⟨x, rfl, hx, q⟩ := h
    refine ⟨_, pss_one (ps_ret (pe_and (pe_callB call_isi (by rfl) T.isinstance (by decide +kernel) (pa_cons (pv 0) (pa_cons (pe_bltn (v := .ty "tuple") (by rfl) T.tuple (by decide +kernel) rfl) pa_nil))) (pe_one (pe_callB (cr_all rfl) (by rfl) T.all (by decide +kernel) (pa_cons (pe_lc (own := [("item", 1)]) (g := gName 1) (tt := tYes) rfl sc_are_names.nd (pi_tup (pv 0)) (blkOk_by (N := ["thing", "item"]) (sc := (defScope s_are_names)) (by decide +kernel)) (fun _ _ _ _ _ => (pg_name (i := 1) sc_are_names.nd rfl (Or.inl rfl))) (fun _ _ _ _ _ => pts_nil) (fun _ _ _ _ _ => (pe_D D_is_name (hr.mono (by decide)) (by rfl) pass0 (pa_cons (pv 1) pa_nil)))) pa_nil))))), ?_⟩
    rcases hx with ⟨a, xs, rfl, ha, hl, hi⟩ | ⟨ht, ty, hty, hk⟩
    · refine ⟨_, rfl, _, _, .type "tuple", _, true, rfl, .ty _, rd_ty ha, kit_ty (by decide +kernel), _, rfl, ?_⟩
      refine iteT ⟨_, rfl, a, rfl, ⟨_, (.inl ha : SqT K H a xs)⟩, fun D hD => ?_⟩
      refine lc_tup (K := K) (a := a) (xs := xs) (fun i H' => Same H H' ∧ H' D = some (.lst (((xs.take i).map nameV).map V.bl))) ⟨same_new hD, upd_same⟩ (fun i H' _ ⟨s1, _⟩ => (.inl (rd_same s1 ha))) (fun i y H' hy ⟨s1, eD⟩ => ?_) (fun H' ⟨s1, eD⟩ => ?_)
      · refine ⟨rfl, _, rfl, y, rfl, known_same s1 (hi y (List.mem_of_getElem? hy)).1, fun H2 s2 => ?_⟩
        refine ⟨_, s2 _ _ eD, ?_, same_at (s1.trans s2) hD, ?_⟩
        · rw [List.length_map, List.length_map, List.length_take]
          exact Nat.lt_of_le_of_lt (Nat.min_le_right _ _) (small1000 hl)
        · rw [upd_same, List.take_add_one, hy]
          simp
      · refine ⟨D, _, rfl, SqL.of eD, ?_⟩
        have e : ((xs.take xs.length).map nameV).all id = namesV H (.ref a) := by
          unfold namesV
          rw [tupOf_at ha, List.take_length]
          simp [List.all_map]
        rw [e]
        exact q H' s1
    · refine ⟨_, rfl, _, _, .type ty, _, false, rfl, .ty _, hty, kit_ty hk, _, rfl, ?_⟩
      refine iteF ?_
      have e : namesV H x = false := by
        unfold namesV
        rw [ht _ (Same.refl _)]
      rw [← e]
      exact q H (Same.refl H)
abbrev s_are_different_names : Stmt := topS 9
theorem sc_are_different_names : FnScope ["thing"] ["thing"] (defScope s_are_different_names) := ⟨rfl, rfl, rfl, by decide +kernel, rfl, by decide +kernel, by decide +kernel⟩
theorem ok_are_different_names {f : Addr} {fd : FuncData} (F : Fun K "are_different_names" "are_different_names" s_are_different_names f fd) (T : Txt mg) (D_are_names : Dn P w K mg base CX0 2 "are_names" ["thing"] (spOf K namesV)) : FnOk P w K mg base CX0 3 f fd ["thing"] (spOf K diffOf) := by
  refine F.ok sc_are_different_names (fun vs H Q E h => ?_) (fun cdv A outer s H vs Q E hr h => ?_)
  · obtain ⟨x, rfl, _⟩ := h
    rfl
  · obtain ⟨x, rfl, hx, q⟩ := h
    refine ⟨_, pss_one (ps_ret (pe_and (pe_D D_are_names (hr.mono (by decide)) (by rfl) pass0 (pa_cons (pv 0) pa_nil)) (pe_one (pe_cmpR op_eq (pe_manyS (by rfl) T.len (by rfl) T.set (pv 0)) (pe_callB call_len_seq (by rfl) T.len PySem.boot_len (pa_cons (pv 0) pa_nil)) (nomark _))))), ?_⟩
    refine ⟨_, rfl, x, rfl, hx, fun H' s1 => ?_⟩
    refine ⟨_, rfl, ?_⟩
    rcases hx with ⟨a, xs, rfl, ha, hl, hi⟩ | ⟨ht, ty, hty, hk⟩
    · have e1 : namesV H (.ref a) = xs.all nameV := by
        unfold namesV
        rw [tupOf_at ha]
      have e2 : diffOf H (.ref a) = diffV xs := by
        unfold diffOf
        rw [tupOf_at ha]
      rw [e1]
      by_cases hn : xs.all nameV = true
      · rw [hn]
        refine iteT ⟨_, rfl, a, strsOf xs, rfl, ?_, ?_, _, rfl, a, xs, rfl, .inr ((.inl (rd_same s1 ha))), rfl, ?_⟩
        · rw [← strs_map hn]
          exact (.inl (rd_same s1 ha))
        · have : (strsOf xs).length ≤ xs.length := List.length_filterMap_le ..
          omega
        · have e3 : decide (V.int ((seen (strsOf xs)).length : Nat) = V.int (xs.length : Nat)) = diffOf H (.ref a) := by
            rw [e2]
            unfold diffV
            rw [hn, Bool.true_and, Bool.eq_iff_iff]
            simp
          show Q (.bl (decide (V.int ((seen (strsOf xs)).length : Nat) = V.int (xs.length : Nat)))) H'
          rw [e3]
          exact q H' s1
      · have hf : xs.all nameV = false := by simpa using hn
        rw [hf]
        refine iteF ?_
        have e3 : diffOf H (.ref a) = false := by
          rw [e2]
          unfold diffV
          rw [hf]
          rfl
        rw [← e3]
        exact q H' s1
    · have e1 : namesV H x = false := by
        unfold namesV
        rw [ht _ (Same.refl _)]
      have e2 : diffOf H x = false := by
        unfold diffOf
        rw [ht _ (Same.refl _)]
      rw [e1]
      refine iteF ?_
      rw [← e2]
      exact q H' s1
end
end K07

set_option Elab.async false
set_option linter.all false
set_option maxRecDepth 100000
set_option maxHeartbeats 4000000
namespace K07
open PySem Nb
open L2 hiding del del_ne del_same
section
variable {P : Program} {w : World} {K : PySem.W.Frag} {mg : Str → Option Value} {base : Heap}
abbrev s_Merge__prepare : Stmt := clsAt (topS 12) 4
theorem sc_Merge__prepare : FnScope ["self", "name"] ["self", "name"] (defScope s_Merge__prepare) := ⟨rfl, rfl, rfl, by decide +kernel, rfl, by decide +kernel, by decide +kernel⟩
theorem ok_Merge__prepare {f : Addr} {fd : FuncData} (F : Fun K "_prepare" "Merge._prepare" s_Merge__prepare f fd) {C_Merge : Addr} (T : Txt mg) (K_Merge : Kl K mg "Merge" C_Merge ["rows", "places", "gone", "heads", "behind", "ready"]) : FnOk P w K mg base CX0 1 f fd ["self", "name"] (spPrepare C_Merge) := by
  refine F.ok sc_Merge__prepare (fun vs H Q E h => ?_) (fun cdv A outer s H vs Q E hr h => ?_)
  · obtain ⟨m, T0, P0, g, hd, b, rows, F0, L, gone, hs, rdy, x, rfl, _⟩ := h
    rfl
  · obtain ⟨m, T0, P0, g, hd, b, rows, F0, L, gone, hs, rdy, x, rfl, M, S, hx, nx, q⟩ := h
    refine ⟨_, pss_one (ps_if (pt_cmpR op_eq (pe_dget (hu_of hr) (pe_fld (pv 0) rfl) (pv 1) (fun _ _ => rfl)) pe_int (nomark _)) (pss_one (ps_fldaug (pv 0) (pe_op op_oneShl pe_int (pe_ix ix_tup (pe_ix ix_list (pe_dget (hu_of hr) (pe_fld (pv 0) rfl) (pv 1) (fun _ _ => rfl)) pe_int (fun _ _ => rfl)) pe_int (fun _ _ => rfl))) in_orI)) pss_nil), ?_⟩
    obtain ⟨dx, ho⟩ := S.obj
    obtain ⟨bs, hb, lb, kb⟩ := S.hb
    obtain ⟨n, hv, hn⟩ := kb x hx
    have hn := hn nx
    subst hn
    refine ⟨_, rfl, m, C_Merge, dx, _, .ref b, rfl, ho, K_Merge.cl, K_Merge.no "behind" (by simp), rfl, _, rfl, b, _, rfl, hv ▸ DGet.k (k := Sum.inr x) hb, rfl, _, rfl, ?_⟩
    by_cases z : Mg.behN rows hs x = 0
    · have e : decide (V.int ((Mg.behN rows hs x : Nat) : Int) = V.int 0) = true := by
        rw [z]
        rfl
      rw [e]
      refine iteT ?_
      have mx : x ∈ rows.flatten := mem_names.mp hx
      have fit := M.fit
      obtain ⟨as, el, f2⟩ := M.pl.l x (by rw [Mg.names_trips]; exact mx)
      rw [Mg.pl_trips x rows 0 fit.nd] at f2
      obtain ⟨a, tl, ep⟩ := Mg.plc_head rows 0 mx
      rw [Nat.zero_add] at ep
      rw [ep] at f2
      cases f2 with
      | @cons t _ ts _ ht f3 =>
        have hp := rd_same S.same M.pl.d
        have dg : DGet H P0 (.str x) (some (.ref (L x))) := by
          have v := val_map (L := L) (x := x) (xs := seen ((Mg.trips 0 rows).map (·.1)))
          rw [if_pos (by rw [Mg.names_trips]; exact hx)] at v
          exact v ▸ (.inl ⟨_, _, hp, rfl, rfl⟩ : DGet H P0 (kV (Sum.inr x)) _)
        have lt : Mg.first rows x ≤ 134217727 := by
          obtain ⟨r, er, _⟩ := Mg.first_at mx
          have := (List.getElem?_eq_some_iff.mp er).1
          have := fit.few
          omega
        refine ⟨_, rfl, m, C_Merge, dx, _, _, rfl, ho, K_Merge.cl, K_Merge.no "ready" (by simp), rfl, ?_⟩
        refine ⟨_, rfl, m, C_Merge, dx, _, .ref P0, rfl, ho, K_Merge.cl, K_Merge.no "places" (by simp), rfl, _, rfl, P0, _, rfl, dg, ?_⟩
        refine ⟨L x, _, _, _, rfl, rfl, SqL.of (S.same _ _ el), atI_nat (j := 0) rfl, t, _, _, _, rfl, rfl, SqT.of (S.same _ _ ht), atI_nat (j := 0) rfl, _, rfl, rfl, lt, _, _, rfl, rfl, dx, _, ho, (by show 6 < 1000; decide), ?_⟩
        have e2 : Builtin.bitOr ((rdy : Nat) : Int) (2 ^ Mg.first rows x) = ((rdy ||| 2 ^ Mg.first rows x : Nat) : Int) := by
          rw [← PySem.W.kbt_cast, or_nat]
        rw [e2]
        have e3 : Mg.bits rows hs rdy (some x) = rdy ||| 2 ^ Mg.first rows x := by
          simp only [Mg.bits]
          rw [if_pos z]
        rw [e3] at q
        exact q _ (S.ready _)
    · have e : decide (V.int ((Mg.behN rows hs x : Nat) : Int) = V.int 0) = false := by
        rw [decide_eq_false_iff_not]
        intro h
        have : ((Mg.behN rows hs x : Nat) : Int) = 0 := by injection h
        omega
      rw [e]
      refine iteF ?_
      have e3 : Mg.bits rows hs rdy (some x) = rdy := by
        simp only [Mg.bits]
        rw [if_neg z]
      rw [e3] at q
      exact q _ S
abbrev s_Merge__advance : Stmt := clsAt (topS 12) 3
theorem sc_Merge__advance : FnScope ["self", "index", "row", "at", "head"] ["self", "index"] (defScope s_Merge__advance) := ⟨rfl, rfl, rfl, by decide +kernel, rfl, by decide +kernel, by decide +kernel⟩
theorem ok_Merge__advance {f : Addr} {fd : FuncData} (F : Fun K "_advance" "Merge._advance" s_Merge__advance f fd) {C_Merge : Addr} (T : Txt mg) (K_Merge : Kl K mg "Merge" C_Merge ["rows", "places", "gone", "heads", "behind", "ready"]) (D_Merge__prepare : Mn P w K mg base CX0 1 C_Merge "_prepare" ["self", "name"] (spPrepare C_Merge)) : FnOk P w K mg base CX0 2 f fd ["self", "index"] (spAdvance C_Merge) := by
  refine F.ok sc_Merge__advance (fun vs H Q E h => ?_) (fun cdv A outer s H vs Q E hr h => ?_)
  · obtain ⟨m, T0, P0, g, hd, b, rows, F0, L, gone, hs, rdy, x, i, r, h, pd, rfl, _⟩ := h
    rfl
  · obtain ⟨m, T0, P0, g, hd, b, rows, F0, L, gone, hs, rdy, x, i, r, h, pd, rfl, M, S, I, er, eh, ex, gx, q⟩ := h
    have hu := hu_of hr
    refine ⟨_, pss_cons (ps_set (i := 2) sc_Merge__advance.nd rfl (Or.inl rfl) (pe_ix ix_tup (pe_fld (pv 0) rfl) (pv 1) (fun _ _ => rfl)))
        (pss_cons (ps_set (i := 3) sc_Merge__advance.nd rfl (Or.inl rfl) (pe_ix ix_list (pe_fld (pv 0) rfl) (pv 1) (fun _ _ => rfl)))
        (pss_cons (ps_while PassesOwn.never (PW.pt (pw_and (pt_cmpR op_lt (pv 3) (pe_callB call_len_seq (by rfl) T.len PySem.boot_len (pa_cons (pv 2) pa_nil)) (nomark _)) (pw_and1 (pt_cmp (pc_din hu (pe_ix ix_tup (pv 2) (pv 3) (fun _ _ => rfl)) (pe_fld (pv 0) rfl)))))) (pss_one (ps_aug (i := 3) sc_Merge__advance.nd rfl (Or.inl rfl) pe_int ip_add)))
        (pss_cons (ps_asg (pv 3) (pg_sub (pe_fld (pv 0) rfl) (pv 1) set_list))
        (pss_one (ps_if (pt_cmpR op_lt (pv 3) (pe_callB call_len_seq (by rfl) T.len PySem.boot_len (pa_cons (pv 2) pa_nil)) (nomark _)) (pss_cons (ps_set (i := 4) sc_Merge__advance.nd rfl (Or.inl rfl) (pe_ix ix_tup (pv 2) (pv 3) (fun _ _ => rfl)))
        (pss_cons (ps_daug (hu_of hr) (pe_fld (pv 0) rfl) (pv 4) pe_int in_sub (fun _ _ _ => rfl))
        (pss_one (ps_expr (pe_M D_Merge__prepare K_Merge.cl (pv 0) (hr.mono (by decide)) pass0 (pa_cons (pv 4) pa_nil)))))) pss_nil))))), ?_⟩
    obtain ⟨dx, ho⟩ := S.obj
    obtain ⟨as, t1, t2, t3⟩ := M.at_
    have fit := M.fit
    have hil : i < rows.length := (List.getElem?_eq_some_iff.mp er).1
    have hih : i < hs.length := (List.getElem?_eq_some_iff.mp eh).1
    obtain ⟨ar, ea⟩ : ∃ ar, as[i]? = some ar := ⟨_, List.getElem?_eq_getElem (by rw [t2]; exact hil)⟩
    have rr := rd_same S.same (t3 i ar r ea er)
    have sq : SqT K H ar (r.map V.str) := .inl rr
    have rl := fit.row (List.mem_of_getElem? er)
    have nr := fit.nd r (List.mem_of_getElem? er)
    refine ⟨_, rfl, m, C_Merge, dx, _, .ref T0, rfl, ho, K_Merge.cl, K_Merge.no "rows" (by simp), rfl, _, rfl, T0, _, _, .ref ar, rfl, rfl, SqT.of (S.same _ _ t1), atI_nat (j := i) (by rw [List.getElem?_map, ea]; rfl), ?_⟩
    refine ⟨_, rfl, m, C_Merge, dx, _, .ref hd, rfl, ho, K_Merge.cl, K_Merge.no "heads" (by simp), rfl, _, rfl, hd, _, _, .int h, rfl, rfl, SqL.of S.hh, atI_nat (j := i) (by rw [List.getElem?_map, eh]; rfl), ?_⟩
    have hr0 := I.le i r h er eh
    refine ⟨fun k σ H' => ∃ j v4, σ = [some (.ref m), some (.int (i : Nat)), some (.ref ar), some (.int ((h + j : Nat))), v4] ∧ H' = H ∧ k = r.length - (h + j) ∧ h + j ≤ r.length ∧ ∀ (j' : Nat) (y : PySem.Str), h ≤ j' → j' < h + j → r[j']? = some y → y ∈ gone,
      ⟨_, 0, none, rfl, rfl, rfl, by omega, fun j' y l1 l2 => by omega⟩, ?_⟩
    rintro k σ H' ⟨j, v4, rfl, rfl, rfl, le, sk⟩
    refine ⟨_, rfl, _, rfl, ar, _, rfl, .inr sq, _, _, rfl, rfl, _, rfl, ?_⟩
    rw [List.length_map]
    by_cases lt : h + j < r.length
    · rw [decide_eq_true (by omega : ((h + j : Nat) : Int) < ((r.length : Nat) : Int))]
      obtain ⟨y, ey⟩ : ∃ y, r[h + j]? = some y := ⟨_, List.getElem?_eq_getElem lt⟩
      have dg : DGet H' g (.str y) (valV (gone.map fun x => ((Sum.inr x : Key), V.bl true)) (Sum.inr y)) := DGet.k (k := Sum.inr y) S.hg
      refine iteT ⟨_, rfl, _, rfl, ar, _, _, .str y, rfl, rfl, sq, atI_nat (j := h + j) (by rw [List.getElem?_map, ey]; rfl), _, rfl, m, C_Merge, dx, _, .ref g, rfl, ho, K_Merge.cl, K_Merge.no "gone" (by simp), rfl, g, _, rfl, dg, _, rfl, ?_⟩
      rw [val_gone]
      by_cases gy : y ∈ gone
      · rw [if_pos gy]
        refine iteT ⟨fun σ' H2 => ∃ v4, σ' = [some (.ref m), some (.int (i : Nat)), some (.ref ar), some (.int ((h + (j + 1) : Nat))), v4] ∧ H2 = H', ?_, ?_⟩
        · rintro σ' H2 ⟨v4, rfl, rfl⟩
          refine ⟨_, ?_, j + 1, v4, rfl, rfl, rfl, by omega, fun j' z l1 l2 ez => ?_⟩
          · omega
          · by_cases q2 : j' < h + j
            · exact sk j' z l1 q2 ez
            · have : j' = h + j := by omega
              subst this
              rw [ey] at ez
              cases ez
              exact gy
        · refine ⟨_, rfl, _, _, rfl, rfl, v4, ?_, rfl⟩
          rfl
      · rw [if_neg gy]
        refine iteF ?_
        have stop : ∀ y, r[h + j]? = some y → y ∉ gone := fun z ez => by
          rw [ey] at ez
          cases ez
          exact gy
        have S' := S
        obtain ⟨bs, hb0, lb, kb⟩ := S.hb
        have gt : h < h + j := by
          apply Nat.lt_of_not_le
          intro z
          have e0 : h + j = h := by omega
          rw [e0] at stop
          exact stop x ex gx
        have hne : ∀ k, k ≠ i → (hs.set i (h + j))[k]? = hs[k]? := fun k n => List.getElem?_set_ne (Ne.symm n)
        have I2 := I.move (h2 := h + j) (pd' := fun k => pd k ∧ k ≠ i) er eh ex gx gt le sk stop fun k p n => ⟨p, n⟩
        have bm := I.beh_move er eh gt sk
        have es : ((hs.map fun n => V.int (n : Nat)).set i (.int ((h + j : Nat)))) = (hs.set i (h + j)).map fun n => V.int (n : Nat) := by rw [List.map_set]
        refine ⟨_, rfl, _, rfl, m, C_Merge, dx, _, .ref hd, rfl, ho, K_Merge.cl, K_Merge.no "heads" (by simp), rfl, _, rfl, hd, _, _, i, rfl, rfl, S.hh, (by rw [List.length_map]; exact ixN_at hih), ?_⟩
        rw [es]
        obtain ⟨n1, n2, n3, n4, n5⟩ := S.nes
        have sq1 : SqT K (upd H' hd (.lst ((hs.set i (h + j)).map fun n => V.int (n : Nat)))) ar (r.map V.str) := .inl (rd_same (same_at S.same S.off.2.2.1) (t3 i ar r ea er))
        have ho1 : (upd H' hd (.lst ((hs.set i (h + j)).map fun n => V.int (n : Nat)))) m = some (.ins C_Merge dx (flds T0 P0 g hd b rdy)) := by rw [upd_ne n2]; exact ho
        refine ⟨_, rfl, _, rfl, ar, _, rfl, .inr sq1, _, _, rfl, rfl, _, rfl, ?_⟩
        rw [List.length_map]
        by_cases lt2 : h + j < r.length
        · rw [decide_eq_true (by omega : ((h + j : Nat) : Int) < ((r.length : Nat) : Int))]
          obtain ⟨y, ey⟩ : ∃ y, r[h + j]? = some y := ⟨_, List.getElem?_eq_getElem lt2⟩
          have gy := stop y ey
          have my : y ∈ names rows := mem_names.mpr (List.mem_flatten.mpr ⟨r, List.mem_of_getElem? er, List.mem_of_getElem? ey⟩)
          obtain ⟨n, hv, hn⟩ := kb y my
          refine iteT ⟨_, rfl, _, rfl, ar, _, _, .str y, rfl, rfl, sq1, atI_nat (j := h + j) (by rw [List.getElem?_map, ey]; rfl), ?_⟩
          have hb1 : (upd H' hd (.lst ((hs.set i (h + j)).map fun n => V.int (n : Nat)))) b = some (.dK bs) := by rw [upd_ne (Ne.symm n5)]; exact hb0
          refine ⟨_, rfl, m, C_Merge, dx, _, .ref b, rfl, ho1, K_Merge.cl, K_Merge.no "behind" (by simp), rfl, _, rfl, b, _, rfl, hv ▸ DGet.k (k := Sum.inr y) hb1, _, _, rfl, rfl, _, DPut.k (k := Sum.inr y) hb1 (Nat.lt_of_le_of_lt lb (by decide)), ?_⟩
          have S2 := S.moved (hs.set i (h + j)) y bs n hb0 lb hv my gy kb fun z gz => by
            have k1 := bm z gz
            rw [ey] at k1
            by_cases q1 : z = y
            · subst q1
              rw [if_pos rfl] at k1 ⊢
              exact k1
            · rw [if_neg q1]
              rw [if_neg (fun e => q1 (Option.some.inj e).symm)] at k1
              exact k1
          obtain ⟨dx2, ho2⟩ := S2.obj
          refine ⟨_, rfl, m, dx2, _, rfl, ho2, rfl, _, rfl, m, T0, P0, g, hd, b, rows, F0, L, gone, hs.set i (h + j), rdy, y, rfl, M, S2, my, gy, fun H3 S3 => ?_⟩
          rw [ey] at I2
          exact q H3 _ _ S3 I2 hne
        · rw [decide_eq_false (by omega : ¬ ((h + j : Nat) : Int) < ((r.length : Nat) : Int))]
          have none' : r[h + j]? = none := List.getElem?_eq_none_iff.mpr (Nat.le_of_not_lt lt2)
          refine iteF ?_
          rw [none'] at I2
          refine q _ _ _ (S.heads (hs.set i (h + j)) fun z gz => ?_) I2 hne
          have k1 := bm z gz
          rw [none'] at k1
          simpa using k1
    · rw [decide_eq_false (by omega : ¬ ((h + j : Nat) : Int) < ((r.length : Nat) : Int))]
      refine iteF ?_
      have stop : ∀ y, r[h + j]? = some y → y ∉ gone := fun z ez => by
        have := (List.getElem?_eq_some_iff.mp ez).1
        omega
      have S' := S
      obtain ⟨bs, hb0, lb, kb⟩ := S.hb
      have gt : h < h + j := by
        apply Nat.lt_of_not_le
        intro z
        have e0 : h + j = h := by omega
        rw [e0] at stop
        exact stop x ex gx
      have hne : ∀ k, k ≠ i → (hs.set i (h + j))[k]? = hs[k]? := fun k n => List.getElem?_set_ne (Ne.symm n)
      have I2 := I.move (h2 := h + j) (pd' := fun k => pd k ∧ k ≠ i) er eh ex gx gt le sk stop fun k p n => ⟨p, n⟩
      have bm := I.beh_move er eh gt sk
      have es : ((hs.map fun n => V.int (n : Nat)).set i (.int ((h + j : Nat)))) = (hs.set i (h + j)).map fun n => V.int (n : Nat) := by rw [List.map_set]
      refine ⟨_, rfl, _, rfl, m, C_Merge, dx, _, .ref hd, rfl, ho, K_Merge.cl, K_Merge.no "heads" (by simp), rfl, _, rfl, hd, _, _, i, rfl, rfl, S.hh, (by rw [List.length_map]; exact ixN_at hih), ?_⟩
      rw [es]
      obtain ⟨n1, n2, n3, n4, n5⟩ := S.nes
      have sq1 : SqT K (upd H' hd (.lst ((hs.set i (h + j)).map fun n => V.int (n : Nat)))) ar (r.map V.str) := .inl (rd_same (same_at S.same S.off.2.2.1) (t3 i ar r ea er))
      have ho1 : (upd H' hd (.lst ((hs.set i (h + j)).map fun n => V.int (n : Nat)))) m = some (.ins C_Merge dx (flds T0 P0 g hd b rdy)) := by rw [upd_ne n2]; exact ho
      refine ⟨_, rfl, _, rfl, ar, _, rfl, .inr sq1, _, _, rfl, rfl, _, rfl, ?_⟩
      rw [List.length_map]
      by_cases lt2 : h + j < r.length
      · rw [decide_eq_true (by omega : ((h + j : Nat) : Int) < ((r.length : Nat) : Int))]
        obtain ⟨y, ey⟩ : ∃ y, r[h + j]? = some y := ⟨_, List.getElem?_eq_getElem lt2⟩
        have gy := stop y ey
        have my : y ∈ names rows := mem_names.mpr (List.mem_flatten.mpr ⟨r, List.mem_of_getElem? er, List.mem_of_getElem? ey⟩)
        obtain ⟨n, hv, hn⟩ := kb y my
        refine iteT ⟨_, rfl, _, rfl, ar, _, _, .str y, rfl, rfl, sq1, atI_nat (j := h + j) (by rw [List.getElem?_map, ey]; rfl), ?_⟩
        have hb1 : (upd H' hd (.lst ((hs.set i (h + j)).map fun n => V.int (n : Nat)))) b = some (.dK bs) := by rw [upd_ne (Ne.symm n5)]; exact hb0
        refine ⟨_, rfl, m, C_Merge, dx, _, .ref b, rfl, ho1, K_Merge.cl, K_Merge.no "behind" (by simp), rfl, _, rfl, b, _, rfl, hv ▸ DGet.k (k := Sum.inr y) hb1, _, _, rfl, rfl, _, DPut.k (k := Sum.inr y) hb1 (Nat.lt_of_le_of_lt lb (by decide)), ?_⟩
        have S2 := S.moved (hs.set i (h + j)) y bs n hb0 lb hv my gy kb fun z gz => by
          have k1 := bm z gz
          rw [ey] at k1
          by_cases q1 : z = y
          · subst q1
            rw [if_pos rfl] at k1 ⊢
            exact k1
          · rw [if_neg q1]
            rw [if_neg (fun e => q1 (Option.some.inj e).symm)] at k1
            exact k1
        obtain ⟨dx2, ho2⟩ := S2.obj
        refine ⟨_, rfl, m, dx2, _, rfl, ho2, rfl, _, rfl, m, T0, P0, g, hd, b, rows, F0, L, gone, hs.set i (h + j), rdy, y, rfl, M, S2, my, gy, fun H3 S3 => ?_⟩
        rw [ey] at I2
        exact q H3 _ _ S3 I2 hne
      · rw [decide_eq_false (by omega : ¬ ((h + j : Nat) : Int) < ((r.length : Nat) : Int))]
        have none' : r[h + j]? = none := List.getElem?_eq_none_iff.mpr (Nat.le_of_not_lt lt2)
        refine iteF ?_
        rw [none'] at I2
        refine q _ _ _ (S.heads (hs.set i (h + j)) fun z gz => ?_) I2 hne
        have k1 := bm z gz
        rw [none'] at k1
        simpa using k1
abbrev s_Merge_drop : Stmt := clsAt (topS 12) 2
theorem sc_Merge_drop : FnScope ["self", "name", "index", "at"] ["self", "name"] (defScope s_Merge_drop) := ⟨rfl, rfl, rfl, by decide +kernel, rfl, by decide +kernel, by decide +kernel⟩
theorem ok_Merge_drop {f : Addr} {fd : FuncData} (F : Fun K "drop" "Merge.drop" s_Merge_drop f fd) {C_Merge : Addr} (T : Txt mg) (K_Merge : Kl K mg "Merge" C_Merge ["rows", "places", "gone", "heads", "behind", "ready"]) (D_Merge__advance : Mn P w K mg base CX0 2 C_Merge "_advance" ["self", "index"] (spAdvance C_Merge)) : FnOk P w K mg base CX0 3 f fd ["self", "name"] (spDrop C_Merge) := by
  refine F.ok sc_Merge_drop (fun vs H Q E h => ?_) (fun cdv A outer s H vs Q E hr h => ?_)
  · obtain ⟨m, T0, P0, g, hd, b, rows, F0, L, gone, hs, rdy, x, rfl, _⟩ := h
    rfl
  · obtain ⟨m, T0, P0, g, hd, b, rows, F0, L, gone, hs, rdy, x, rfl, M, S, hx, nx, gl, I, q⟩ := h
    refine ⟨_, pss_cons (ps_dput (hu_of hr) (pe_fld (pv 0) rfl) (pv 1) pe_bl rfl)
        (pss_one (ps_for PassesOwn.never rfl (pi_list (pe_dget (hu_of hr) (pe_fld (pv 0) rfl) (pv 1) (fun _ _ => rfl))) (pg_tup rfl (pgs_cons (pg_name (i := 2) sc_Merge_drop.nd rfl (Or.inl rfl)) (pgs_cons (pg_name (i := 3) sc_Merge_drop.nd rfl (Or.inl rfl)) pgs_nil))) (pss_one (ps_if (pt_cmpR op_eq (pv 3) (pe_ix ix_list (pe_fld (pv 0) rfl) (pv 2) (fun _ _ => rfl)) (nomark _)) (pss_one (ps_expr (pe_M D_Merge__advance K_Merge.cl (pv 0) (hr.mono (by decide)) pass0 (pa_cons (pv 2) pa_nil)))) pss_nil)))), ?_⟩
    obtain ⟨dx, ho⟩ := S.obj
    have fit := M.fit
    have mx : x ∈ rows.flatten := mem_names.mp hx
    refine ⟨_, rfl, m, C_Merge, dx, _, .ref g, rfl, ho, K_Merge.cl, K_Merge.no "gone" (by simp), rfl, _, rfl, g, _, rfl, DPut.k (k := Sum.inr x) S.hg (by rw [List.length_map]; exact Nat.lt_of_le_of_lt gl (by decide)), ?_⟩
    have S1 := S.dropped nx
    obtain ⟨as, el, f2⟩ := M.pl.l x (by rw [Mg.names_trips]; exact mx)
    rw [Mg.pl_trips x rows 0 fit.nd] at f2
    obtain ⟨ps, eps⟩ : ∃ ps, ps = Mg.plc 0 rows x := ⟨_, rfl⟩
    rw [← eps] at f2
    have rise : ps.Pairwise fun p q => p.1 < q.1 := by
      rw [eps]
      exact Mg.plc_rise rows 0
    have mem : ∀ i a, (i, a) ∈ ps ↔ ∃ r, rows[i]? = some r ∧ x ∈ r ∧ a = r.idxOf x := fun i a => by
      rw [eps, Mg.mem_plc rows 0 i a]
      constructor
      · rintro ⟨r, _, e, k⟩
        exact ⟨r, e, k⟩
      · rintro ⟨r, e, k⟩
        exact ⟨r, Nat.zero_le _, e, k⟩
    have lenp := f2_len f2
    have dg : ∀ {H'}, Same F0 H' → DGet H' P0 (.str x) (some (.ref (L x))) := fun s => by
      have v := val_map (L := L) (x := x) (xs := seen ((Mg.trips 0 rows).map (·.1)))
      rw [if_pos (by rw [Mg.names_trips]; exact hx)] at v
      exact v ▸ (.inl ⟨_, _, rd_same s M.pl.d, rfl, rfl⟩ : DGet _ P0 (kV (Sum.inr x)) _)
    obtain ⟨dx1, ho1⟩ := S1.obj
    refine ⟨_, rfl, m, C_Merge, dx1, _, .ref P0, rfl, ho1, K_Merge.cl, K_Merge.no "places" (by simp), rfl, _, rfl, P0, _, rfl, dg S1.same, ?_⟩
    refine ⟨L x, rfl, ⟨_, SqL.of (S1.same _ _ el)⟩, for_list (K := K) (a := L x) (xs := as.map V.ref) (fun j σ H' => ∃ v2 v3 hs' rdy', σ = [some (.ref m), some (.str x), v2, v3] ∧ MgS C_Merge m T0 P0 g hd b rows F0 H' (gone ++ [x]) hs' rdy' ∧
        Mg.Inv rows (gone ++ [x]) hs' rdy' (some x) (fun i => (∃ a, (i, a) ∈ ps.drop j) ∧ ∃ r h, rows[i]? = some r ∧ hs[i]? = some h ∧ r[h]? = some x) ∧ ∀ p ∈ ps.drop j, hs'[p.1]? = hs[p.1]?)
      ⟨_, _, hs, rdy, rfl, S1, I.weak fun i k => ⟨?_, k⟩, fun _ _ => rfl⟩ (fun j σ H' _ ⟨_, _, _, _, _, S2, _⟩ => SqL.of (S2.same _ _ el)) ?_ ?_⟩
    · obtain ⟨r, h, e1, e2, e3⟩ := k
      exact ⟨_, by rw [List.drop_zero, mem]; exact ⟨r, e1, List.mem_of_getElem? e3, rfl⟩⟩
    · rintro j y σ H' hy ⟨v2, v3, hs', rdy', rfl, S2, I2, ag⟩
      rw [List.getElem?_map] at hy
      obtain ⟨t, et, rfl⟩ : ∃ t, as[j]? = some t ∧ y = .ref t := by
        cases e : as[j]? with
        | none => rw [e] at hy; cases hy
        | some t => rw [e] at hy; exact ⟨t, rfl, (Option.some.inj hy).symm⟩
      obtain ⟨⟨i, a⟩, ep, ht⟩ := f2_getl f2 et
      have lj : j < ps.length := (List.getElem?_eq_some_iff.mp ep).1
      have dj : ps.drop j = (i, a) :: ps.drop (j + 1) := by
        rw [List.drop_eq_getElem_cons lj]
        congr 1
        exact (List.getElem?_eq_some_iff.mp ep).2
      obtain ⟨r, er, mr, ea⟩ := (mem i a).mp (List.mem_of_getElem? ep)
      have lih : i < hs'.length := by
        rw [I2.len]
        exact (List.getElem?_eq_some_iff.mp er).1
      obtain ⟨h, eh'⟩ : ∃ h, hs'[i]? = some h := ⟨_, List.getElem?_eq_getElem lih⟩
      have eh : hs[i]? = some h := by
        rw [← ag (i, a) (by rw [dj]; exact List.mem_cons_self ..)]
        exact eh'
      have later : ∀ p ∈ ps.drop (j + 1), p.1 ≠ i := fun p hp e => by
        have z := rise.drop (i := j)
        rw [dj] at z
        have := (List.pairwise_cons.mp z).1 p hp
        simp only at this
        omega
      have tt := S2.same _ _ ht
      refine ⟨t, [.int (i : Nat), .int (a : Nat)], rfl, SqT.of tt, rfl, .int (i : Nat), [.int (a : Nat)], rfl, .int (a : Nat), [], rfl, rfl, ?_⟩
      obtain ⟨dx2, ho2⟩ := S2.obj
      refine ⟨_, rfl, _, rfl, m, C_Merge, dx2, _, .ref hd, rfl, ho2, K_Merge.cl, K_Merge.no "heads" (by simp), rfl, _, rfl, hd, _, _, .int (h : Nat), rfl, rfl, SqL.of S2.hh, atI_nat (j := i) (by rw [List.getElem?_map, eh']; rfl), rfl, _, rfl, ?_⟩
      have nr := fit.nd r (List.mem_of_getElem? er)
      by_cases e : a = h
      · have ed : decide (V.int ((a : Nat) : Int) = V.int ((h : Nat) : Int)) = true := by
          rw [e]
          exact decide_eq_true rfl
        rw [ed]
        have ex : r[h]? = some x := by
          rw [← e, ea]
          exact Mg.at_idx mr
        refine iteT ⟨_, rfl, m, dx2, _, rfl, ho2, rfl, _, rfl, m, T0, P0, g, hd, b, rows, F0, L, gone ++ [x], hs', rdy', x, i, r, h, _, rfl, M, S2, I2, er, eh', ex, List.mem_append_right _ (by simp), fun H3 hs3 rdy3 S3 I3 ag3 => ?_⟩
        refine ⟨_, _, hs3, rdy3, rfl, S3, I3.weak fun k ⟨⟨⟨a', ha'⟩, k2⟩, k3⟩ => ⟨⟨a', ?_⟩, k2⟩, fun p hp => ?_⟩
        · rw [dj] at ha'
          rcases List.mem_cons.mp ha' with z | z
          · exact absurd (Prod.mk.inj z).1 k3
          · exact z
        · rw [ag3 p.1 (later p hp)]
          exact ag p (by rw [dj]; exact List.mem_cons_of_mem _ hp)
      · have ed : decide (V.int ((a : Nat) : Int) = V.int ((h : Nat) : Int)) = false := by
          rw [decide_eq_false_iff_not]
          intro z
          injection z with z
          omega
        rw [ed]
        refine iteF ?_
        refine ⟨_, _, hs', rdy', rfl, S2, I2.weak fun k ⟨⟨a', ha'⟩, r', h', f1, f2', f3⟩ => ⟨⟨a', ?_⟩, r', h', f1, f2', f3⟩, fun p hp => ag p (by rw [dj]; exact List.mem_cons_of_mem _ hp)⟩
        rw [dj] at ha'
        rcases List.mem_cons.mp ha' with z | z
        · exfalso
          obtain ⟨z1, z2⟩ := Prod.mk.inj z
          subst z1
          rw [er] at f1
          rw [eh] at f2'
          cases f1
          cases f2'
          exact e (ea.trans (Mg.idx_of nr f3))
        · exact z
    · rintro σ H' ⟨v2, v3, hs', rdy', rfl, S2, I2, ag⟩
      refine q H' hs' rdy' S2 (I2.done fun k ⟨⟨a, ha⟩, _⟩ => ?_)
      rw [List.length_map, lenp, List.drop_length] at ha
      cases ha
abbrev s_Merge_draw : Stmt := clsAt (topS 12) 1
theorem sc_Merge_draw : FnScope ["self", "names", "index", "name"] ["self"] (defScope s_Merge_draw) := ⟨rfl, rfl, rfl, by decide +kernel, rfl, by decide +kernel, by decide +kernel⟩
theorem ok_Merge_draw {f : Addr} {fd : FuncData} (F : Fun K "draw" "Merge.draw" s_Merge_draw f fd) {C_Merge : Addr} (T : Txt mg) (K_Merge : Kl K mg "Merge" C_Merge ["rows", "places", "gone", "heads", "behind", "ready"]) (D_Merge_drop : Mn P w K mg base CX0 3 C_Merge "drop" ["self", "name"] (spDrop C_Merge)) : FnOk P w K mg base CX0 4 f fd ["self"] (spDraw C_Merge) := by
  refine F.ok sc_Merge_draw (fun vs H Q E h => ?_) (fun cdv A outer s H vs Q E hr h => ?_)
  · obtain ⟨m, T0, P0, g, hd, b, rows, F0, L, gone, hs, rdy, rfl, _⟩ := h
    rfl
  · obtain ⟨m, T0, P0, g, hd, b, rows, F0, L, gone, hs, rdy, rfl, M, S, gnd, gsub, I, q⟩ := h
    refine ⟨_, pss_cons (ps_set (i := 1) sc_Merge_draw.nd rfl (Or.inl rfl) (pe_lstS pa_nil))
        (pss_cons (ps_while PassesOwn.never (pt_truth (pe_fld (pv 0) rfl) (by intro _; rfl)) (pss_cons (ps_set (i := 2) sc_Merge_draw.nd rfl (Or.inl rfl) (pe_op op_sub (pe_bits (pe_op op_and (pe_fld (pv 0) rfl) (pe_un un_neg (pe_fld (pv 0) rfl)))) pe_int))
        (pss_cons (ps_fldaug (pv 0) (pe_op op_sub (pe_fld (pv 0) rfl) pe_int) in_andI)
        (pss_cons (ps_set (i := 3) sc_Merge_draw.nd rfl (Or.inl rfl) (pe_ix ix_tup (pe_ix ix_tup (pe_fld (pv 0) rfl) (pv 2) (fun _ _ => rfl)) (pe_ix ix_list (pe_fld (pv 0) rfl) (pv 2) (fun _ _ => rfl)) (fun _ _ => rfl)))
        (pss_cons (ps_expr (pe_M D_Merge_drop K_Merge.cl (pv 0) (hr.mono (by decide)) pass0 (pa_cons (pv 3) pa_nil)))
        (pss_one (ps_expr (pe_bm PySem.F.plainAttrs_list PySem.F.slot_list_append PySem.F.type_list_append mt_append (pv 1) (pa_cons (pv 3) pa_nil)))))))))
        (pss_one (ps_ret (pv 1)))), ?_⟩
    have fit := M.fit
    refine ⟨by show 0 ≤ 100000; decide, fun HA l sA nl eA => ?_⟩
    have nF : F0 l = none := S.same.free nl
    have offs : l ≠ m ∧ l ≠ g ∧ l ≠ hd ∧ l ≠ b := by
      obtain ⟨dx, e1⟩ := S.obj
      obtain ⟨bs, e4, _⟩ := S.hb
      exact ⟨Ne.symm (ne_of_none e1 nl), Ne.symm (ne_of_none S.hg nl), Ne.symm (ne_of_none S.hh nl), Ne.symm (ne_of_none e4 nl)⟩
    obtain ⟨n1, n2, n3, n4⟩ := offs
    have SA : MgS C_Merge m T0 P0 g hd b rows F0 HA gone hs rdy := by
      obtain ⟨dx, e1⟩ := S.obj
      obtain ⟨bs, e4, k⟩ := S.hb
      exact ⟨S.same.trans sA, S.off, S.gb, ⟨dx, sA _ _ e1⟩, sA _ _ S.hg, sA _ _ S.hh, bs, sA _ _ e4, k⟩
    refine ⟨fun k σ H' => ∃ v2 v3 ns hs' rdy', σ = [some (.ref m), some (.ref l), v2, v3] ∧ MgS C_Merge m T0 P0 g hd b rows F0 H' (gone ++ ns) hs' rdy' ∧ Mg.Inv rows (gone ++ ns) hs' rdy' none (fun _ => False) ∧ H' l = some (.lst (ns.map V.str)) ∧
        (gone ++ ns).Nodup ∧ (∀ x ∈ gone ++ ns, x ∈ names rows) ∧ Mg.drawn (Mg.alive gone rows) = ns ++ Mg.drawn (Mg.alive (gone ++ ns) rows) ∧ k + (gone ++ ns).length = (names rows).length,
      ⟨(names rows).length - gone.length, none, none, [], hs, rdy, rfl, by rw [List.append_nil]; exact SA, by rw [List.append_nil]; exact I, eA, by rw [List.append_nil]; exact gnd, by rw [List.append_nil]; exact gsub, by rw [List.append_nil]; rfl, ?_⟩, ?_⟩
    · rw [List.append_nil]
      have := nodup_sub gnd gsub
      omega
    rintro k σ H' ⟨v2, v3, ns, hs', rdy', rfl, S2, I2, eL, nd2, sub2, dr, ek⟩
    obtain ⟨dx, ho⟩ := S2.obj
    refine ⟨_, rfl, m, C_Merge, dx, _, .int rdy', rfl, ho, K_Merge.cl, K_Merge.no "ready" (by simp), rfl, (((rdy' : Nat) : Int) != 0), rfl, ?_⟩
    by_cases z : rdy' = 0
    · have ez : (((rdy' : Nat) : Int) != 0) = false := by
        rw [z]
        rfl
      rw [ez]
      refine iteF ?_
      have e0 : Mg.drawn (Mg.alive (gone ++ ns) rows) = [] := Mg.drawn_none (I2.pick_none z)
      rw [e0, List.append_nil] at dr
      refine ⟨_, rfl, ?_⟩
      subst z
      rw [← dr] at S2 I2 eL nd2 sub2
      exact q H' l hs' S2 I2 eL nl nd2 sub2
    · have ez : (((rdy' : Nat) : Int) != 0) = true := by
        simp [z]
      rw [ez]
      obtain ⟨kk, r', b1, b2, b3, b4, b5⟩ := low_of rdy' z
      obtain ⟨x, r, h, pk, er, eh, ex, gx, mx, zx⟩ := I2.pick_low b1 b2
      have mn : x ∈ names rows := mem_names.mpr mx
      refine iteT ⟨fun σ' H2 => ∃ v2 v3 ns hs' rdy', σ' = [some (.ref m), some (.ref l), v2, v3] ∧ MgS C_Merge m T0 P0 g hd b rows F0 H2 (gone ++ ns) hs' rdy' ∧ Mg.Inv rows (gone ++ ns) hs' rdy' none (fun _ => False) ∧ H2 l = some (.lst (ns.map V.str)) ∧
        (gone ++ ns).Nodup ∧ (∀ x ∈ gone ++ ns, x ∈ names rows) ∧ Mg.drawn (Mg.alive gone rows) = ns ++ Mg.drawn (Mg.alive (gone ++ ns) rows) ∧ k + (gone ++ ns).length = (names rows).length + 1, ?_, ?_⟩
      · rintro σ' H2 ⟨w2, w3, ns2, hs2, rdy2, rfl, a1, a2, a3, a4, a5, a6, a7⟩
        have := nodup_sub a4 a5
        exact ⟨k - 1, by omega, w2, w3, ns2, hs2, rdy2, rfl, a1, a2, a3, a4, a5, a6, by omega⟩
      · refine ⟨_, rfl, m, C_Merge, dx, _, .int rdy', rfl, ho, K_Merge.cl, K_Merge.no "ready" (by simp), rfl, _, rfl, m, C_Merge, dx, _, .int rdy', rfl, ho, K_Merge.cl, K_Merge.no "ready" (by simp), rfl, _, rfl, _, _, rfl, rfl, _, rfl, _, _, rfl, rfl, ?_⟩
        have e1 : ((Builtin.Int.intBits (Builtin.bitAnd ((rdy' : Nat) : Int) (-((rdy' : Nat) : Int))) : Nat) : Int) - 1 = (kk : Nat) := by
          rw [b3, bits_pow]
          omega
        dsimp only
        rw [e1]
        refine ⟨_, rfl, m, C_Merge, dx, _, _, rfl, ho, K_Merge.cl, K_Merge.no "ready" (by simp), rfl, _, rfl, m, C_Merge, dx, _, .int rdy', rfl, ho, K_Merge.cl, K_Merge.no "ready" (by simp), rfl, _, _, rfl, rfl, _, _, rfl, rfl, dx, _, ho, (by show 6 < 1000; decide), ?_⟩
        rw [b4]
        have S3 := S2.ready (dx := dx) r'
        obtain ⟨dx3, ho3⟩ := S3.obj
        obtain ⟨as, t1, t2, t3⟩ := M.at_
        have hil : kk < rows.length := (List.getElem?_eq_some_iff.mp er).1
        obtain ⟨ar, ea⟩ : ∃ ar, as[kk]? = some ar := ⟨_, List.getElem?_eq_getElem (by rw [t2]; exact hil)⟩
        refine ⟨_, rfl, m, C_Merge, dx3, _, .ref T0, rfl, ho3, K_Merge.cl, K_Merge.no "rows" (by simp), rfl, _, rfl, T0, _, _, .ref ar, rfl, rfl, SqT.of (S3.same _ _ t1), atI_nat (j := kk) (by rw [List.getElem?_map, ea]; rfl),
          _, rfl, m, C_Merge, dx3, _, .ref hd, rfl, ho3, K_Merge.cl, K_Merge.no "heads" (by simp), rfl, _, rfl, hd, _, _, .int (h : Nat), rfl, rfl, SqL.of S3.hh, atI_nat (j := kk) (by rw [List.getElem?_map, eh]; rfl), ar, _, _, .str x, rfl, rfl, .inl (rd_same S3.same (t3 kk ar r ea er)), atI_nat (j := h) (by rw [List.getElem?_map, ex]; rfl), ?_⟩
        have eL3 : (upd H' m (HO.ins C_Merge dx (putF "ready" (.int (r' : Nat)) (flds T0 P0 g hd b rdy')))) l = some (.lst (ns.map V.str)) := by rw [upd_ne n1]; exact eL
        have S4 := S3.hold eL3 n1 n2 n3 n4
        have M4 : MgF (upd F0 l (.lst (ns.map V.str))) T0 P0 rows L := mgF_same (same_new nF) M
        have lose := I2.lose er eh ex gx zx b1 b5
        have gl : (gone ++ ns).length ≤ 100000 := Nat.le_trans (nodup_sub nd2 sub2) (Nat.le_trans (seen_len _) fit.all)
        refine ⟨_, rfl, m, dx3, _, rfl, ho3, rfl, _, rfl, m, T0, P0, g, hd, b, rows, _, L, gone ++ ns, hs', r', x, rfl, M4, S4, mn, gx, gl, I2.drop r' lose, fun H5 hs5 rdy5 S5 I5 => ?_⟩
        have eL5 : H5 l = some (.lst (ns.map V.str)) := S5.same _ _ upd_same
        have nl2 : ns.length ≤ 100000 := by
          rw [List.length_append] at gl
          omega
        refine ⟨_, rfl, .inl ⟨rfl, _, SqL.of eL5⟩, _, rfl, l, _, _, rfl, rfl, eL5, (by rw [List.length_map]; exact Nat.lt_of_le_of_lt nl2 (by decide)), ?_⟩
        have S6 := (S5.frame ((same_new nF).trans S5.same) S.off).beside (o := .lst (ns.map V.str ++ [.str x])) n1 n2 n3 n4 nF
        rw [List.append_assoc] at S6 I5
        refine ⟨_, _, ns ++ [x], hs5, rdy5, rfl, S6, I5, by rw [upd_same, List.map_append]; rfl, ?_, ?_, ?_, ?_⟩
        · rw [← List.append_assoc]
          exact List.nodup_append.mpr ⟨nd2, by simp, fun a ha c hc e => by
            have : c = x := by simpa using hc
            rw [e, this] at ha
            exact gx ha⟩
        · intro y hy
          rw [← List.append_assoc] at hy
          rcases List.mem_append.mp hy with w | w
          · exact sub2 y w
          · have : y = x := by simpa using w
            rw [this]
            exact mn
        · rw [dr, Mg.drawn_some pk, Mg.without_alive, List.append_assoc, List.append_assoc]
          rfl
        · rw [← List.append_assoc, List.length_append, List.length_singleton]
          omega
end
end K07

set_option Elab.async false
set_option linter.all false
set_option maxRecDepth 100000
set_option maxHeartbeats 4000000
namespace K07
open PySem Nb
open L2 hiding del del_ne del_same
section
variable {P : Program} {w : World} {K : PySem.W.Frag} {mg : Str → Option Value} {base : Heap}
abbrev s_places : Stmt := topS 15
theorem sc_places : FnScope ["rows", "places", "index", "row", "at", "name"] ["rows"] (defScope s_places) := ⟨rfl, rfl, rfl, by decide +kernel, rfl, by decide +kernel, by decide +kernel⟩
theorem ok_places {f : Addr} {fd : FuncData} (F : Fun K "_places" "_places" s_places f fd) (T : Txt mg) : FnOk P w K mg base CX0 1 f fd ["rows"] (spPlaces) := by
  refine F.ok sc_places (fun vs H Q E h => ?_) (fun cdv A outer s H vs Q E hr h => ?_)
  · obtain ⟨T0, rows, rfl, _⟩ := h
    rfl
  · obtain ⟨T0, rows, rfl, hR, fit, q⟩ := h
    refine ⟨_, pss_cons (ps_set (i := 1) sc_places.nd rfl (Or.inl rfl) pe_dnewS)
        (pss_cons (ps_for PassesOwn.never rfl (pi_enumT (by rfl) T.enumerate (pa_cons (pv 0) pa_nil)) (pg_tup rfl (pgs_cons (pg_name (i := 2) sc_places.nd rfl (Or.inl rfl)) (pgs_cons (pg_name (i := 3) sc_places.nd rfl (Or.inl rfl)) pgs_nil))) (pss_one (ps_for PassesOwn.never rfl (pi_enumT (by rfl) T.enumerate (pa_cons (pv 3) pa_nil)) (pg_tup rfl (pgs_cons (pg_name (i := 4) sc_places.nd rfl (Or.inl rfl)) (pgs_cons (pg_name (i := 5) sc_places.nd rfl (Or.inl rfl)) pgs_nil))) (pss_one (ps_expr (pe_bm PySem.F.plainAttrs_list PySem.F.slot_list_append PySem.F.type_list_append mt_append (pe_dsetd (pv 1) (pv 5) (pe_lstS pa_nil) ⟨rfl, rfl, rfl, rfl⟩) (pa_cons (pe_tupS (pa_cons (pv 2) (pa_cons (pv 4) pa_nil))) pa_nil)))))))
        (pss_one (ps_ret (pv 1)))), ?_⟩
    obtain ⟨as, t1, t2, t3⟩ := id hR
    refine fun HA D sA nD eD => ?_
    have P0 : Plm H HA D (fun _ => D) [] := ⟨sA, nD, eD, fun x hx => (nomatch hx), fun x hx => (nomatch hx)⟩
    refine ⟨_, rfl, T0, _, rfl, SqT.of (sA _ _ t1), for_it (walk_enumT (K := K) (a := T0) (xs := as.map V.ref)) (fun i σ H' => ∃ v2 v3 v4 v5 L, σ = [some (.ref T0), some (.ref D), v2, v3, v4, v5] ∧ Plm H H' D L (Mg.trips 0 (rows.take i)))
      ⟨_, _, _, _, _, rfl, by rw [List.take_zero]; exact P0⟩ (fun i σ H' _ ⟨_, _, _, _, _, _, p⟩ => SqT.of (p.same _ _ t1)) ?_ ?_⟩
    · rintro i y σ H1 H2 hi ⟨v2, v3, v4, v5, L, rfl, p⟩ ⟨t, y1, y2, rfl, new, rfl, e1, e2⟩
      have ey1 : y1 = .int (i : Nat) := (Option.some.inj e1).symm
      subst ey1
      have e2 : (as.map V.ref)[i]? = some y2 := e2
      rw [List.getElem?_map] at e2
      obtain ⟨a, ea, rfl⟩ : ∃ a, as[i]? = some a ∧ y2 = .ref a := by
        cases e : as[i]? with
        | none => rw [e] at e2; cases e2
        | some a => rw [e] at e2; exact ⟨a, rfl, (Option.some.inj e2).symm⟩
      have hil : i < rows.length := by
        rw [← t2]
        exact (List.getElem?_eq_some_iff.mp ea).1
      have er : rows[i]? = some rows[i] := List.getElem?_eq_getElem hil
      obtain ⟨r, hr_⟩ : ∃ r, rows[i]? = some r := ⟨_, er⟩
      have s2 := same_new (o := HO.tup [.int (i : Nat), .ref a]) new
      have ra := t3 i a r ea hr_
      have p2 : Plm H (upd H1 t (.tup [.int (i : Nat), .ref a])) D L (Mg.trips 0 (rows.take i)) := ⟨p.same.trans s2, p.nd, s2 _ _ p.d, fun x hx => let ⟨n, bs, e, f⟩ := p.l x hx; ⟨n, bs, s2 _ _ e, f2_same s2 f⟩, p.inj⟩
      refine ⟨t, [.int (i : Nat), .ref a], rfl, .inl (.inl upd_same), rfl, .int (i : Nat), [.ref a], rfl, .ref a, [], rfl, rfl, ?_⟩
      refine ⟨_, rfl, a, _, rfl, .inl (rd_same p2.same ra), for_it (walk_enumT (K := K) (a := a) (xs := r.map V.str)) (fun j σ H' => ∃ v4 v5 L, σ = [some (.ref T0), some (.ref D), some (.int (i : Nat)), some (.ref a), v4, v5] ∧ Plm H H' D L (Mg.trips 0 (rows.take i) ++ Mg.row3 i (r.take j)))
        ⟨_, _, _, rfl, by rw [List.take_zero]; show Plm _ _ _ _ (_ ++ []); rw [List.append_nil]; exact p2⟩ (fun j σ H' _ ⟨_, _, _, _, p⟩ => .inl (rd_same p.same ra)) ?_ ?_⟩
      · rintro j y σ H3 H4 hj ⟨w4, w5, L3, rfl, p3⟩ ⟨u, z1, z2, rfl, newu, rfl, f1, f2⟩
        have ez1 : z1 = .int (j : Nat) := (Option.some.inj f1).symm
        subst ez1
        have f2 : (r.map V.str)[j]? = some z2 := f2
        rw [List.getElem?_map] at f2
        obtain ⟨x, ex, rfl⟩ : ∃ x, r[j]? = some x ∧ z2 = .str x := by
          cases e : r[j]? with
          | none => rw [e] at f2; cases f2
          | some x => rw [e] at f2; exact ⟨x, rfl, (Option.some.inj f2).symm⟩
        have s4 := same_new (o := HO.tup [.int (j : Nat), .str x]) newu
        have p4 : Plm H (upd H3 u (.tup [.int (j : Nat), .str x])) D L3 (Mg.trips 0 (rows.take i) ++ Mg.row3 i (r.take j)) := ⟨p3.same.trans s4, p3.nd, s4 _ _ p3.d, fun x hx => let ⟨n, bs, e, f⟩ := p3.l x hx; ⟨n, bs, s4 _ _ e, f2_same s4 f⟩, p3.inj⟩
        obtain ⟨ts, ets⟩ : ∃ ts, ts = Mg.trips 0 (rows.take i) ++ Mg.row3 i (r.take j) := ⟨_, rfl⟩
        have few : ts.length ≤ 100000 := by
          have n1 : ts.length = ((rows.take i).flatten ++ r.take j).length := by
            rw [ets, List.length_append, List.length_append]
            have m1 := congrArg List.length (Mg.names_trips (rows.take i) 0)
            have m2 : (Mg.row3 i (r.take j)).length = (r.take j).length := by
              unfold Mg.row3
              rw [List.length_map, List.length_zipIdx]
            rw [List.length_map] at m1
            omega
          have sub : ((rows.take i).flatten ++ r.take j).length ≤ rows.flatten.length := by
            have e := List.take_append_drop i rows
            have hd : rows.drop i = r :: rows.drop (i + 1) := by
              obtain ⟨l, e⟩ := List.getElem?_eq_some_iff.mp hr_
              rw [List.drop_eq_getElem_cons l, e]
            rw [hd] at e
            have e2 := congrArg List.flatten e
            rw [List.flatten_append, List.flatten_cons] at e2
            have e3 := congrArg List.length e2
            rw [List.length_append, List.length_append] at e3
            have tl : (r.take j).length ≤ r.length := by rw [List.length_take]; omega
            rw [List.length_append]
            omega
          rw [n1]
          exact Nat.le_trans sub fit.all
        have few2 : (seen (ts.map (·.1))).length < sizeLine := by
          have := seen_len (ts.map (·.1))
          rw [List.length_map] at this
          exact Nat.lt_of_le_of_lt (Nat.le_trans this few) (by decide)
        rw [← ets] at p4
        have goal4 : Mg.trips 0 (rows.take i) ++ Mg.row3 i (r.take (j + 1)) = ts ++ [(x, i, j)] := by rw [row3_snoc ex, ets, List.append_assoc]
        refine ⟨u, [.int (j : Nat), .str x], rfl, .inl (.inl upd_same), rfl, .int (j : Nat), [.str x], rfl, .str x, [], rfl, rfl, ?_⟩
        obtain ⟨H5, e5⟩ : ∃ H5, H5 = upd H3 u (HO.tup [.int (j : Nat), .str x]) := ⟨_, rfl⟩
        rw [← e5] at p4 ⊢
        refine ⟨_, rfl, D, rfl, .inl ⟨_, .inl p4.d⟩, _, rfl, (by show 0 ≤ 100000; decide), fun H6 l0 s6 n6 e6 => ?_⟩
        have v := val_map (L := L3) (x := x) (xs := seen (ts.map (·.1)))
        refine ⟨_, Sum.inr x, s6 _ _ p4.d, rfl, (by rw [List.length_map]; exact few2), fun w hw => ?_, fun hw => ?_⟩
        · have mx : x ∈ ts.map (·.1) := by
            apply Classical.byContradiction
            intro k
            rw [if_neg (fun z => k (mem_seen.mp z))] at v
            rw [v] at hw
            cases hw
          rw [if_pos (mem_seen.mpr mx)] at v
          rw [v] at hw
          cases hw
          obtain ⟨_, as1, ea1, _⟩ := p4.l x mx
          refine ⟨.inl ⟨rfl, _, SqL.of (s6 _ _ ea1)⟩, _, rfl, _, rfl, (by show 2 ≤ 100000; decide), fun H7 t7 s7 n7 e7 => ?_⟩
          obtain ⟨as2, ea2, l2, p7⟩ := p4.more mx (s6.trans s7) e7 (s6.free n7)
          refine ⟨L3 x, _, _, rfl, rfl, ea2, (by rw [List.length_map]; exact Nat.lt_of_le_of_lt (Nat.le_trans l2 few) (by decide)), _, _, L3, rfl, ?_⟩
          rw [goal4]
          exact p7
        · have mx : x ∉ ts.map (·.1) := fun k => by
            rw [if_pos (mem_seen.mpr k)] at v
            rw [v] at hw
            cases hw
          have eD6 : l0 ≠ D := fun z => by
            have := p4.d
            rw [← z, n6] at this
            cases this
          refine ⟨.inl ⟨rfl, _, SqL.of (by rw [upd_ne eD6]; exact e6)⟩, _, rfl, _, rfl, (by show 2 ≤ 100000; decide), fun H7 t7 s7 n7 e7 => ?_⟩
          obtain ⟨el0, p7⟩ := p4.fresh mx s6 n6 e6 s7 e7 n7
          refine ⟨l0, _, _, rfl, rfl, el0, (by show 0 < sizeLine; decide), _, _, (fun y => if y = x then l0 else L3 y), rfl, ?_⟩
          rw [goal4]
          exact p7
      · rintro σ H3 ⟨w4, w5, L3, rfl, p3⟩
        refine ⟨_, _, _, _, L3, rfl, ?_⟩
        rw [List.length_map, List.take_length] at p3
        rw [Mg.trips_take rows 0 i r hr_, Nat.zero_add]
        exact p3
    · rintro σ H1 ⟨v2, v3, v4, v5, L, rfl, p⟩
      refine ⟨_, rfl, ?_⟩
      rw [List.length_map, t2, List.take_length] at p
      exact q H1 D L p
abbrev s_Merge___init : Stmt := clsAt (topS 12) 0
theorem sc_Merge___init : FnScope ["self", "rows", "name", "index", "at"] ["self", "rows"] (defScope s_Merge___init) := ⟨rfl, rfl, rfl, by decide +kernel, rfl, by decide +kernel, by decide +kernel⟩
def sx_Merge___init_0 : Scope := { kind := .function, names := [(".0", .local), ("index", .local), ("at", .local)], isGenerator := false, isCoroutine := false, more := [] }
def sx_Merge___init_1 : Scope := { kind := .function, names := [(".0", .local), ("name", .local), ("len", .globalImplicit), ("self", .cell)], isGenerator := false, isCoroutine := false, more := [] }
theorem ok_Merge___init {f : Addr} {fd : FuncData} (F : Fun K "__init__" "Merge.__init__" s_Merge___init f fd) {C_Merge : Addr} (T : Txt mg) (K_Merge : Kl K mg "Merge" C_Merge ["rows", "places", "gone", "heads", "behind", "ready"]) (D_Merge__prepare : Mn P w K mg base CX0 1 C_Merge "_prepare" ["self", "name"] (spPrepare C_Merge)) (D_places : Dn P w K mg base CX0 1 "_places" ["rows"] (spPlaces)) : FnOk P w K mg base CX0 2 f fd ["self", "rows"] (spMInit C_Merge) := by
  refine F.ok sc_Merge___init (fun vs H Q E h => ?_) (fun cdv A outer s H vs Q E hr h => ?_)
  · obtain ⟨m, dx, T0, rows, rfl, _⟩ := h
    rfl
  · obtain ⟨m, dx, T0, rows, rfl, ho, hR, fit, q⟩ := h
    refine ⟨_, pss_cons (ps_fld (pv 0) (pv 1) rfl)
        (pss_cons (ps_fld (pv 0) (pe_D D_places (hr.mono (by decide)) (by rfl) pass0 (pa_cons (pv 1) pa_nil)) rfl)
        (pss_cons (ps_fld (pv 0) pe_dnewS rfl)
        (pss_cons (ps_fld (pv 0) (pe_op op_repS (pe_lstS (pa_cons pe_int pa_nil)) (pe_callB call_len_seq (by rfl) T.len PySem.boot_len (pa_cons (pv 1) pa_nil))) rfl)
        (pss_cons (ps_fld (pv 0) (pe_lock (pe_dc (own := [("name", 2)]) (g := gName 2) (tt := tYes) rfl sc_Merge___init.nd (pi_keys (pe_fld (pv 0) rfl)) (blkOk_by (N := ["self", "rows", "name", "index", "at"]) (sc := (defScope s_Merge___init)) (by decide +kernel)) (fun _ _ _ _ _ => (pg_name (i := 2) sc_Merge___init.nd rfl (Or.inl rfl))) (fun _ _ _ _ _ => pts_nil) (fun _ _ _ _ _ => (pv 2)) (fun _ _ _ _ _ => (pe_callB (call_len_seqK (K := K) rfl) (by rfl) T.len PySem.boot_len (pa_cons (pe_lc (own := [("index", 3), ("at", 4)]) rfl sc_Merge___init.nd (show PI _ _ _ (iList K _) from pi_list (pe_dget (hu_of hr) (pe_fldK (K := K) rfl (pv 0) rfl) (pv 2) (fun _ _ => rfl))) (blkOk_by (N := ["self", "rows", "name", "index", "at"]) (sc := sx_Merge___init_1) (by decide +kernel)) (fun _ _ _ _ _ => (show PG _ _ (gTup K 2 (gCons (gName 3) (gCons (gName 4) gNil))) from pg_tup rfl (pgs_cons (pg_name (i := 3) sc_Merge___init.nd rfl (Or.inl rfl)) (pgs_cons (pg_name (i := 4) sc_Merge___init.nd rfl (Or.inl rfl)) pgs_nil)))) (fun _ _ _ _ _ => (pts_one (pt_cmpR op_gt (pv 4) pe_int (nomark _)))) (fun _ _ _ _ _ => (pv 4))) pa_nil))))) rfl)
        (pss_cons (ps_fld (pv 0) pe_int rfl)
        (pss_one (ps_lock (ps_for PassesOwn.never rfl (pi_keys (pe_fld (pv 0) rfl)) (pg_name (i := 2) sc_Merge___init.nd rfl (Or.inl rfl)) (pss_one (ps_expr (pe_M D_Merge__prepare K_Merge.cl (pv 0) (hr.mono (by decide)) pass0 (pa_cons (pv 2) pa_nil)))))))))))), ?_⟩
    obtain ⟨as, t1, t2, t3⟩ := id hR
    have KI : ∀ f ∈ (["rows", "places", "gone", "heads", "behind", "ready"] : List Str), NoAttr K C_Merge f := K_Merge.no
    -- rows
    refine ⟨_, rfl, _, rfl, m, C_Merge, dx, _, rfl, ho, K_Merge.cl, K_Merge.no "rows" (by simp), (by show 0 < 1000; decide), ?_⟩
    obtain ⟨H1, e1⟩ : ∃ H1, H1 = upd H m (.ins C_Merge dx (putF "rows" (.ref T0) [])) := ⟨_, rfl⟩
    rw [← e1]
    have d1 : Nb.del H1 m = Nb.del H m := by rw [e1]; exact del_upd
    have o1 : H1 m = some (.ins C_Merge dx [("rows", .ref T0)]) := by rw [e1]; exact upd_same
    have R1 : RowsAt H1 T0 rows := rows_same del_same (d1 ▸ hR)
    -- places
    refine ⟨_, rfl, T0, rows, rfl, R1, fit, fun H2 P0 L p2 => ?_⟩
    have o2 : H2 m = some (.ins C_Merge dx [("rows", .ref T0)]) := p2.same _ _ o1
    refine ⟨_, rfl, m, C_Merge, dx, _, rfl, o2, K_Merge.cl, K_Merge.no "places" (by simp), (by show 1 < 1000; decide), ?_⟩
    obtain ⟨H3, e3⟩ : ∃ H3, H3 = upd H2 m (.ins C_Merge dx (putF "places" (.ref P0) [("rows", .ref T0)])) := ⟨_, rfl⟩
    rw [← e3]
    have d3 : Nb.del H3 m = Nb.del H2 m := by rw [e3]; exact del_upd
    have o3 : H3 m = some (.ins C_Merge dx [("rows", .ref T0), ("places", .ref P0)]) := by rw [e3]; exact upd_same
    -- gone
    refine fun H4 g s4 n4 e4 => ?_
    refine ⟨_, rfl, m, C_Merge, dx, _, rfl, s4 _ _ o3, K_Merge.cl, K_Merge.no "gone" (by simp), (by show 2 < 1000; decide), ?_⟩
    obtain ⟨H5, e5⟩ : ∃ H5, H5 = upd H4 m (.ins C_Merge dx (putF "gone" (.ref g) [("rows", .ref T0), ("places", .ref P0)])) := ⟨_, rfl⟩
    rw [← e5]
    have gm : g ≠ m := fun z => by
      rw [z, o3] at n4
      cases n4
    have d5 : Nb.del H5 m = Nb.del H4 m := by rw [e5]; exact del_upd
    have o5 : H5 m = some (.ins C_Merge dx [("rows", .ref T0), ("places", .ref P0), ("gone", .ref g)]) := by rw [e5]; exact upd_same
    have g5 : H5 g = some (.dK []) := by
      rw [e5, upd_ne gm]
      exact e4
    -- what stands still
    obtain ⟨F, eF⟩ : ∃ F, F = Nb.del H3 m := ⟨_, rfl⟩
    have sF : Same (Nb.del H m) F := by
      rw [eF, d3, ← d1]
      exact same_off (H0 := H) p2.same
    have pF : Pl F P0 L (Mg.trips 0 rows) := by
      have off : ∀ {a : Addr} {o : HO}, H2 a = some o → (∀ C dx fs, o ≠ .ins C dx fs) → F a = some o := fun {a o} k n => by
        have : a ≠ m := fun z => by
          rw [z, o2] at k
          cases k
          exact n _ _ _ rfl
        rw [eF, d3, Nb.del_ne this]
        exact k
      refine ⟨.inl (off p2.d (fun _ _ _ z => by cases z)), fun x hx => ?_⟩
      obtain ⟨_, bs, k1, k2⟩ := p2.l x hx
      exact ⟨bs, off k1 (fun _ _ _ z => by cases z), f2_imp (fun a q k => off k (fun _ _ _ z => by cases z)) k2⟩
    have dF : F P0 = some (.dK ((names rows).map fun x => ((Sum.inr x : Key), V.ref (L x)))) := by
      have k := p2.d
      rw [Mg.names_trips] at k
      have : P0 ≠ m := fun z => by
        rw [z, o2] at k
        cases k
      rw [eF, d3, Nb.del_ne this]
      exact k
    have MF : MgF F T0 P0 rows L := ⟨fit, rows_same sF hR, pF⟩
    have F5 : Same F H5 := by
      rw [eF]
      refine (same_off (H0 := H) (m := m) s4).trans ?_
      rw [← d5]
      exact del_same
    have fm : F m = none := by rw [eF]; exact Nb.del_at
    have fg : F g = none := by rw [eF, Nb.del_ne gm]; exact n4
    -- heads
    refine ⟨(by show 1 ≤ 100000; decide), fun H6 l6 s6 n6 e6 => ?_⟩
    refine ⟨_, rfl, T0, _, rfl, .inr (SqT.of (s6 _ _ (F5 _ _ (sF _ _ t1)))), l6, as.length, [.int 0], rfl, by rw [List.length_map], e6, ?_, ?_, fun H7 hd s7 n7 e7 => ?_⟩
    · rw [t2]
      exact Nat.le_trans fit.few (by decide)
    · show 1 * as.length ≤ 100000
      rw [t2]
      have := fit.few
      omega
    have s67 := s6.trans s7
    refine ⟨_, rfl, m, C_Merge, dx, _, rfl, s67 _ _ o5, K_Merge.cl, K_Merge.no "heads" (by simp), (by show 3 < 1000; decide), ?_⟩
    obtain ⟨H8, e8⟩ : ∃ H8, H8 = upd H7 m (.ins C_Merge dx (putF "heads" (.ref hd) [("rows", .ref T0), ("places", .ref P0), ("gone", .ref g)])) := ⟨_, rfl⟩
    rw [← e8]
    have n7' : H5 hd = none := s6.free n7
    have hm : hd ≠ m := fun z => by
      rw [z, o5] at n7'
      cases n7'
    have hg : hd ≠ g := fun z => by
      rw [z, g5] at n7'
      cases n7'
    have o8 : H8 m = some (.ins C_Merge dx [("rows", .ref T0), ("places", .ref P0), ("gone", .ref g), ("heads", .ref hd)]) := by rw [e8]; exact upd_same
    have g8 : H8 g = some (.dK []) := by
      rw [e8, upd_ne gm]
      exact s67 _ _ g5
    have h8 : H8 hd = some (.lst ((List.replicate rows.length 0).map fun n => V.int (n : Nat))) := by
      rw [e8, upd_ne hm, e7, t2]
      congr 1
      congr 1
      rw [List.map_replicate]
      have : ∀ n, (List.replicate n [V.int 0]).flatten = List.replicate n (V.int ((0 : Nat) : Int)) := by
        intro n
        induction n with
        | zero => rfl
        | succ n ih =>
          rw [List.replicate_succ, List.flatten_cons, ih]
          rfl
      exact this _
    have F8 : Same F H8 := by
      rw [e8]
      exact same_at (F5.trans s67) fm
    have fh : F hd = none := F5.free n7'
    -- behind: under the lock
    have lP : H8 P0 = some (.dK ((names rows).map fun x => ((Sum.inr x : Key), V.ref (L x)))) := F8 _ _ dF
    refine ⟨P0, _, lP, trivial, fun od => ?_⟩
    obtain ⟨kvs, ekv⟩ : ∃ kvs, kvs = (names rows).map fun x => ((Sum.inr x : Key), V.ref (L x)) := ⟨_, rfl⟩
    rw [← ekv] at lP dF ⊢
    obtain ⟨H9, e9⟩ : ∃ H9, H9 = upd H8 P0 (.frz od (.dK kvs)) := ⟨_, rfl⟩
    rw [← e9]
    have Pm : P0 ≠ m := fun z => by rw [z, fm] at dF; cases dF
    have Pg : P0 ≠ g := fun z => by rw [z, fg] at dF; cases dF
    have Ph : P0 ≠ hd := fun z => by rw [z, fh] at dF; cases dF
    have o9 : H9 m = some (.ins C_Merge dx [("rows", .ref T0), ("places", .ref P0), ("gone", .ref g), ("heads", .ref hd)]) := by rw [e9, upd_ne (Ne.symm Pm)]; exact o8
    have P9 : H9 P0 = some (.frz od (.dK kvs)) := by rw [e9]; exact upd_same
    have keep9 : ∀ {a : Addr} {o : HO}, H8 a = some o → a ≠ P0 → H9 a = some o := fun {a o} k n => by rw [e9, upd_ne n]; exact k
    have len : kvs.length = (names rows).length := by rw [ekv, List.length_map]
    have lst9 : ∀ x ∈ names rows, ∃ bs : List Addr, H9 (L x) = some (.lst (bs.map V.ref)) ∧ F2 (fun a (p : Nat × Nat) => H9 a = some (.tup [.int p.1, .int p.2])) bs (Mg.plc 0 rows x) := fun x hx => by
      obtain ⟨bs, k1, k2⟩ := pF.l x (by rw [Mg.names_trips]; exact mem_names.mp hx)
      rw [Mg.pl_trips x rows 0 fit.nd] at k2
      have ne : ∀ {a : Addr} {o : HO}, F a = some o → (∀ kvs, o ≠ .dK kvs) → a ≠ P0 := fun {a o} k n z => by
        rw [z, dF] at k
        cases k
        exact n _ rfl
      exact ⟨bs, keep9 (F8 _ _ k1) (ne k1 fun _ z => by cases z), f2_imp (fun a q k => keep9 (F8 _ _ k) (ne k fun _ z => by cases z)) k2⟩
    have small : (names rows).length ≤ 100000 := Nat.le_trans (seen_len _) fit.all
    refine ⟨_, rfl, m, C_Merge, dx, _, .ref P0, rfl, o9, K_Merge.cl, K_Merge.no "places" (by simp), rfl, P0, od, rfl, .inl ⟨kvs, P9, fun b hb => ?_⟩⟩
    refine dcM (walk_keys (kvs := kvs)) (fun i => Sum.inr ((names rows).getD i "")) (fun i => .int (Mg.behN rows (List.replicate rows.length 0) ((names rows).getD i "") : Nat)) (fun i j l1 l2 e => ?_) (by rw [len]; exact small) hb (fun H' s => s _ _ P9) ?_ ?_
    · have e : (names rows).getD i "" = (names rows).getD j "" := by injection e
      rw [len] at l2
      have nd := nodup_seen rows.flatten
      have l1' : i < (names rows).length := by omega
      rw [List.getD_eq_getElem?_getD, List.getD_eq_getElem?_getD, List.getElem?_eq_getElem l1', List.getElem?_eq_getElem l2] at e
      have := (List.getElem_inj nd).mp (show (names rows)[i] = (names rows)[j] from e)
      omega
    · rintro i x H' H2' N hi s ⟨rfl, k, v, ek, rfl⟩ post
      rw [len] at hi
      obtain ⟨z, ez⟩ : ∃ z, (names rows)[i]? = some z := ⟨_, List.getElem?_eq_getElem hi⟩
      have eg : (names rows).getD i "" = z := by
        rw [List.getD_eq_getElem?_getD, ez]
        rfl
      rw [eg] at post
      have kz : k = Sum.inr z ∧ v = .ref (L z) := by
        rw [ekv, List.getElem?_map, ez] at ek
        cases ek
        exact ⟨rfl, rfl⟩
      obtain ⟨rfl, rfl⟩ := kz
      have mz : z ∈ names rows := List.mem_of_getElem? ez
      obtain ⟨bs, k1, k2⟩ := lst9 z mz
      have dg : DGet H2' P0 (.str z) (some (.ref (L z))) := by
        have v := val_map (L := L) (x := z) (xs := names rows)
        rw [if_pos mz] at v
        exact v ▸ (.inl ⟨_, _, .inr ⟨od, by rw [← ekv]; exact s _ _ P9⟩, rfl, rfl⟩ : DGet _ P0 (kV (Sum.inr z)) _)
      refine ⟨rfl, _, rfl, _, rfl, m, C_Merge, dx, _, .ref P0, rfl, s _ _ o9, K_Merge.cl, K_Merge.no "places" (by simp), rfl, _, rfl, P0, _, rfl, dg, L z, rfl, ⟨_, SqL.of (s _ _ k1)⟩, fun D2 hD2 => ?_⟩
      obtain ⟨ps, eps⟩ : ∃ ps, ps = Mg.plc 0 rows z := ⟨_, rfl⟩
      rw [← eps] at k2
      have lb := f2_len k2
      refine lcS (walk_list (xs := bs.map V.ref)) (fun j => decide (0 < (ps.getD j (0, 0)).2)) (fun j => .int ((ps.getD j (0, 0)).2 : Nat)) ?_ hD2 (fun H3 s3 => SqL.of (s3 _ _ (s _ _ k1))) ?_ ?_
      · rw [List.length_map, lb, eps]
        have := Mg.plc_few rows 0 z
        have := fit.few
        omega
      · rintro j y H3 H4 Nx Nf hj s3 ⟨rfl, hy⟩ px pf
        rw [List.getElem?_map] at hy
        obtain ⟨t, et, rfl⟩ : ∃ t, bs[j]? = some t ∧ y = .ref t := by
          cases e : bs[j]? with
          | none => rw [e] at hy; cases hy
          | some t => rw [e] at hy; exact ⟨t, rfl, (Option.some.inj hy).symm⟩
        obtain ⟨⟨pi, pa⟩, ep, ht⟩ := f2_getl k2 et
        have egp : ps.getD j (0, 0) = (pi, pa) := by
          rw [List.getD_eq_getElem?_getD, ep]
          rfl
        rw [egp] at px pf
        refine ⟨t, [.int (pi : Nat), .int (pa : Nat)], rfl, SqT.of (s3 _ _ (s _ _ ht)), rfl, .int (pi : Nat), [.int (pa : Nat)], rfl, .int (pa : Nat), [], rfl, rfl, rfl, ?_⟩
        refine ⟨_, rfl, _, _, rfl, rfl, _, rfl, ?_⟩
        by_cases q : 0 < pa
        · rw [decide_eq_true (by omega : (0 : Int) < ((pa : Nat) : Int))]
          exact iteT ⟨_, rfl, px (decide_eq_true q) _ (Same.refl _)⟩
        · rw [decide_eq_false (by omega : ¬ (0 : Int) < ((pa : Nat) : Int))]
          exact iteF (pf (decide_eq_false q) _ (Same.refl _))
      · intro H3 s3 e3'
        refine ⟨D2, _, rfl, .inl (SqL.of e3'), ?_⟩
        have el : (((List.range (bs.map V.ref).length).filter fun j => decide (0 < (ps.getD j (0, 0)).2)).map fun j => V.int ((ps.getD j (0, 0)).2 : Nat)).length = Mg.behN rows (List.replicate rows.length 0) z := by
          rw [List.length_map, List.length_map, lb, filter_range (0, 0) (fun p : Nat × Nat => decide (0 < p.2)) ps, eps]
          exact Mg.plc_behind rows 0
        rw [el]
        exact post H3 s3
    intro H10 s10 e10
    refine ⟨s10 _ _ P9, ?_⟩
    have fb : F b = none := F8.free (by
      have k := hb
      rw [e9] at k
      by_cases z : b = P0
      · rw [z, upd_same] at k
        cases k
      · rwa [upd_ne z] at k)
    have bP : b ≠ P0 := fun z => by rw [z, dF] at fb; cases fb
    have hb8 : H8 b = none := by
      have k := hb
      rw [e9, upd_ne bP] at k
      exact k
    have bm : b ≠ m := fun z => by rw [z, o8] at hb8; cases hb8
    have bg : b ≠ g := fun z => by rw [z, g8] at hb8; cases hb8
    have bh : b ≠ hd := fun z => by rw [z, h8] at hb8; cases hb8
    obtain ⟨H11, e11⟩ : ∃ H11, H11 = upd H10 P0 (HO.dK kvs) := ⟨_, rfl⟩
    rw [← e11]
    have keep11 : ∀ {a : Addr} {o : HO}, H8 a = some o → a ≠ P0 → H11 a = some o := fun {a o} k n => by rw [e11, upd_ne n]; exact s10 _ _ (keep9 k n)
    have o11 : H11 m = some (.ins C_Merge dx [("rows", .ref T0), ("places", .ref P0), ("gone", .ref g), ("heads", .ref hd)]) := keep11 o8 (Ne.symm Pm)
    have b11 : H11 b = some (.dK ((names rows).map fun x => ((Sum.inr x : Key), V.int (Mg.behN rows (List.replicate rows.length 0) x : Nat)))) := by
      rw [e11, upd_ne bP, e10, len]
      congr 1
      congr 1
      have := congrArg (List.map fun x => ((Sum.inr x : Key), V.int (Mg.behN rows (List.replicate rows.length 0) x : Nat))) (range_getD ("" : Str) (names rows))
      rw [List.map_map] at this
      exact this
    have F11 : Same F H11 := fun a o k => by
      by_cases z : a = P0
      · rw [z, dF] at k
        cases k
        rw [z, e11]
        exact upd_same
      · exact keep11 (F8 _ _ k) z
    refine ⟨_, rfl, m, C_Merge, dx, _, rfl, o11, K_Merge.cl, K_Merge.no "behind" (by simp), (by show 4 < 1000; decide), ?_⟩
    obtain ⟨H12, e12⟩ : ∃ H12, H12 = upd H11 m (.ins C_Merge dx (putF "behind" (.ref b) [("rows", .ref T0), ("places", .ref P0), ("gone", .ref g), ("heads", .ref hd)])) := ⟨_, rfl⟩
    rw [← e12]
    have o12 : H12 m = some (.ins C_Merge dx [("rows", .ref T0), ("places", .ref P0), ("gone", .ref g), ("heads", .ref hd), ("behind", .ref b)]) := by rw [e12]; exact upd_same
    -- ready
    refine ⟨_, rfl, m, C_Merge, dx, _, rfl, o12, K_Merge.cl, K_Merge.no "ready" (by simp), (by show 5 < 1000; decide), ?_⟩
    obtain ⟨H13, e13⟩ : ∃ H13, H13 = upd H12 m (.ins C_Merge dx (putF "ready" (.int 0) [("rows", .ref T0), ("places", .ref P0), ("gone", .ref g), ("heads", .ref hd), ("behind", .ref b)])) := ⟨_, rfl⟩
    rw [← e13]
    have up : ∀ {a : Addr} {o : HO}, H11 a = some o → a ≠ m → H13 a = some o := fun {a o} k n => by rw [e13, upd_ne n, e12, upd_ne n]; exact k
    have S13 : MgS C_Merge m T0 P0 g hd b rows F H13 [] (List.replicate rows.length 0) 0 := by
      refine ⟨fun a o k => up (F11 _ _ k) (fun z => by rw [z, fm] at k; cases k), ⟨fm, fg, fh, fb⟩, Ne.symm bg, ⟨dx, by rw [e13]; exact upd_same⟩, up (keep11 g8 (Ne.symm Pg)) gm, up (keep11 h8 (Ne.symm Ph)) hm, _, up b11 bm, by rw [List.length_map]; exact small, fun x hx => ?_⟩
      refine ⟨_, val_int hx, fun _ => rfl⟩
    -- the loop, under the lock
    have P13 : H13 P0 = some (.dK kvs) := S13.same _ _ dF
    refine ⟨P0, _, P13, trivial, fun od2 => ?_⟩
    obtain ⟨H14, e14⟩ : ∃ H14, H14 = upd H13 P0 (.frz od2 (.dK kvs)) := ⟨_, rfl⟩
    rw [← e14]
    obtain ⟨F2', eF2⟩ : ∃ F2', F2' = upd F P0 (.frz od2 (.dK kvs)) := ⟨_, rfl⟩
    have S14 : MgS C_Merge m T0 P0 g hd b rows F2' H14 [] (List.replicate rows.length 0) 0 := by
      rw [e14, eF2]
      exact S13.locked Pm Pg Ph (Ne.symm bP)
    have M14 : MgF F2' T0 P0 rows L := by
      rw [eF2]
      exact MF.locked dF ekv
    obtain ⟨dx14, o14⟩ := S14.obj
    refine ⟨_, rfl, m, C_Merge, dx14, _, .ref P0, rfl, o14, K_Merge.cl, K_Merge.no "places" (by simp), rfl, P0, od2, rfl, .inl ⟨kvs, by rw [e14]; exact upd_same, ?_⟩⟩
    refine for_it (walk_keys (kvs := kvs)) (fun i σ H' => ∃ v2 rdy, σ = [some (.ref m), some (.ref T0), v2, none, none] ∧ MgS C_Merge m T0 P0 g hd b rows F2' H' [] (List.replicate rows.length 0) rdy ∧
        ∀ j, rdy.testBit j = true ↔ ∃ x, x ∈ (names rows).take i ∧ Mg.behN rows (List.replicate rows.length 0) x = 0 ∧ Mg.first rows x = j)
      ⟨_, 0, rfl, S14, fun j => by simp⟩ (fun i σ H' _ ⟨_, _, _, S, _⟩ => S.same _ _ (by rw [eF2]; exact upd_same)) ?_ ?_
    · rintro i y σ H' H'' hi ⟨v2, rdy, rfl, S, bits⟩ ⟨rfl, k, v, ek, rfl⟩
      rw [len] at hi
      obtain ⟨z, ez⟩ : ∃ z, (names rows)[i]? = some z := ⟨_, List.getElem?_eq_getElem hi⟩
      have kz : k = Sum.inr z := by
        rw [ekv, List.getElem?_map, ez] at ek
        cases ek
        rfl
      subst kz
      obtain ⟨dx5, o5'⟩ := S.obj
      refine ⟨_, rfl, m, dx5, _, rfl, o5', rfl, _, rfl, m, T0, P0, g, hd, b, rows, F2', L, [], List.replicate rows.length 0, rdy, z, rfl, M14, S, List.mem_of_getElem? ez, (fun h => nomatch h), fun H3 S3 => ?_⟩
      refine ⟨_, _, rfl, S3, fun j => ?_⟩
      have step : (∃ x, x ∈ (names rows).take (i + 1) ∧ Mg.behN rows (List.replicate rows.length 0) x = 0 ∧ Mg.first rows x = j) ↔ (∃ x, x ∈ (names rows).take i ∧ Mg.behN rows (List.replicate rows.length 0) x = 0 ∧ Mg.first rows x = j) ∨ (Mg.behN rows (List.replicate rows.length 0) z = 0 ∧ Mg.first rows z = j) := by
        rw [List.take_add_one, ez]
        constructor
        · rintro ⟨x, hx, a, b⟩
          rcases List.mem_append.mp hx with h | h
          · exact .inl ⟨x, h, a, b⟩
          · have : x = z := by simpa using h
            subst this
            exact .inr ⟨a, b⟩
        · rintro (⟨x, hx, a, b⟩ | ⟨a, b⟩)
          · exact ⟨x, List.mem_append_left _ hx, a, b⟩
          · exact ⟨z, List.mem_append_right _ (by simp), a, b⟩
      rw [step, ← bits j]
      simp only [Mg.bits]
      by_cases q : Mg.behN rows (List.replicate rows.length 0) z = 0
      · rw [if_pos q, Nat.testBit_or, Nat.testBit_two_pow]
        simp [q]
      · rw [if_neg q]
        simp [q]
    · rintro σ H' ⟨v2, rdy, rfl, S, bits⟩
      refine ⟨S.same _ _ (by rw [eF2]; exact upd_same), ?_⟩
      rw [len, List.take_length] at bits
      have SF : MgS C_Merge m T0 P0 g hd b rows F (upd H' P0 (.dK kvs)) [] (List.replicate rows.length 0) rdy := by
        rw [eF2] at S
        exact S.unlocked dF Pm Pg Ph (Ne.symm bP)
      refine q _ P0 g hd b L F rdy sF MF SF (Mg.inv_begin fit.nd fun j => ?_) (by rw [← ekv]; exact dF)
      rw [bits j]
      constructor
      · rintro ⟨x, hx, r⟩
        exact ⟨x, mem_names.mp hx, r⟩
      · rintro ⟨x, hx, r⟩
        exact ⟨x, mem_names.mpr hx, r⟩
end
end K07

set_option Elab.async false
set_option linter.all false
set_option maxRecDepth 100000
set_option maxHeartbeats 4000000
namespace K07
open PySem Nb
open L2 hiding del del_ne del_same
def spCheck : Sp := fun vs H Q _ => ∃ (r : Addr) (rows : List (List Str)), vs = [.ref r] ∧ RowsAt H r rows ∧ (∀ row ∈ rows, GoodRow row) ∧ rows.length ≤ 100 ∧ ∀ H', Same H H' → Q .non H'
theorem flat_len {rows : List (List Str)} : (∀ row ∈ rows, GoodRow row) → rows.flatten.length ≤ 8 * rows.length := by
  induction rows with
  | nil => exact fun _ => Nat.le_refl _
  | cons r rs ih =>
    intro h
    have h1 := (h r (List.mem_cons_self ..)).2.2
    have h2 := ih fun x hx => h x (List.mem_cons_of_mem _ hx)
    rw [List.flatten_cons, List.length_append, List.length_cons]
    omega
theorem fit_good {rows : List (List Str)} (h : ∀ row ∈ rows, GoodRow row) (l : rows.length ≤ 100) : Fit rows := ⟨fun r hr => (h r hr).1, by omega, by have := flat_len h; omega⟩
/-- the merge exists -/
def Full (rows : List (List Str)) : Prop := (Mg.drawn rows).length = (names rows).length
def spMerged : Sp := fun vs H Q _ => ∃ (T0 : Addr) (rows : List (List Str)), vs = [.ref T0] ∧ RowsAt H T0 rows ∧ (∀ row ∈ rows, GoodRow row) ∧ rows.length ≤ 100 ∧ Full rows ∧ ∀ H' r o, Same H H' → H' r = some (.frz o (.tup ((Mg.drawn rows).map V.str))) → TupObj o → Q (.ref r) H'
section
variable {P : Program} {w : World} {K : PySem.W.Frag} {mg : Str → Option Value} {base : Heap}
abbrev s_check_tuples : Stmt := topS 14
theorem sc_check_tuples : FnScope ["tuples", "index", "row"] ["tuples"] (defScope s_check_tuples) := ⟨rfl, rfl, rfl, by decide +kernel, rfl, by decide +kernel, by decide +kernel⟩
theorem ok_check_tuples {f : Addr} {fd : FuncData} (F : Fun K "_check_tuples" "_check_tuples" s_check_tuples f fd) (T : Txt mg) (D_are_different_names : Dn P w K mg base CX0 3 "are_different_names" ["thing"] (spOf K diffOf)) : FnOk P w K mg base CX0 4 f fd ["tuples"] (spCheck) := by
  refine F.ok sc_check_tuples (fun vs H Q E h => ?_) (fun cdv A outer s H vs Q E hr h => ?_)
  · obtain ⟨r, rows, rfl, _⟩ := h
    rfl
  · obtain ⟨r, rows, rfl, hR, hg, hl, q⟩ := h
    refine ⟨_, pss_one (ps_for PassesOwn.never rfl (pi_enumT (by rfl) T.enumerate (pa_cons (pv 0) pa_nil)) (pg_tup rfl (pgs_cons (pg_name (i := 1) sc_check_tuples.nd rfl (Or.inl rfl)) (pgs_cons (pg_name (i := 2) sc_check_tuples.nd rfl (Or.inl rfl)) pgs_nil))) (pss_one (ps_if (pt_not (pt_val (pe_D D_are_different_names (hr.mono (by decide)) (by rfl) pass0 (pa_cons (pv 2) pa_nil)))) (pss_one ps_never) pss_nil))), ?_⟩
    obtain ⟨as, h1, h2, h3⟩ := id hR
    refine ⟨_, rfl, r, _, rfl, SqT.of h1, for_it (walk_enumT (K := K) (a := r) (xs := as.map V.ref)) (fun i σ H' => ∃ v1 v2, σ = [some (.ref r), v1, v2] ∧ Same H H')
      ⟨_, _, rfl, Same.refl _⟩ (fun i σ H' _ ⟨_, _, _, s1⟩ => SqT.of (s1 _ _ h1)) ?_ ?_⟩
    · rintro i x σ H1 H2 hi ⟨v1, v2, rfl, s1⟩ ⟨t, x1, x2, rfl, new, rfl, e1, e2⟩
      have ex1 : x1 = .int (i : Nat) := (Option.some.inj e1).symm
      subst ex1
      have e2 : (as.map V.ref)[i]? = some x2 := e2
      rw [List.getElem?_map] at e2
      obtain ⟨a, ea, rfl⟩ : ∃ a, as[i]? = some a ∧ x2 = .ref a := by
        cases e : as[i]? with
        | none =>
          rw [e] at e2
          cases e2
        | some a =>
          rw [e] at e2
          exact ⟨a, rfl, (Option.some.inj e2).symm⟩
      have hil : i < rows.length := by
        rw [← h2]
        exact (List.getElem?_eq_some_iff.mp ea).1
      have er : rows[i]? = some rows[i] := List.getElem?_eq_getElem hil
      have gr := hg rows[i] (List.getElem_mem hil)
      have s2 : Same H (upd H1 t (.tup [.int (i : Nat), .ref a])) := s1.trans (same_new new)
      have ha := rd_same s2 (h3 i a rows[i] ea er)
      refine ⟨t, [.int (i : Nat), .ref a], rfl, .inl (.inl upd_same), rfl, .int (i : Nat), [.ref a], rfl, .ref a, [], rfl, rfl, ?_⟩
      refine ⟨_, rfl, .ref a, rfl, good_thing gr ha, fun H3 s3 => ⟨_, rfl, ?_⟩⟩
      have e3 : diffOf (upd H1 t (.tup [.int (i : Nat), .ref a])) (.ref a) = true := by
        unfold diffOf
        rw [tupOf_at ha]
        exact good_diff gr
      rw [e3]
      refine iteF ?_
      exact ⟨_, _, rfl, s2.trans s3⟩
    · rintro σ H' ⟨v1, v2, rfl, s1⟩
      exact q H' s1
abbrev s_merged : Stmt := topS 13
theorem sc_merged : FnScope ["tuples", "merge", "names"] ["tuples"] (defScope s_merged) := ⟨rfl, rfl, rfl, by decide +kernel, rfl, by decide +kernel, by decide +kernel⟩
theorem ok_merged {f : Addr} {fd : FuncData} (F : Fun K "merged" "merged" s_merged f fd) {C_Merge : Addr} (T : Txt mg) (K_Merge : Kl K mg "Merge" C_Merge ["rows", "places", "gone", "heads", "behind", "ready"]) (D_Merge_draw : Mn P w K mg base CX0 4 C_Merge "draw" ["self"] (spDraw C_Merge)) (D_Merge___init : Mi P w K mg base CX0 2 C_Merge ["self", "rows"] (spMInit C_Merge)) (D_check_tuples : Dn P w K mg base CX0 4 "_check_tuples" ["tuples"] (spCheck)) : FnR P w K mg base CX0 5 f (spStar (spMerged)) := by
  refine okStar F sc_merged (fun _ _ _ _ _ _ => rfl) (fun _ _ _ _ _ _ _ _ => rfl) (fun cdv A outer s H vs Q E hr h => ?_)
  obtain ⟨T0, rows, rfl, hR, hg, hl, full, q⟩ := h
  refine ⟨_, pss_cons (ps_expr (pe_D D_check_tuples (hr.mono (by decide)) (by rfl) pass0 (pa_cons (pv 0) pa_nil)))
        (pss_cons (ps_set (i := 1) sc_merged.nd rfl (Or.inl rfl) (pe_Mi D_Merge___init (hr.mono (by decide)) (by rfl) K_Merge.g pass0 (pa_cons (pv 0) pa_nil)))
        (pss_cons (ps_set (i := 2) sc_merged.nd rfl (Or.inl rfl) (pe_M0 D_Merge_draw K_Merge.cl (pv 1) (hr.mono (by decide)) pass0))
        (pss_cons (ps_if (pt_cmpR op_lt (pe_callB call_len_seq (by rfl) T.len PySem.boot_len (pa_cons (pv 2) pa_nil)) (pe_callB call_lenD (by rfl) T.len PySem.boot_len (pa_cons (pe_fld (pv 1) rfl) pa_nil)) (nomark _)) (pss_one ps_never) pss_nil)
        (pss_one (ps_ret (pe_callTy cr_tupleFS (by rfl) T.tuple (by decide +kernel) (pa_cons (pv 2) pa_nil))))))), ?_⟩
  refine ⟨_, rfl, T0, rows, rfl, hR, hg, hl, fun H1 s1 => ?_⟩
  have fit := fit_good hg hl
  refine ⟨_, rfl, fun m dx hm hdx ne => ?_⟩
  obtain ⟨H2, e2⟩ : ∃ H2, H2 = upd (upd H1 dx (.own m)) m (.ins C_Merge dx []) := ⟨_, rfl⟩
  rw [← e2]
  have s2 : Same H (Nb.del H2 m) := fun a o k => by
    have k1 := s1 _ _ k
    have am : a ≠ m := fun z => by
      rw [z, hm] at k1
      cases k1
    have ad : a ≠ dx := fun z => by
      rw [z, hdx] at k1
      cases k1
    rw [Nb.del_ne am, e2, upd_ne am, upd_ne ad]
    exact k1
  refine ⟨m, dx, T0, rows, rfl, by rw [e2]; exact upd_same, rows_same s2 hR, fit, ?_⟩
  intro H3 P0 g hd b L F rdy s3 MF S I eP
  refine ⟨rfl, ?_⟩
  obtain ⟨dx3, o3⟩ := S.obj
  refine ⟨_, rfl, m, dx3, _, rfl, o3, rfl, m, T0, P0, g, hd, b, rows, F, L, [], List.replicate rows.length 0, rdy, rfl, MF, S, List.nodup_nil, (fun x h => nomatch h), I, ?_⟩
  intro H4 l hs' S4 _ el _ _ _
  rw [Mg.alive_nil] at el
  obtain ⟨dx4, o4⟩ := S4.obj
  have P4 : H4 P0 = some (.dK ((names rows).map fun x => ((Sum.inr x : Key), V.ref (L x)))) := S4.same _ _ eP
  refine ⟨_, rfl, l, _, rfl, .inl (SqL.of el), _, rfl, m, C_Merge, dx4, _, .ref P0, rfl, o4, K_Merge.cl, K_Merge.no "places" (by simp), rfl, P0, _, rfl, P4, ?_⟩
  refine ⟨_, _, rfl, rfl, _, rfl, ?_⟩
  have e5 : decide (((((Mg.drawn rows).map V.str).length : Nat) : Int) < ((((names rows).map fun x => ((Sum.inr x : Key), V.ref (L x))).length : Nat) : Int)) = false := by
    rw [decide_eq_false_iff_not, List.length_map, List.length_map, full]
    exact Int.lt_irrefl _
  rw [e5]
  exact ⟨_, rfl, l, _, rfl, SqL.of el, fun H5 r o s5 _ e5 t5 => q H5 r o (((s2.trans s3).trans S4.same).trans s5) e5 t5⟩
end
end K07

set_option Elab.async false
set_option linter.all false
set_option maxRecDepth 100000
set_option maxHeartbeats 4000000
namespace K07
open PySem Nb
open L2 hiding del del_ne del_same
theorem cut_len (xs : List V) (t : Nat) : (cutV xs none (some (t : Int))).length ≤ t := by
  unfold cutV
  rw [HT.sIx_none, HT.sIx_nat, List.length_take]
  omega
def spRowsF : Sp := fun vs H Q _ => ∃ (p : Addr) (m t b : Nat) (F : Hp), vs = [.ref p, .int m, .int t, .bl false] ∧ m ≤ 10 ∧ t ≤ 20 ∧ Src H p b ∧ b ≤ 800000 ∧ F p = none ∧ Same F H ∧
  ∀ (H' : Hp) (l : Addr) (as : List Addr) (rows : List (List Str)) (ws : List Str), Same F H' → F l = none → l ≠ p → H' l = some (.lst (as.map V.ref)) → RowsL H' as rows → rows.length = m → (∀ row ∈ rows, GoodRow row) →
    ws.Nodup → (∀ z ∈ ws, z ∈ eight) → ws.length ≤ t → (∀ row ∈ rows, row.Sublist ws) → Src H' p (b + 8 + 17 * m) → Q (.ref l) H'
section
variable {P : Program} {w : World} {K : PySem.W.Frag} {mg : Str → Option Value} {base : Heap}
abbrev s_h_mixed : Stmt := topS 21
theorem sc_h_mixed : FnScope ["_law_source_here", "_law_items", "_law_rest", "_law_found"] ["_law_source_here", "_law_items"] (defScope s_h_mixed) := ⟨rfl, rfl, rfl, by decide +kernel, rfl, by decide +kernel, by decide +kernel⟩
theorem ok_h_mixed {f : Addr} {fd : FuncData} (F : Fun K "_law_mixed" "_law_mixed" s_h_mixed f fd) (T : Txt mg) (D_h_next : Dn P w K mg base CX0 1 "_law_next" ["_law_source_here", "_law_many"] (spNext)) : FnOk P w K mg base CX0 2 f fd ["_law_source_here", "_law_items"] (spMixed) := by
  refine F.ok sc_h_mixed (fun vs H Q E h => ?_) (fun cdv A outer s H vs Q E hr h => ?_)
  · obtain ⟨p, l, zs, b, G, rfl, _⟩ := h
    rfl
  · obtain ⟨p, l, zs, b, G, rfl, hl, hlen, hw, hS, hB, hG, hs, q⟩ := h
    refine ⟨_, pss_cons (ps_par (i := 2) (j := 3) rfl sc_h_mixed.nd rfl rfl (by decide) rfl rfl (pa_cons (pe_callTy call_list_of (by rfl) T.list (by decide +kernel) (pa_cons (pv 1) pa_nil)) (pa_cons (pe_lst pa_nil) pa_nil)) rfl)
        (pss_cons (ps_while PassesOwn.never (pt_cmpR (op_neD hr.units) (pv 2) (pe_lst pa_nil) (nomark _)) (pss_one (ps_expr (pe_bm PySem.F.plainAttrs_list PySem.F.slot_list_append PySem.F.type_list_append mt_append (pv 3) (pa_cons (pe_bm PySem.F.plainAttrs_list PySem.F.slot_list_pop PySem.F.type_list_pop mt_popAt (pv 2) (pa_cons (pe_D D_h_next (hr.mono (by decide)) (by rfl) pass0 (pa_cons (pv 0) (pa_cons (pe_callB call_len_seq (by rfl) T.len PySem.boot_len (pa_cons (pv 2) pa_nil)) pa_nil))) pa_nil)) pa_nil)))))
        (pss_one (ps_ret (pv 3)))), ?_⟩
    refine ⟨_, rfl, l, _, rfl, .inl (SqL.of (hs _ _ hl)), fun r hr0 => ?_⟩
    refine ⟨Nat.zero_le _, fun o ho => ?_⟩
    have nrp : r ≠ p := src_fresh hS hr0
    have S1 := src_new (o := HO.lst (zs.map V.str)) hS hr0
    have nop : o ≠ p := src_fresh S1 ho
    have nro : r ≠ o := ne_of_none upd_same ho
    have Gr : G r = none := hs.free hr0
    have Go : G o = none := (hs.trans (same_new hr0)).free ho
    refine ⟨_, _, rfl, while_by (fun σ H' => ∃ rs fs : List Str, σ = [some (.ref p), some (.ref l), some (.ref r), some (.ref o)] ∧ Same G H' ∧ H' r = some (.lst (rs.map V.str)) ∧ H' o = some (.lst (fs.map V.str)) ∧ (fs ++ rs).Perm zs ∧ Src H' p (b + fs.length))
      (fun σ H' => match H' r with | some (.lst xs) => xs.length | _ => 0) ?_ ?_ ?_⟩
    · refine ⟨zs, [], rfl, (hs.trans (same_new hr0)).trans (same_new ho), by rw [upd_ne nro]; exact upd_same, upd_same, List.Perm.refl _, src_new S1 ho⟩
    · rintro σ H' ⟨rs, fs, rfl, s1, er, eo, pm, S'⟩
      have lrs : fs.length + rs.length = zs.length := by rw [← List.length_append]; exact pm.length_eq
      have wrs : ∀ z ∈ rs, Word z := fun z hz => hw z (pm.subset (List.mem_append_right _ hz))
      refine ⟨_, rfl, Nat.zero_le _, fun e he => ?_⟩
      have ner : r ≠ e := ne_of_none er he
      have neo : o ≠ e := ne_of_none eo he
      have s2 : Same H' (upd H' e (.lst [])) := same_new he
      refine ⟨.list (rs.map PyData.str), .list [], .lst (SqL.of (s2 _ _ er)) (dps_strs rs), .lst (SqL.of upd_same) .nil, (fine_strs wrs).shaped (by decide), by decide, _, rfl, ?_⟩
      rw [eqv_nil]
      cases rs with
      | nil =>
        refine iteF ?_
        refine ⟨_, rfl, ?_⟩
        refine q _ o fs (s1.trans s2) Go nop (by rw [upd_ne neo]; exact eo) (by simpa using pm) ?_
        have : fs.length = zs.length := by simpa using lrs
        rw [← this]
        exact src_new S' he
      | cons z0 rs =>
        refine iteT ?_
        have S2 := src_new (o := HO.lst []) S' he
        have m0 : (match (upd H' e (.lst [])) r with | some (.lst xs) => xs.length | _ => 0) = (z0 :: rs).length := by
          rw [upd_ne ner, er]
          simp
        refine ⟨_, rfl, .inl ⟨rfl, _, SqL.of (s2 _ _ eo)⟩, _, rfl, .inl ⟨rfl, _, SqL.of (s2 _ _ er)⟩, _, rfl, _, rfl, r, _, rfl, .inl (SqL.of (s2 _ _ er)), p, _, _, del (upd H' e (.lst [])) p, rfl, by simp; omega, by simp at lrs ⊢; omega, S2, by omega, del_at, del_same, fun H2 k k0 k1 s3 S3 => ?_⟩
        have er2 := del_get s3 nrp (s2 _ _ er)
        have eo2 := del_get s3 nop (s2 _ _ eo)
        obtain ⟨j, rfl⟩ : ∃ j : Nat, k = (j : Int) := ⟨_, (Int.toNat_of_nonneg k0).symm⟩
        have hj : j < (z0 :: rs).length := by simp at k1 ⊢; omega
        have hjl : j < 1000 := by simp at hj lrs; omega
        refine ⟨r, _, _, j, .str (z0 :: rs)[j], rfl, rfl, er2, by omega, by omega, ?_, ?_, ?_⟩
        · exact seqIx (by rw [List.length_map]; exact hj)
        · rw [List.getElem?_map, List.getElem?_eq_getElem hj]
          rfl
        · rw [erase_map]
          have lr2 : ((z0 :: rs).eraseIdx j).length = rs.length := by rw [List.length_eraseIdx_of_lt hj]; rfl
          have nor : o ≠ r := nro.symm
          have eo3 : (upd H2 r (.lst (((z0 :: rs).eraseIdx j).map V.str))) o = some (.lst (fs.map V.str)) := by rw [upd_ne nor]; exact eo2
          refine ⟨o, _, _, rfl, rfl, eo3, ?_, ?_, ?_⟩
          · rw [List.length_map]
            exact small1000 (by omega)
          · refine ⟨(z0 :: rs).eraseIdx j, fs ++ [(z0 :: rs)[j]], rfl, ?_, ?_, ?_, ?_, ?_⟩
            · have s4 : Same G H2 := (same_del (s1.trans s2) hG).trans s3
              exact same_at (same_at s4 Gr) Go
            · rw [upd_ne nro]
              exact upd_same
            · rw [upd_same]
              simp
            · refine List.Perm.trans ?_ pm
              rw [List.append_assoc]
              exact List.Perm.append_left fs (erase_perm hj)
            · have := src_at (src_at S3 nrp.symm) nop.symm (o := HO.lst (fs.map V.str ++ [V.str (z0 :: rs)[j]])) (H := upd H2 r (.lst (((z0 :: rs).eraseIdx j).map V.str)))
              refine this.mono ?_
              rw [List.length_append]
              simp
              omega
          · show (match (upd (upd H2 r _) o _) r with | some (.lst xs) => xs.length | _ => 0) < (match H' r with | some (.lst xs) => xs.length | _ => 0)
            rw [upd_ne nro, upd_same, er]
            simp only [List.length_map]
            rw [lr2]
            exact Nat.lt_succ_self _
    · rintro σ' H1 Q1 Q2 hq ⟨v, ev, lv, kv⟩
      exact ⟨v, ev, lv, fun p hp => let ⟨d, e, a1, a2, a3, a4, c, ec, qq⟩ := kv p hp; ⟨d, e, a1, a2, a3, a4, c, ec, hq _ _ qq⟩⟩
abbrev s_h_name_rows : Stmt := topS 22
theorem sc_h_name_rows : FnScope ["_law_source_here", "_law_many", "_law_most", "_law_is_free", "_law_whole", "_law_found", "_law_turn", "_law_some", "_law_item"] ["_law_source_here", "_law_many", "_law_most", "_law_is_free"] (defScope s_h_name_rows) := ⟨rfl, rfl, rfl, by decide +kernel, rfl, by decide +kernel, by decide +kernel⟩
def sx_h_name_rows_0 : Scope := { kind := .function, names := [(".0", .local), ("_law_item", .local), ("_law_next", .globalImplicit), ("_law_source_here", .cell)], isGenerator := false, isCoroutine := false, more := [] }
theorem ok_h_name_rows {f : Addr} {fd : FuncData} (F : Fun K "_law_name_rows" "_law_name_rows" s_h_name_rows f fd) (T : Txt mg) (D_h_next : Dn P w K mg base CX0 1 "_law_next" ["_law_source_here", "_law_many"] (spNext)) (D_h_mixed : Dn P w K mg base CX0 2 "_law_mixed" ["_law_source_here", "_law_items"] (spMixed)) : FnOk P w K mg base CX0 3 f fd ["_law_source_here", "_law_many", "_law_most", "_law_is_free"] (spRowsF) := by
  refine F.ok sc_h_name_rows (fun vs H Q E h => ?_) (fun cdv A outer s H vs Q E hr h => ?_)
  · obtain ⟨p, m, t, b, G, rfl, _⟩ := h
    rfl
  · obtain ⟨p, m, t, b, G, rfl, hm, ht, hS, hB, hG, hs, q⟩ := h
    refine ⟨_, pss_cons (ps_par (i := 4) (j := 5) rfl sc_h_name_rows.nd rfl rfl (by decide) rfl rfl (pa_cons (pe_slice sl_list (pe_D D_h_mixed (hr.mono (by decide)) (by rfl) pass0 (pa_cons (pv 0) (pa_cons (pe_lst (pa_cons pe_str (pa_cons pe_str (pa_cons pe_str (pa_cons pe_str (pa_cons pe_str (pa_cons pe_str (pa_cons pe_str (pa_cons pe_str pa_nil))))))))) pa_nil))) po_none (po_some (pv 2))) (pa_cons (pe_lst pa_nil) pa_nil)) rfl)
        (pss_cons (ps_for PassesOwn.never rfl (pi_range1 (by rfl) T.range (pa_cons (pv 1) pa_nil)) (pg_name (i := 6) sc_h_name_rows.nd rfl (Or.inl rfl)) (pss_cons (ps_set (i := 7) sc_h_name_rows.nd rfl (Or.inl rfl) (pe_ifExp (PW.pt (pw_or (pt_not (pt_val (pv 3))) (pw_or1 (pt_cmpR op_eq (pe_D D_h_next (hr.mono (by decide)) (by rfl) pass0 (pa_cons (pv 0) (pa_cons pe_int pa_nil))) pe_int (nomark _))))) (pv 4) (pe_D D_h_mixed (hr.mono (by decide)) (by rfl) pass0 (pa_cons (pv 0) (pa_cons (pv 4) pa_nil)))))
        (pss_one (ps_expr (pe_bm PySem.F.plainAttrs_list PySem.F.slot_list_append PySem.F.type_list_append mt_append (pv 5) (pa_cons (pe_callTy cr_tupleF (by rfl) T.tuple (by decide +kernel) (pa_cons (pe_lc (own := [("_law_item", 8)]) (g := gName 8) rfl sc_h_name_rows.nd (pi_list (pv 7)) (blkOk_by (N := ["_law_source_here", "_law_many", "_law_most", "_law_is_free", "_law_whole", "_law_found", "_law_turn", "_law_some", "_law_item"]) (sc := (defScope s_h_name_rows)) (by decide +kernel)) (fun _ _ _ _ _ => (pg_name (i := 8) sc_h_name_rows.nd rfl (Or.inl rfl))) (fun _ _ _ _ _ => (pts_one (pt_cmpR op_gt (pe_D D_h_next (hr.mono (by decide)) (by rfl) pass0 (pa_cons (pv 0) (pa_cons pe_int pa_nil))) pe_int (nomark _)))) (fun _ _ _ _ _ => (pv 8))) pa_nil)) pa_nil))))))
        (pss_one (ps_ret (pv 5)))), ?_⟩
    have hr1 := hr.mono (show 1 ≤ _ by decide)
    refine ⟨_, rfl, (by show 8 ≤ sizeLine; decide), fun l0 hl0 => ?_⟩
    have n0 : l0 ≠ p := src_fresh hS hl0
    refine ⟨p, l0, eight, b, upd G l0 (.lst (eight.map V.str)), rfl, upd_same, by decide, good_words good_eight, src_new hS hl0, by omega, grow_at hG hS hl0, grow_up hs, fun H1 l1 ys s1 f1 n1 e1 pm S1 => ?_⟩
    have sG1 : Same G H1 := (grow_same hs hl0).trans s1
    refine ⟨_, rfl, _, rfl, l1, _, rfl, SqL.of e1, fun W hW => ?_⟩
    obtain ⟨ws, ews, sub⟩ := cut_strs ys none (some (t : Int))
    have gws : GoodRow ws := good_sub (good_perm good_eight pm) sub
    have nWp : W ≠ p := src_fresh S1 hW
    have S2 := src_new (o := HO.lst (cutV (ys.map V.str) none (some (t : Int)))) S1 hW
    refine ⟨Nat.zero_le _, fun o ho => ?_⟩
    have nop : o ≠ p := src_fresh S2 ho
    have nWo : W ≠ o := ne_of_none upd_same ho
    have GW : G W = none := sG1.free hW
    have Go : G o = none := (sG1.trans (same_new hW)).free ho
    refine ⟨_, _, rfl, ?_⟩
    refine ⟨_, rfl, m, rfl, by omega, by omega, for_range (lo := 0) (n := ((m : Nat) : Int).toNat) (fun i σ H' => ∃ v6 v7, σ = [some (.ref p), some (.int m), some (.int t), some (.bl false), some (.ref W), some (.ref o), v6, v7, none] ∧ Same G H' ∧ H' W = some (.lst (ws.map V.str)) ∧ Src H' p (b + 8 + 17 * i) ∧
      ∃ (as : List Addr) (rows : List (List Str)), H' o = some (.lst (as.map V.ref)) ∧ RowsL H' as rows ∧ rows.length = i ∧ ∀ row ∈ rows, GoodRow row ∧ row.Sublist ws) ?_ ?_ ?_⟩
    · refine ⟨_, _, rfl, (sG1.trans (same_new hW)).trans (same_new ho), by rw [upd_ne nWo, upd_same, ews], (src_new S2 ho).mono (by simp [eight]), [], [], upd_same, ⟨rfl, fun k a row e _ => by simp at e⟩, rfl, fun row h => by cases h⟩
    · rintro i σ H2 hi ⟨v6, v7, rfl, s2, eW, S2', as, rows, eo, hR, lr, hg⟩
      have hi10 : i < 10 := by omega
      have las : as.length = i := by rw [hR.1, lr]
      refine ⟨_, rfl, _, rfl, ?_⟩
      have same1 : ∃ (wl : Addr) (us : List Str) (H3 : Hp), wl = W ∧ H3 = H2 ∧ us = ws ∧ Same G H3 ∧ H3 wl = some (.lst (us.map V.str)) ∧ wl ≠ p ∧ GoodRow us ∧ H3 W = some (.lst (ws.map V.str)) ∧ H3 o = some (.lst (as.map V.ref)) ∧ RowsL H3 as rows ∧ Src H3 p (b + 8 + 17 * i + 9) :=
        ⟨W, ws, H2, rfl, rfl, rfl, s2, eW, nWp, gws, eW, eo, hR, S2'.mono (by omega)⟩
      refine iteT ⟨_, rfl, ?_⟩
      obtain ⟨wl, us, H3, ew, eh, eus, s3, ewl, nwl, gus, eW3, eo3, hR3, S3⟩ := same1
      rw [← ew, ← eh]
      refine ⟨_, rfl, .inl ⟨rfl, _, SqL.of eo3⟩, _, rfl, wl, rfl, ⟨_, SqL.of ewl⟩, fun D hD => ?_⟩
      have nDp : D ≠ p := src_fresh S3 hD
      have nlD : wl ≠ D := ne_of_none ewl hD
      have nWD : W ≠ D := ne_of_none eW3 hD
      have noD : o ≠ D := ne_of_none eo3 hD
      have l8 := gus.2.2
      refine lc_list (K := K) (a := wl) (xs := us.map V.str) (fun j H4 => Same G H4 ∧ H4 wl = some (.lst (us.map V.str)) ∧ H4 W = some (.lst (ws.map V.str)) ∧ H4 o = some (.lst (as.map V.ref)) ∧ RowsL H4 as rows ∧ Src H4 p (b + 8 + 17 * i + 9 + j) ∧ ∃ kept : List Str, H4 D = some (.lst (kept.map V.str)) ∧ kept.Sublist (us.take j))
        ⟨s3.trans (same_new hD), by rw [upd_ne nlD]; exact ewl, by rw [upd_ne nWD]; exact eW3, by rw [upd_ne noD]; exact eo3, rowsL_same (same_new hD) hR3, src_new S3 hD, [], upd_same, List.Sublist.refl _⟩ (fun j H4 _ ⟨_, q1, _⟩ => SqL.of q1) (fun j y H4 hy ⟨r1, r2, r3, r4, r5, r6, kept, r7, r8⟩ => ?_) (fun H4 ⟨r1, r2, r3, r4, r5, r6, kept, r7, r8⟩ => ?_)
      · have hjl : j < us.length := by
          have := (List.getElem?_eq_some_iff.mp hy).1
          simpa using this
        have ey : y = V.str us[j] := by
          rw [List.getElem?_map, List.getElem?_eq_getElem hjl] at hy
          exact (Option.some.inj hy).symm
        subst ey
        refine ⟨rfl, _, rfl, p, 3, _, del H4 p, rfl, by decide, by decide, r6, by omega, del_at, del_same, fun H5 k k0 k1 s5 S5 => ?_⟩
        have u1 : Same G H5 := (same_del r1 hG).trans s5
        have u2 := del_get s5 nwl r2
        have u3 := del_get s5 nWp r3
        have u4 := del_get s5 nop r4
        have u5 := rowsL_del r6 s5 r5
        have u7 := del_get s5 nDp r7
        have tk : us.take (j + 1) = us.take j ++ [us[j]] := by
          rw [List.take_add_one, List.getElem?_eq_getElem hjl]
          rfl
        have GD : G D = none := s3.free hD
        refine ⟨_, _, rfl, rfl, _, rfl, ite2 (fun _ => ?_) (fun _ => ?_)⟩
        · refine ⟨_, rfl, _, u7, ?_, same_at u1 GD, by rw [upd_ne nlD]; exact u2, by rw [upd_ne nWD]; exact u3, by rw [upd_ne noD]; exact u4, ?_, src_at S5 nDp.symm, kept ++ [us[j]], ?_, ?_⟩
          · rw [List.length_map]
            have := r8.length_le
            rw [List.length_take] at this
            exact small1000 (by omega)
          · refine ⟨u5.1, fun k a row e1 e2 => ?_⟩
            obtain ⟨ob, e3, e4⟩ := u5.2 k a row e1 e2
            have naD : a ≠ D := fun z => by
              rw [z, u7] at e3
              cases e3
            exact ⟨ob, by rw [upd_ne naD]; exact e3, e4⟩
          · rw [upd_same]
            simp
          · rw [tk]
            exact r8.append (List.Sublist.refl _)
        · exact ⟨u1, u2, u3, u4, u5, S5, kept, u7, by rw [tk]; exact r8.trans (List.sublist_append_left _ _)⟩
      · refine ⟨D, _, rfl, SqL.of r7, fun tq ob htq tob => ?_⟩
        have noq : o ≠ tq := ne_of_none r4 htq
        have nWq : W ≠ tq := ne_of_none r3 htq
        have v4 : (upd H4 tq (.frz ob (.tup (kept.map V.str)))) o = some (.lst (as.map V.ref)) := by rw [upd_ne noq]; exact r4
        have sub8 : kept.Sublist us := r8.trans (List.take_sublist _ _)
        have tR : RowsL (upd H4 tq (.frz ob (.tup (kept.map V.str)))) (as ++ [tq]) (rows ++ [kept]) := rowsL_snoc (rowsL_same (same_new htq) r5) upd_same tob
        refine ⟨o, _, _, rfl, rfl, v4, ?_, ?_⟩
        · rw [List.length_map, las]
          exact small1000 (by omega)
        · refine ⟨_, _, rfl, same_at (r1.trans (same_new htq)) Go, by first | (rw [upd_ne nWo, upd_ne nWq]; exact r3) | (rw [ew, upd_ne nWo, upd_ne nWq]; exact r3), (src_at (src_new r6 htq) nop.symm).mono (by simp; omega), as ++ [tq], rows ++ [kept], ?_, ?_, by simp [lr], fun row hrow => ?_⟩
          · rw [upd_same]
            simp
          · refine ⟨tR.1, fun k a row e1 e2 => ?_⟩
            obtain ⟨ob2, e3, e4⟩ := tR.2 k a row e1 e2
            have nao : a ≠ o := fun z => by
              rw [z, v4] at e3
              cases e3
            exact ⟨ob2, by rw [upd_ne nao]; exact e3, e4⟩
          · rcases List.mem_append.mp hrow with hrow | hrow
            · exact hg row hrow
            · rw [List.mem_singleton.mp hrow]
              exact ⟨good_sub gus sub8, eus ▸ sub8⟩
    · rintro σ H2 ⟨v6, v7, rfl, s2, eW, S2', as, rows, eo, hR, lr, hg⟩
      rw [Int.toNat_natCast] at lr S2'
      have lws : ws.length ≤ t := by
        have := congrArg List.length ews
        rw [List.length_map] at this
        rw [← this]
        exact cut_len (ys.map V.str) t
      exact ⟨_, rfl, q H2 o as rows ws s2 Go nop eo hR lr (fun r hr => (hg r hr).1) gws.1 (fun z hz => pm.subset (sub.subset hz)) lws (fun r hr => (hg r hr).2) S2'⟩
end
end K07

set_option Elab.async false
set_option linter.all false
set_option maxRecDepth 100000
set_option maxHeartbeats 4000000
namespace K07
open PySem Nb
open L2 hiding del del_ne del_same
def RowsR (H : Hp) (as : List Addr) (rows : List (List Str)) : Prop := as.length = rows.length ∧ ∀ (k : Nat) (a : Addr) (row : List Str), as[k]? = some a → rows[k]? = some row → Rd H a (.tup (row.map V.str))
theorem rowsR_same {H H' : Hp} {as : List Addr} {rows : List (List Str)} (s : Same H H') (h : RowsR H as rows) : RowsR H' as rows := ⟨h.1, fun k a row e1 e2 => rd_same s (h.2 k a row e1 e2)⟩
theorem rowsR_of {H : Hp} {as : List Addr} {rows : List (List Str)} (h : RowsL H as rows) : RowsR H as rows := ⟨h.1, fun k a row e1 e2 => let ⟨o, e, _⟩ := h.2 k a row e1 e2; .inr ⟨o, e⟩⟩
theorem rr_nil {H : Hp} : RowsR H [] [] := ⟨rfl, fun k a row e => nomatch e⟩
theorem rr_cons {H : Hp} {a : Addr} {as : List Addr} {r : List Str} {rows : List (List Str)} (e : Rd H a (.tup (r.map V.str))) (h : RowsR H as rows) : RowsR H (a :: as) (r :: rows) :=
  ⟨by rw [List.length_cons, List.length_cons, h.1], fun k b s e1 e2 => match k, e1, e2 with
    | 0, e1, e2 => by cases e1; cases e2; exact e
    | k + 1, e1, e2 => h.2 k b s e1 e2⟩
theorem rr_app {H : Hp} : ∀ {as : List Addr} {rows : List (List Str)} {a : Addr} {r : List Str}, RowsR H as rows → Rd H a (.tup (r.map V.str)) → RowsR H (as ++ [a]) (rows ++ [r])
  | [], [], _, _, _, e => rr_cons e rr_nil
  | [], _ :: _, _, _, h, _ => nomatch h.1
  | _ :: _, [], _, _, h, _ => nomatch h.1
  | b :: as, s :: rows, _, _, h, e => rr_cons (h.2 0 b s rfl rfl) (rr_app ⟨by have := h.1; simpa using this, fun k c t e1 e2 => h.2 (k + 1) c t e1 e2⟩ e)
/-- the rows of a comprehension -/
theorem rr_f2 {H : Hp} : ∀ {ys : List V} {rows : List (List Str)}, F2 (fun v (r : List Str) => ∃ a, v = .ref a ∧ Rd H a (.tup (r.map V.str))) ys rows → ∃ as : List Addr, ys = as.map V.ref ∧ RowsR H as rows
  | _, _, .nil => ⟨[], rfl, rr_nil⟩
  | _, _, .cons ⟨a, e, k⟩ t => by
    obtain ⟨as, e2, h⟩ := rr_f2 t
    exact ⟨a :: as, by rw [e, e2]; rfl, rr_cons k h⟩
theorem f2_made {P : Nat → List Str} {R : V → List Str → Prop} : ∀ {is : List Nat} {ys : List V}, F2 (fun i y => R y (P i)) is ys → F2 R ys (is.map P)
  | _, _, .nil => .nil
  | _, _, .cons a b => .cons a (f2_made b)
theorem ne_nil {K : PySem.W.Frag} {H : Hp} {l b : Addr} {ds : List PyData} {n : Nat} {Q : VK} (hd : Dp K H (.ref l) (.list ds)) (hf : Fine n (.list ds)) (ln : n ≤ 64) (eb : H b = some (.lst [])) (q : Q (.bl (!ds.isEmpty)) H) : rNeD K (.ref l) (.ref b) H Q :=
  ⟨.list ds, .list [], hd, .lst (SqL.of eb) .nil, hf.shaped ln, by decide, by rw [eqv_nil]; exact q⟩
theorem dps_rows {K : PySem.W.Frag} {H : Hp} : ∀ {as : List Addr} {rows : List (List Str)}, RowsR H as rows → DpAll K H (as.map V.ref) (rows.map fun r => PyData.tuple (r.map PyData.str))
  | [], [], _ => .nil
  | [], _ :: _, h => nomatch h.1
  | _ :: _, [], h => nomatch h.1
  | a :: as, r :: rows, h => .cons (.tup (.inl (h.2 0 a r rfl rfl)) (dps_strs r)) (dps_rows ⟨by have := h.1; simpa using this, fun k b s e1 e2 => h.2 (k + 1) b s e1 e2⟩)
theorem fine_rows {rows : List (List Str)} (hg : ∀ r ∈ rows, GoodRow r) : Fine 2 (.list (rows.map fun r => PyData.tuple (r.map PyData.str))) := fine_list fun d hd => by
  obtain ⟨r, hr, rfl⟩ := List.mem_map.mp hd
  exact fine_row (good_words (hg r hr))
theorem star_merged {H : Hp} {as : List Addr} {rows : List (List Str)} {Q : VK} {E : XK} (hR : RowsR H as rows) (hg : ∀ r ∈ rows, GoodRow r) (few : rows.length ≤ 100) (full : Full rows)
    (q : ∀ H' r o, Same H H' → H' r = some (.frz o (.tup ((Mg.drawn rows).map V.str))) → TupObj o → Q (.ref r) H') : spStar spMerged (as.map V.ref) H Q E :=
  ⟨by rw [List.length_map, hR.1]; omega, fun p np => ⟨p, rows, rfl, ⟨as, upd_same, hR.1, fun k a row e1 e2 => rd_same (same_new np) (hR.2 k a row e1 e2)⟩, hg, few, full, fun H' r o s e t => q H' r o ((same_new np).trans s) e t⟩⟩
theorem nil0 {rows : List (List Str)} (h : ([] : List Addr).length = rows.length) : (rows.map fun r => PyData.tuple (r.map PyData.str)) = [] := by
  cases rows with
  | nil => rfl
  | cons r rs => cases h
theorem cons0 {a : Addr} {as : List Addr} {rows : List (List Str)} (h : (a :: as).length = rows.length) : ∃ d ds, (rows.map fun r => PyData.tuple (r.map PyData.str)) = d :: ds := by
  cases rows with
  | nil => cases h
  | cons r rs => exact ⟨_, _, rfl⟩
theorem iteB {b : Bool} {A B : Prop} (e : b = true) (h : A) : if b = true then A else B := by rw [if_pos e]; exact h
theorem iteN {b : Bool} {A B : Prop} (e : b = false) (h : B) : if b = true then A else B := by rw [e]; exact iteF h
def spBy : Sp := fun vs H Q _ => ∃ (l : Addr) (as : List Addr) (rows : List (List Str)), vs = [.ref l] ∧ H l = some (.lst (as.map V.ref)) ∧ RowsR H as rows ∧ (∀ row ∈ rows, GoodRow row) ∧ rows.length ≤ 5 ∧ Full rows ∧
  ∀ H' r o, Same H H' → H' r = some (.frz o (.tup ((Mg.drawn rows).map V.str))) → TupObj o → Q (.ref r) H'
section
variable {P : Program} {w : World} {K : PySem.W.Frag} {mg : Str → Option Value} {base : Heap}
abbrev s_h_merged_by : Stmt := topS 23
theorem sc_h_merged_by : FnScope ["_law_rows"] ["_law_rows"] (defScope s_h_merged_by) := ⟨rfl, rfl, rfl, by decide +kernel, rfl, by decide +kernel, by decide +kernel⟩
theorem ok_h_merged_by {f : Addr} {fd : FuncData} (F : Fun K "_law_merged_by" "_law_merged_by" s_h_merged_by f fd) (T : Txt mg) (D_merged : Dr P w K mg base CX0 5 "merged" (spStar (spMerged))) : FnOk P w K mg base CX0 6 f fd ["_law_rows"] (spBy) := by
  refine F.ok sc_h_merged_by (fun vs H Q E h => ?_) (fun cdv A outer s H vs Q E hr h => ?_)
  · obtain ⟨l, as, rows, rfl, _⟩ := h
    rfl
  · obtain ⟨l, as, rows, rfl, hl, hR, hg, h5, full, q⟩ := h
    refine ⟨_, pss_cons (ps_if (pt_cmpR op_lt (pe_callB call_len_seq (by rfl) T.len PySem.boot_len (pa_cons (pv 0) pa_nil)) pe_int (nomark _)) (pss_one (ps_ret (pe_ifExp (pt_cmpR (op_neD hr.units) (pv 0) (pe_lstS pa_nil) (nomark _)) (pe_R D_merged (hr.mono (by decide)) (by rfl) pass0 (pa_cons (pe_ix ix_list (pv 0) pe_int (fun _ _ => rfl)) pa_nil)) (pe_R0 D_merged (hr.mono (by decide)) (by rfl) pass0)))) pss_nil)
        (pss_cons (ps_if (pt_cmpR op_eq (pe_callB call_len_seq (by rfl) T.len PySem.boot_len (pa_cons (pv 0) pa_nil)) pe_int (nomark _)) (pss_one (ps_ret (pe_R D_merged (hr.mono (by decide)) (by rfl) pass0 (pa_cons (pe_ix ix_list (pv 0) pe_int (fun _ _ => rfl)) (pa_cons (pe_ix ix_list (pv 0) pe_int (fun _ _ => rfl)) pa_nil))))) pss_nil)
        (pss_cons (ps_if (pt_cmpR op_eq (pe_callB call_len_seq (by rfl) T.len PySem.boot_len (pa_cons (pv 0) pa_nil)) pe_int (nomark _)) (pss_one (ps_ret (pe_R D_merged (hr.mono (by decide)) (by rfl) pass0 (pa_cons (pe_ix ix_list (pv 0) pe_int (fun _ _ => rfl)) (pa_cons (pe_ix ix_list (pv 0) pe_int (fun _ _ => rfl)) (pa_cons (pe_ix ix_list (pv 0) pe_int (fun _ _ => rfl)) pa_nil)))))) pss_nil)
        (pss_cons (ps_if (pt_cmpR op_eq (pe_callB call_len_seq (by rfl) T.len PySem.boot_len (pa_cons (pv 0) pa_nil)) pe_int (nomark _)) (pss_one (ps_ret (pe_R D_merged (hr.mono (by decide)) (by rfl) pass0 (pa_cons (pe_ix ix_list (pv 0) pe_int (fun _ _ => rfl)) (pa_cons (pe_ix ix_list (pv 0) pe_int (fun _ _ => rfl)) (pa_cons (pe_ix ix_list (pv 0) pe_int (fun _ _ => rfl)) (pa_cons (pe_ix ix_list (pv 0) pe_int (fun _ _ => rfl)) pa_nil))))))) pss_nil)
        (pss_one (ps_ret (pe_R D_merged (hr.mono (by decide)) (by rfl) pass0 (pa_cons (pe_ix ix_list (pv 0) pe_int (fun _ _ => rfl)) (pa_cons (pe_ix ix_list (pv 0) pe_int (fun _ _ => rfl)) (pa_cons (pe_ix ix_list (pv 0) pe_int (fun _ _ => rfl)) (pa_cons (pe_ix ix_list (pv 0) pe_int (fun _ _ => rfl)) (pa_cons (pe_ix ix_list (pv 0) pe_int (fun _ _ => rfl)) pa_nil))))))))))), ?_⟩
    have h1 := hR.1
    rcases as with _ | ⟨a0, _ | ⟨a1, _ | ⟨a2, _ | ⟨a3, _ | ⟨a4, _ | ⟨a5, as⟩⟩⟩⟩⟩⟩
    · refine ⟨_, rfl, l, _, rfl, .inl (SqL.of hl), _, _, rfl, rfl, _, rfl, iteT ?_⟩
      exact ⟨_, rfl, by decide, fun H2 e s2 n2 e2 => ne_nil (.lst (SqL.of (s2 _ _ hl)) (dps_rows (rowsR_same s2 hR))) (fine_rows hg) (by decide) e2 ⟨_, rfl, by rw [nil0 hR.1]; exact iteF (star_merged (as := []) (rowsR_same s2 hR) hg (by omega) full fun H3 r o s3 => q H3 r o (s2.trans s3))⟩⟩
    · refine ⟨_, rfl, l, _, rfl, .inl (SqL.of hl), _, _, rfl, rfl, _, rfl, iteT ?_⟩
      refine ⟨_, rfl, by decide, fun H2 e s2 n2 e2 => ne_nil (.lst (SqL.of (s2 _ _ hl)) (dps_rows (rowsR_same s2 hR))) (fine_rows hg) (by decide) e2 ⟨_, rfl, ?_⟩⟩
      obtain ⟨r0, rs, er⟩ := cons0 hR.1
      rw [er]
      exact iteT ⟨_, rfl, l, _, _, _, rfl, rfl, SqL.of (s2 _ _ hl), atI_nat (j := 0) rfl, star_merged (as := [a0]) (rowsR_same s2 hR) hg (by omega) full fun H3 r o s3 => q H3 r o (s2.trans s3)⟩
    · refine ⟨_, rfl, l, _, rfl, .inl (SqL.of hl), _, _, rfl, rfl, _, rfl, iteF ?_⟩
      refine ⟨_, rfl, l, _, rfl, .inl (SqL.of hl), rfl, _, rfl, ?_⟩
      refine iteB (b := decide (V.int ((2 : Nat) : Int) = V.int 2)) (decide_eq_true rfl) ?_
      exact ⟨_, rfl, l, _, _, _, rfl, rfl, SqL.of hl, atI_nat (j := 0) rfl, _, rfl, l, _, _, _, rfl, rfl, SqL.of hl, atI_nat (j := 1) rfl, star_merged (as := [a0, a1]) hR hg (by omega) full q⟩
    · refine ⟨_, rfl, l, _, rfl, .inl (SqL.of hl), _, _, rfl, rfl, _, rfl, iteF ?_⟩
      refine ⟨_, rfl, l, _, rfl, .inl (SqL.of hl), rfl, _, rfl, ?_⟩
      refine iteN (b := decide (V.int ((3 : Nat) : Int) = V.int 2)) (decide_eq_false (by decide)) ?_
      refine ⟨_, rfl, l, _, rfl, .inl (SqL.of hl), rfl, _, rfl, ?_⟩
      refine iteB (b := decide (V.int ((3 : Nat) : Int) = V.int 3)) (decide_eq_true rfl) ?_
      exact ⟨_, rfl, l, _, _, _, rfl, rfl, SqL.of hl, atI_nat (j := 0) rfl, _, rfl, l, _, _, _, rfl, rfl, SqL.of hl, atI_nat (j := 1) rfl, _, rfl, l, _, _, _, rfl, rfl, SqL.of hl, atI_nat (j := 2) rfl, star_merged (as := [a0, a1, a2]) hR hg (by omega) full q⟩
    · refine ⟨_, rfl, l, _, rfl, .inl (SqL.of hl), _, _, rfl, rfl, _, rfl, iteF ?_⟩
      refine ⟨_, rfl, l, _, rfl, .inl (SqL.of hl), rfl, _, rfl, ?_⟩
      refine iteN (b := decide (V.int ((4 : Nat) : Int) = V.int 2)) (decide_eq_false (by decide)) ?_
      refine ⟨_, rfl, l, _, rfl, .inl (SqL.of hl), rfl, _, rfl, ?_⟩
      refine iteN (b := decide (V.int ((4 : Nat) : Int) = V.int 3)) (decide_eq_false (by decide)) ?_
      refine ⟨_, rfl, l, _, rfl, .inl (SqL.of hl), rfl, _, rfl, ?_⟩
      refine iteB (b := decide (V.int ((4 : Nat) : Int) = V.int 4)) (decide_eq_true rfl) ?_
      exact ⟨_, rfl, l, _, _, _, rfl, rfl, SqL.of hl, atI_nat (j := 0) rfl, _, rfl, l, _, _, _, rfl, rfl, SqL.of hl, atI_nat (j := 1) rfl, _, rfl, l, _, _, _, rfl, rfl, SqL.of hl, atI_nat (j := 2) rfl, _, rfl, l, _, _, _, rfl, rfl, SqL.of hl, atI_nat (j := 3) rfl, star_merged (as := [a0, a1, a2, a3]) hR hg (by omega) full q⟩
    · refine ⟨_, rfl, l, _, rfl, .inl (SqL.of hl), _, _, rfl, rfl, _, rfl, iteF ?_⟩
      refine ⟨_, rfl, l, _, rfl, .inl (SqL.of hl), rfl, _, rfl, ?_⟩
      refine iteN (b := decide (V.int ((5 : Nat) : Int) = V.int 2)) (decide_eq_false (by decide)) ?_
      refine ⟨_, rfl, l, _, rfl, .inl (SqL.of hl), rfl, _, rfl, ?_⟩
      refine iteN (b := decide (V.int ((5 : Nat) : Int) = V.int 3)) (decide_eq_false (by decide)) ?_
      refine ⟨_, rfl, l, _, rfl, .inl (SqL.of hl), rfl, _, rfl, ?_⟩
      refine iteN (b := decide (V.int ((5 : Nat) : Int) = V.int 4)) (decide_eq_false (by decide)) ?_
      exact ⟨_, rfl, l, _, _, _, rfl, rfl, SqL.of hl, atI_nat (j := 0) rfl, _, rfl, l, _, _, _, rfl, rfl, SqL.of hl, atI_nat (j := 1) rfl, _, rfl, l, _, _, _, rfl, rfl, SqL.of hl, atI_nat (j := 2) rfl, _, rfl, l, _, _, _, rfl, rfl, SqL.of hl, atI_nat (j := 3) rfl, _, rfl, l, _, _, _, rfl, rfl, SqL.of hl, atI_nat (j := 4) rfl, star_merged (as := [a0, a1, a2, a3, a4]) hR hg (by omega) full q⟩
    · simp only [List.length_cons] at h1
      omega
end
end K07

set_option Elab.async false
set_option linter.all false
set_option maxRecDepth 100000
set_option maxHeartbeats 4000000
namespace K07
open PySem Nb
open L2 hiding del del_ne del_same
def anew (z : Str) : Str := z ++ "x"
def spNamed : Sp := fun vs H Q _ => ∃ (a : Addr) (r : List Str), vs = [.ref a] ∧ Rd H a (.tup (r.map V.str)) ∧ r.length ≤ 100 ∧ (∀ z ∈ r, z.length < 8) ∧ ∀ H' l o, Same H H' → H l = none → H' l = some (.frz o (.tup ((r.map anew).map V.str))) → Q (.ref l) H'
section
variable {P : Program} {w : World} {K : PySem.W.Frag} {mg : Str → Option Value} {base : Heap}
abbrev s_h_named_anew : Stmt := topS 24
theorem sc_h_named_anew : FnScope ["_law_row", "_law_item"] ["_law_row"] (defScope s_h_named_anew) := ⟨rfl, rfl, rfl, by decide +kernel, rfl, by decide +kernel, by decide +kernel⟩
def sx_h_named_anew_0 : Scope := { kind := .function, names := [(".0", .local), ("_law_item", .local), ("len", .globalImplicit)], isGenerator := false, isCoroutine := false, more := [] }
theorem ok_h_named_anew {f : Addr} {fd : FuncData} (F : Fun K "_law_named_anew" "_law_named_anew" s_h_named_anew f fd) (T : Txt mg) : FnOk P w K mg base CX0 1 f fd ["_law_row"] (spNamed) := by
  refine F.ok sc_h_named_anew (fun vs H Q E h => ?_) (fun cdv A outer s H vs Q E hr h => ?_)
  · obtain ⟨a, r, rfl, _⟩ := h
    rfl
  · obtain ⟨a, r, rfl, ha, few, short, q⟩ := h
    refine ⟨_, pss_one (ps_ret (pe_callTy cr_tupleFS (by rfl) T.tuple (by decide +kernel) (pa_cons (pe_lc (own := [("_law_item", 1)]) (g := gName 1) (tt := tYes) rfl sc_h_named_anew.nd (pi_tup (pv 0)) (blkOk_by (N := ["_law_row", "_law_item"]) (sc := (defScope s_h_named_anew)) (by decide +kernel)) (fun _ _ _ _ _ => (pg_name (i := 1) sc_h_named_anew.nd rfl (Or.inl rfl))) (fun _ _ _ _ _ => pts_nil) (fun _ _ _ _ _ => (pe_ifExp (pt_cmpR op_lt (pe_callB call_len_str (by rfl) T.len PySem.boot_len (pa_cons (pv 1) pa_nil)) pe_int (nomark _)) (pe_op op_add_str (pv 1) pe_str) pe_str))) pa_nil))), ?_⟩
    refine ⟨_, rfl, a, rfl, ⟨_, .inl ha⟩, fun D hD => ?_⟩
    refine lcM (walk_tup (xs := r.map V.str)) (fun i => .str (anew (r.getD i ""))) (by rw [List.length_map]; omega) hD (fun H1 s1 => .inl (rd_same s1 ha)) ?_ ?_
    · rintro i x H1 H2 Nx hi s1 ⟨rfl, ex⟩ k
      rw [List.getElem?_map] at ex
      obtain ⟨z, ez, rfl⟩ : ∃ z, r[i]? = some z ∧ x = .str z := by
        cases e : r[i]? with
        | none => rw [e] at ex; cases ex
        | some a => rw [e] at ex; exact ⟨a, rfl, (Option.some.inj ex).symm⟩
      have eg : r.getD i "" = z := by
        rw [List.getD_eq_getElem?_getD, ez]
        rfl
      rw [eg] at k
      have lz := short z (List.mem_of_getElem? ez)
      refine ⟨rfl, _, rfl, z, rfl, Nat.le_of_lt (small1000 (by omega)), _, _, rfl, rfl, _, rfl, ?_⟩
      have e8 : decide (((z.length : Nat) : Int) < 8) = true := decide_eq_true (by omega)
      rw [e8]
      exact iteT ⟨_, rfl, z, "x", rfl, rfl, Nat.le_of_lt (small1000 (by show z.length + 1 ≤ 1000; omega)), k _ (Same.refl _)⟩
    rintro H1 s1 e1
    rw [List.length_map] at e1
    have e2 : (List.range r.length).map (fun i => V.str (anew (r.getD i ""))) = (r.map anew).map V.str := by
      have := congrArg (List.map fun z => V.str (anew z)) (range_getD ("" : Str) r)
      rw [List.map_map] at this
      rw [List.map_map]
      exact this
    rw [e2] at e1
    refine ⟨D, _, rfl, SqL.of e1, fun H2 l o s2 n2 e2 _ => q H2 l o (s1.trans s2) ?_ e2⟩
    exact s1.free n2
end
end K07

set_option Elab.async false
set_option linter.all false
set_option maxRecDepth 100000
set_option maxHeartbeats 4000000
namespace K07
open PySem Nb
open L2 hiding del del_ne del_same
section
variable {J : It} {n : Nat} {G : Hp → Prop} {Y : Nat → Hp → V → Hp → Prop} {g : TG} {tt : TT} {te : TE} {vs : List Nat} {σ : L2.St} {H1 : Hp} {D : Addr} {Qd : Hp → Prop}
/-- the items are told by R, under which nothing that is told is lost -/
theorem lcRl (w : Walk J n G Y) (p : Nat → Bool) (R : Nat → V → Hp → Prop) (hR : ∀ i y H H', Same H H' → R i y H → R i y H') (hn : n ≤ 100000) (hD : H1 D = none) (hG : ∀ H, Same H1 H → G H)
    (hs : ∀ i x H H' (Nx : VK) (Nf : Hp → Prop), i < n → Same H1 H → (∃ ys, H D = some (.lst ys)) → Y i H x H' → (p i = true → ∀ y H4, Same H H4 → R i y (del H4 D) → Nx y H4) → (p i = false → ∀ H3, Same H H3 → Nf H3) →
      g x (wipe σ vs) H' fun σ2 H2 => wipe σ2 vs = wipe σ vs ∧ tt σ2 H2 fun b H3 => if b = true then te σ2 H3 Nx else Nf H3)
    (hd : ∀ H ys, Same H1 H → H D = some (.lst ys) → F2 (fun i y => R i y H) ((List.range n).filter p) ys → Qd H) : LcGoal J g tt te vs σ H1 D Qd := by
  refine lc_it w (fun i H => ∃ ys, Same H1 H ∧ H D = some (.lst ys) ∧ F2 (fun j y => R j y (del H D)) ((List.range i).filter p) ys)
    ⟨[], same_new hD, upd_same, .nil⟩ (fun i H _ ⟨_, s, _⟩ => hG H s) (fun i x H H' hi ⟨ys, s, e, f⟩ y => ?_) (fun H ⟨ys, s, e, f⟩ => hd H ys s e (f2_imp (fun a b k => hR _ _ _ _ del_same k) f))
  have hl : ys.length ≤ i := by
    rw [← f2_len f]
    exact Nat.le_trans (List.length_filter_le _ _) (by rw [List.length_range]; exact Nat.le_refl _)
  have up : ∀ {H4 : Hp}, Same H H4 → Same (del H D) (del H4 D) := fun s4 => same_del (del_same.trans s4) del_at
  have un : ∀ {H4 : Hp} {o : HO}, del (upd H4 D o) D = del H4 D := fun {H4 o} => by
    funext b
    by_cases h : b = D
    · rw [h, del_at, del_at]
    · rw [del_ne h, del_ne h, upd_ne h]
  refine hs i x H H' _ _ hi s ⟨ys, e⟩ y (fun hp v H4 s4 r => ⟨ys, s4 _ _ e, ?_, ys ++ [v], same_at (s.trans s4) hD, upd_same, ?_⟩) (fun hp H3 s3 => ⟨ys, s.trans s3, s3 _ _ e, ?_⟩)
  · exact Nat.lt_of_le_of_lt hl (Nat.lt_of_lt_of_le hi (line100 hn))
  · rw [List.range_succ, List.filter_append, un]
    have e1 : [i].filter p = [i] := by simp [hp]
    rw [e1]
    exact f2_snoc (f2_imp (fun a b k => hR _ _ _ _ (up s4) k) f) r
  · rw [List.range_succ, List.filter_append]
    have e1 : [i].filter p = [] := by simp [hp]
    rw [e1, List.append_nil]
    exact f2_imp (fun a b k => hR _ _ _ _ (up s3) k) f
end
theorem turns (L : Int) : 1 ≤ (if (if L < 6 then L else 6) > 1 then (if L < 6 then L else 6) else 1) ∧ (if (if L < 6 then L else 6) > 1 then (if L < 6 then L else 6) else 1) ≤ 6 := by
  split <;> split at * <;> omega
theorem turns_lt {i : Nat} {L : Int} (h : i < (if (if L < 6 then L else 6) > 1 then (if L < 6 then L else 6) else 1).toNat) : i < 6 := by
  have := (turns L).2
  omega

theorem yesT {te : TE} {σ : L2.St} {H : Hp} {Nx : VK} {Nf : Hp → Prop} (h : te σ H Nx) : tYes σ H (fun b H3 => if b = true then te σ H3 Nx else Nf H3) := by
  show if true = true then te σ H Nx else Nf H
  exact iteT h
/-- tuple + tuple, whatever objects they are -/
def rCatR : R2 := fun x y H Q => ∃ a b xs ys, x = .ref a ∧ y = .ref b ∧ Rd H a (.tup xs) ∧ Rd H b (.tup ys) ∧ xs.length + ys.length ≤ 100000 ∧ ∀ H2 p, Same H H2 → Rd H2 p (.tup (xs ++ ys)) → Q (.ref p) H2
theorem op_catR {X : Cx} : OpR X (binaryOp .Add) rCatR := OpR.to op_catA fun x y H Q ⟨a, b, xs, ys, e1, e2, h1, h2, z, q⟩ => ⟨a, b, xs, ys, e1, e2, .inl h1, .inl h2, line100 z,
  fun e => q _ b (Same.refl H) (by rw [e]; exact h2), fun _ e => q _ a (Same.refl H) (by rw [e, List.append_nil]; exact h1), fun _ _ p np => q _ p (same_new np) (.inl upd_same)⟩
theorem full_cov {rows : List (List Str)} (c : Mg.Cov rows) : Full rows :=
  Nat.le_antisymm (nodup_sub (Mg.drawn_nodup rows) fun x hx => mem_names.mpr (Mg.drawn_in rows x hx)) (nodup_sub (nodup_seen _) fun x hx => c x (mem_names.mp hx))
theorem full_sub {W : List Str} {rows : List (List Str)} (nd : W.Nodup) (h : ∀ r ∈ rows, r.Sublist W) : Full rows := full_cov (Mg.cov_sub nd rows h)
/-- two tuples of the same names are not different -/
theorem ne_same {K : PySem.W.Frag} {H : Hp} {a b : Addr} {zs : List Str} {Q : VK} (ha : Rd H a (.tup (zs.map V.str))) (hb : Rd H b (.tup (zs.map V.str))) (hw : ∀ z ∈ zs, Word z) (q : Q (.bl false) H) : rNeD K (.ref a) (.ref b) H Q :=
  ⟨.tuple (zs.map PyData.str), .tuple (zs.map PyData.str), .tup (.inl ha) (dps_strs zs), .tup (.inl hb) (dps_strs zs), (fine_row hw).shaped (by decide), (fine_row hw).shaped (by decide), by
    rw [PySem.SeqAt.eqv_refl _ (fine_row hw).1]
    exact q⟩
theorem goodE {r : List Str} (nd : r.Nodup) (h : ∀ z ∈ r, z ∈ eight) (l : r.length ≤ 8) : GoodRow r := ⟨nd, fun z hz => good_eight.2.1 z (h z hz), l⟩
def more : List Str := eight ++ eight.map anew ++ ([("top" : Str), "end"] : List Str)
theorem good_more : ∀ z ∈ more, isNm z = true ∧ Word z := fun z hz => by
  have h1 : more.all (fun z => isNm z && (decide (z.length ≤ 1000) && PyData.strOk z)) = true := by decide +kernel
  have h2 := List.all_eq_true.mp h1 z hz
  rw [Bool.and_eq_true, Bool.and_eq_true, decide_eq_true_eq] at h2
  exact h2
theorem goodM {r : List Str} (nd : r.Nodup) (h : ∀ z ∈ r, z ∈ more) (l : r.length ≤ 8) : GoodRow r := ⟨nd, fun z hz => good_more z (h z hz), l⟩
theorem m8 {z : Str} (h : z ∈ eight) : z ∈ more := List.mem_append_left _ (List.mem_append_left _ h)
theorem mAnew {z : Str} (h : z ∈ eight) : anew z ∈ more := List.mem_append_left _ (List.mem_append_right _ (List.mem_map.mpr ⟨z, h, rfl⟩))
theorem short8 {z : Str} (h : z ∈ eight) : z.length < 8 := by
  have h1 : eight.all (fun z => decide (z.length < 8)) = true := by decide +kernel
  exact of_decide_eq_true (List.all_eq_true.mp h1 z h)
theorem no_top {z : Str} (h : z ∈ eight) : z ≠ "top" ∧ z ≠ "end" := by
  have h1 : eight.all (fun z => decide (z ≠ "top") && decide (z ≠ "end")) = true := by decide +kernel
  have h2 := List.all_eq_true.mp h1 z h
  rw [Bool.and_eq_true, decide_eq_true_eq, decide_eq_true_eq] at h2
  exact h2
theorem anew_inj : ∀ a b : Str, anew a = anew b → a = b := by
  intro a b h
  have h1 : (a.cps ++ ("x" : Str).cps) = (b.cps ++ ("x" : Str).cps) := congrArg Str.cps h
  have h2 : a.cps = b.cps := (Array.append_left_inj _).mp h1
  cases a
  cases b
  exact congrArg Str.mk h2

/-- a tuple beside the list under way -/
theorem rd_del {H : Hp} {D p : Addr} {ys xs : List V} (hD : H D = some (.lst ys)) (h : Rd H p (.tup xs)) : Rd (Nb.del H D) p (.tup xs) := by
  have n : p ≠ D := fun z => by
    rw [z] at h
    rcases h with h | ⟨o, h⟩ <;> rw [hD] at h <;> cases h
  rcases h with h | ⟨o, h⟩
  · exact .inl (by rw [Nb.del_ne n]; exact h)
  · exact .inr ⟨o, by rw [Nb.del_ne n]; exact h⟩
structure Kp (H : Hp) (f q l : Addr) (as : List Addr) (D S : List Str) (rows : List (List Str)) : Prop where
  f : Rd H f (.tup (D.map V.str))
  q : Rd H q (.tup (S.map V.str))
  l : H l = some (.lst (as.map V.ref))
  r : RowsR H as rows
theorem kp_same {H H' : Hp} {f q l : Addr} {as : List Addr} {D S : List Str} {rows : List (List Str)} (s : Same H H') (k : Kp H f q l as D S rows) : Kp H' f q l as D S rows := ⟨rd_same s k.f, rd_same s k.q, s _ _ k.l, rowsR_same s k.r⟩
section
variable {P : Program} {w : World} {K : PySem.W.Frag} {mg : Str → Option Value} {base : Heap}
abbrev s_law : Stmt := topS 25
theorem sc_law : FnScope ["_law_script", "_law_k", "_law_source_here", "_law_turn", "_law_rows", "_law_found", "_law_part", "_law_some", "_law_turn_here", "_law_at", "_law_item", "_law_row"] ["_law_script"] (defScope s_law) := ⟨rfl, rfl, rfl, by decide +kernel, rfl, by decide +kernel, by decide +kernel⟩
def sx_law_0 : Scope := { kind := .function, names := [(".0", .local), ("_law_turn_here", .local), ("_law_next", .globalImplicit), ("_law_source_here", .cell)], isGenerator := false, isCoroutine := false, more := [] }
def sx_law_1 : Scope := { kind := .function, names := [(".0", .local), ("_law_at", .local), ("_law_item", .local), ("_law_part", .cell)], isGenerator := false, isCoroutine := false, more := [] }
def sx_law_2 : Scope := { kind := .function, names := [(".0", .local), ("_law_row", .local), ("_law_named_anew", .globalImplicit)], isGenerator := false, isCoroutine := false, more := [] }
def sx_law_3 : Scope := { kind := .function, names := [(".0", .local), ("_law_row", .local)], isGenerator := false, isCoroutine := false, more := [] }
def sx_law_4 : Scope := { kind := .function, names := [(".0", .local), ("_law_row", .local)], isGenerator := false, isCoroutine := false, more := [] }
theorem len_law (vs : List V) (H : Hp) (Q : VK) (E : XK) (h : (spLaw0 K : Sp) vs H Q E) : vs.length = 1 := by
  obtain ⟨a, ns, rfl, _⟩ := h
  rfl
theorem ok_law {f : Addr} {fd : FuncData} (F : Fun K "law" "law" s_law f fd) (T : Txt mg) (D_h_source : Dn P w K mg base CX0 1 "_law_source" ["_law_script", "_law_k"] (spSource K)) (D_h_next : Dn P w K mg base CX0 1 "_law_next" ["_law_source_here", "_law_many"] (spNext)) (D_merged : Dr P w K mg base CX0 5 "merged" (spStar (spMerged))) (D_h_name_rows : Dn P w K mg base CX0 3 "_law_name_rows" ["_law_source_here", "_law_many", "_law_most", "_law_is_free"] (spRowsF)) (D_h_merged_by : Dn P w K mg base CX0 6 "_law_merged_by" ["_law_rows"] (spBy)) (D_h_named_anew : Dn P w K mg base CX0 1 "_law_named_anew" ["_law_row"] (spNamed)) : RunsG P w K mg base CX0 7 f fd ["_law_script"] (spLaw0 K) := by
  refine okG F sc_law (fun vs H Q E h => ?_) (fun cdv A outer s H vs Q E gd hr h => ?_)
  · obtain ⟨a, ns, rfl, _⟩ := h
    rfl
  · obtain ⟨a, ns, rfl, hS, hlen, q⟩ := h
    have hg : (A.deeper (PyProof.Rows.envOfC "law" (defScope s_law) s.heap.objs.size f cdv)).guards = some [] := gd
    refine ⟨_, pss_cons (ps_for PassesOwn.never rfl (pi_range1 (by rfl) T.range (pa_cons (pe_callB (call_max2 rfl) (by rfl) T.max (by decide +kernel) (pa_cons pe_int (pa_cons (pe_callB (call_min2 rfl) (by rfl) T.min (by decide +kernel) (pa_cons pe_int (pa_cons (pe_callB call_len_seq (by rfl) T.len PySem.boot_len (pa_cons (pv 0) pa_nil)) pa_nil))) pa_nil))) pa_nil)) (pg_name (i := 1) sc_law.nd rfl (Or.inl rfl)) (pss_cons (ps_set (i := 2) sc_law.nd rfl (Or.inr rfl) (pe_D D_h_source (hr.mono (by decide)) (by rfl) pass0 (pa_cons (pv 0) (pa_cons (pv 1) pa_nil))))
        (pss_one (ps_for PassesOwn.never rfl (pi_range1 (by rfl) T.range (pa_cons pe_int pa_nil)) (pg_name (i := 3) sc_law.nd rfl (Or.inl rfl)) (pss_cons (ps_set (i := 4) sc_law.nd rfl (Or.inl rfl) (pe_D D_h_name_rows (hr.mono (by decide)) (by rfl) pass0 (pa_cons (pv 2) (pa_cons (pe_op op_add pe_int (pe_D D_h_next (hr.mono (by decide)) (by rfl) pass0 (pa_cons (pv 2) (pa_cons pe_int pa_nil)))) (pa_cons (pe_op op_add pe_int (pe_D D_h_next (hr.mono (by decide)) (by rfl) pass0 (pa_cons (pv 2) (pa_cons pe_int pa_nil)))) (pa_cons pe_bl pa_nil))))))
        (pss_cons (ps_asg (pe_tupS (pa_cons (pe_D D_h_merged_by (hr.mono (by decide)) (by rfl) pass0 (pa_cons (pv 4) pa_nil)) (pa_cons (pe_lc (own := [("_law_turn_here", 8)]) (g := gName 8) (tt := tYes) rfl sc_law.nd (pi_range1 (by rfl) T.range (pa_cons pe_int pa_nil)) (blkOk_by (N := ["_law_script", "_law_k", "_law_source_here", "_law_turn", "_law_rows", "_law_found", "_law_part", "_law_some", "_law_turn_here", "_law_at", "_law_item", "_law_row"]) (sc := (defScope s_law)) (by decide +kernel)) (fun _ _ _ _ _ => (pg_name (i := 8) sc_law.nd rfl (Or.inl rfl))) (fun _ _ _ _ _ => pts_nil) (fun _ _ _ _ _ => (pe_D D_h_next (hr.mono (by decide)) (by rfl) pass0 (pa_cons (pv 2) (pa_cons pe_int pa_nil))))) pa_nil))) (pg_tup rfl (pgs_cons (pg_name (i := 5) sc_law.nd rfl (Or.inl rfl)) (pgs_cons (pg_name (i := 6) sc_law.nd rfl (Or.inr rfl)) pgs_nil))))
        (pss_cons (ps_set (i := 7) sc_law.nd rfl (Or.inl rfl) (pe_callTy cr_tupleFS (by rfl) T.tuple (by decide +kernel) (pa_cons (pe_lc (own := [("_law_at", 9), ("_law_item", 10)]) rfl sc_law.nd (pi_enumT (by rfl) T.enumerate (pa_cons (pv 5) pa_nil)) (blkOk_by (N := ["_law_script", "_law_k", "_law_source_here", "_law_turn", "_law_rows", "_law_found", "_law_part", "_law_some", "_law_turn_here", "_law_at", "_law_item", "_law_row"]) (sc := (defScope s_law)) (by decide +kernel)) (fun _ _ _ _ _ => (show PG _ _ (gTup K 2 (gCons (gName 9) (gCons (gName 10) gNil))) from pg_tup rfl (pgs_cons (pg_name (i := 9) sc_law.nd rfl (Or.inl rfl)) (pgs_cons (pg_name (i := 10) sc_law.nd rfl (Or.inl rfl)) pgs_nil)))) (fun _ _ _ _ _ => (pts_one (pt_cmpR op_eq (pe_ix (r := rIxL K) ix_list (pv 6) (pv 9) (fun _ _ => rfl)) pe_int (nomark _)))) (fun _ _ _ _ _ => (pv 10))) pa_nil)))
        (pss_cons (ps_if (PW.pt (pw_or (pt_cmpR (op_neD hr.units) (pe_R D_merged (hr.mono (by decide)) (by rfl) pass0 (pa_cons (pv 5) pa_nil)) (pv 5) (nomark _)) (pw_or (pt_cmpR (op_neD hr.units) (pe_R D_merged (hr.mono (by decide)) (by rfl) pass0 (pa_cons (pv 5) (pa_cons (pv 5) pa_nil))) (pv 5) (nomark _)) (pw_or1 (pt_cmpR (op_neD hr.units) (pe_D D_h_merged_by (hr.mono (by decide)) (by rfl) pass0 (pa_cons (pe_op op_catS (pe_lstS (pa_cons (pv 5) pa_nil)) (pv 4)) pa_nil)) (pv 5) (nomark _)))))) (pss_one (ps_ret pe_bl)) pss_nil)
        (pss_cons (ps_if (PW.pt (pw_or (pt_cmpR (op_neD hr.units) (pe_D D_h_merged_by (hr.mono (by decide)) (by rfl) pass0 (pa_cons (pe_op op_catS (pv 4) (pe_lstS (pa_cons (pv 7) pa_nil))) pa_nil)) (pv 5) (nomark _)) (pw_or1 (pt_cmpR (op_neD hr.units) (pe_R D_merged (hr.mono (by decide)) (by rfl) pass0 (pa_cons (pv 5) (pa_cons (pv 7) pa_nil))) (pv 5) (nomark _))))) (pss_one (ps_ret pe_bl)) pss_nil)
        (pss_cons (ps_if (pt_cmpR (op_neD hr.units) (pe_R D_merged (hr.mono (by decide)) (by rfl) pass0 (pa_cons (pe_ix ix_list (pv 4) pe_int (fun _ _ => rfl)) (pa_cons (pv 5) pa_nil))) (pv 5) (nomark _)) (pss_one (ps_ret pe_bl)) pss_nil)
        (pss_cons (ps_if (pt_cmpR (op_neD hr.units) (pe_D D_h_merged_by (hr.mono (by decide)) (by rfl) pass0 (pa_cons (pe_lc (own := [("_law_row", 11)]) (g := gName 11) (tt := tYes) rfl sc_law.nd (pi_list (pv 4)) (blkOk_by (N := ["_law_script", "_law_k", "_law_source_here", "_law_turn", "_law_rows", "_law_found", "_law_part", "_law_some", "_law_turn_here", "_law_at", "_law_item", "_law_row"]) (sc := (defScope s_law)) (by decide +kernel)) (fun _ _ _ _ _ => (pg_name (i := 11) sc_law.nd rfl (Or.inl rfl))) (fun _ _ _ _ _ => pts_nil) (fun _ _ _ _ _ => (pe_D D_h_named_anew (hr.mono (by decide)) (by rfl) pass0 (pa_cons (pv 11) pa_nil)))) pa_nil)) (pe_D D_h_named_anew (hr.mono (by decide)) (by rfl) pass0 (pa_cons (pv 5) pa_nil)) (nomark _)) (pss_one (ps_ret pe_bl)) pss_nil)
        (pss_cons (ps_if (pt_cmpR (op_neD hr.units) (pe_D D_h_merged_by (hr.mono (by decide)) (by rfl) pass0 (pa_cons (pe_lc (own := [("_law_row", 11)]) (g := gName 11) (tt := tYes) rfl sc_law.nd (pi_list (pv 4)) (blkOk_by (N := ["_law_script", "_law_k", "_law_source_here", "_law_turn", "_law_rows", "_law_found", "_law_part", "_law_some", "_law_turn_here", "_law_at", "_law_item", "_law_row"]) (sc := (defScope s_law)) (by decide +kernel)) (fun _ _ _ _ _ => (pg_name (i := 11) sc_law.nd rfl (Or.inl rfl))) (fun _ _ _ _ _ => pts_nil) (fun _ _ _ _ _ => (pe_op op_catR (pe_tupS (pa_cons pe_str pa_nil)) (pv 11)))) pa_nil)) (pe_op op_catR (pe_tupS (pa_cons pe_str pa_nil)) (pv 5)) (nomark _)) (pss_one (ps_ret pe_bl)) pss_nil)
        (pss_cons (ps_if (pt_cmpR (op_neD hr.units) (pe_D D_h_merged_by (hr.mono (by decide)) (by rfl) pass0 (pa_cons (pe_lc (own := [("_law_row", 11)]) (g := gName 11) (tt := tYes) rfl sc_law.nd (pi_list (pv 4)) (blkOk_by (N := ["_law_script", "_law_k", "_law_source_here", "_law_turn", "_law_rows", "_law_found", "_law_part", "_law_some", "_law_turn_here", "_law_at", "_law_item", "_law_row"]) (sc := (defScope s_law)) (by decide +kernel)) (fun _ _ _ _ _ => (pg_name (i := 11) sc_law.nd rfl (Or.inl rfl))) (fun _ _ _ _ _ => pts_nil) (fun _ _ _ _ _ => (pe_op op_catR (pv 11) (pe_tupS (pa_cons pe_str pa_nil))))) pa_nil)) (pe_op op_catR (pv 5) (pe_tupS (pa_cons pe_str pa_nil))) (nomark _)) (pss_one (ps_ret pe_bl)) pss_nil)
        (pss_one (ps_if (PW.pt (pw_or (pt_cmpR (op_neD hr.units) (pe_R D_merged (hr.mono (by decide)) (by rfl) pass0 (pa_cons (pv 5) (pa_cons (pe_tupS (pa_cons pe_str (pa_cons pe_str pa_nil))) pa_nil))) (pe_op op_catR (pv 5) (pe_tupS (pa_cons pe_str (pa_cons pe_str pa_nil)))) (nomark _)) (pw_or1 (pt_cmpR (op_neD hr.units) (pe_R D_merged (hr.mono (by decide)) (by rfl) pass0 (pa_cons (pe_tupS pa_nil) (pa_cons (pv 5) (pa_cons (pe_tupS pa_nil) pa_nil)))) (pv 5) (nomark _))))) (pss_one (ps_ret pe_bl)) pss_nil)))))))))))))))
        (pss_one (ps_ret pe_bl)), ?_⟩
    refine ⟨_, rfl, a, _, rfl, .inl hS, _, _, rfl, _, _, rfl, ?_⟩
    refine ⟨_, rfl, Int.le_trans (by decide) (turns _).1, Int.lt_of_le_of_lt (turns _).2 (by decide), for_range (lo := 0) (fun i σ H' => ∃ v1 v2 v3 v4 v5 v6 v7, σ = [some (.ref a), v1, v2, v3, v4, v5, v6, v7, none, none, none, none] ∧ Same H H') ⟨_, _, _, _, _, _, _, rfl, Same.refl H⟩ ?_ ?_⟩
    · rintro i σ H0 hi ⟨v1, v2, v3, v4, v5, v6, v7, rfl, s0⟩
      have hi6 : i < 6 := turns_lt hi
      refine ⟨_, rfl, _, rfl, a, ns, i, (by rw [Int.zero_add]; rfl), s0.seq hS, hlen, by omega, fun H1 p s1 np S1 => ?_⟩
      have hp : H p = none := s0.free np
      refine ⟨3, rfl, by decide, by decide, for_range (lo := 0) (n := 3) (fun t σ H' => ∃ v3 v4 v5 v6 v7, σ = [some (.ref a), some (.int (0 + (i : Nat))), some (.ref p), v3, v4, v5, v6, v7, none, none, none, none] ∧ Same H H' ∧ Src H' p (3 * i + 110 * t)) ⟨_, _, _, _, _, rfl, s0.trans s1, S1⟩ ?_ ?_⟩
      · rintro t σ H2 ht ⟨w3, w4, w5, w6, w7, rfl, s2, S2⟩
        refine ⟨_, rfl, _, rfl, p, 4, _, del H2 p, rfl, by decide, by decide, S2, by omega, del_at, del_same, fun H3 k k0 k4 s3 S3 => ?_⟩
        refine ⟨_, _, rfl, rfl, ?_⟩
        refine ⟨_, rfl, p, 7, _, del H3 p, rfl, by decide, by decide, S3, by omega, del_at, del_same, fun H4 m m0 m7 s4 S4 => ?_⟩
        refine ⟨_, _, rfl, rfl, ?_⟩
        obtain ⟨j, rfl⟩ : ∃ j : Nat, k = (j : Int) := ⟨_, (Int.toNat_of_nonneg k0).symm⟩
        obtain ⟨g, rfl⟩ : ∃ g : Nat, m = (g : Int) := ⟨_, (Int.toNat_of_nonneg m0).symm⟩
        have t4 : Same H H4 := (same_del ((same_del s2 hp).trans s3) hp).trans s4
        refine ⟨p, 1 + j, 1 + g, _, del H4 p, rfl, by omega, by omega, S4, by omega, del_at, del_same, fun H6 l as rows ws s6 fl nl el hL lr hg wnd w8 wl wsub S6 => ?_⟩
        have t6 : Same H H6 := (same_del t4 hp).trans s6
        have h4 : rows.length ≤ 4 := by omega
        have hR := rowsR_of hL
        obtain ⟨D, eD⟩ : ∃ D, D = Mg.drawn rows := ⟨_, rfl⟩
        have cov := Mg.cov_sub wnd rows wsub
        have nd : D.Nodup := eD ▸ Mg.drawn_nodup rows
        have ord : ∀ r ∈ rows, r.Sublist D := eD ▸ Mg.drawn_ord rows cov
        have sub : ∀ z ∈ D, z ∈ ws := fun z hz => by
          rw [eD] at hz
          obtain ⟨r, hr, h⟩ := List.mem_flatten.mp (Mg.drawn_in rows z hz)
          exact (wsub r hr).subset h
        have d8 : ∀ z ∈ D, z ∈ eight := fun z hz => w8 z (sub z hz)
        have ld : D.length ≤ 7 := Nat.le_trans (nodup_sub nd sub) (by omega)
        have wd : ∀ z ∈ D, Word z := fun z hz => good_words good_eight z (d8 z hz)
        have gD : GoodRow D := goodE nd d8 (by omega)
        -- found
        refine ⟨_, rfl, l, as, rows, rfl, el, hR, hg, by omega, full_cov cov, fun H7 f o7 s7 e7 u7 => ?_⟩
        rw [← eD] at e7
        have S7 := S6.same s7
        have t7 : Same H H7 := t6.trans s7
        have el7 := s7 _ _ el
        have nfp : f ≠ p := src_ne S7 e7 (fun xs z => by cases z)
        have L7 := rowsL_same s7 hL
        refine ⟨8, rfl, by decide, by decide, fun D1 hD1 => ?_⟩
        have nD1p : D1 ≠ p := src_fresh S7 hD1
        refine lc_range (lo := 0) (n := 8) (fun z Hx => Same (Nb.del H7 p) Hx ∧ Src Hx p (3 * i + 110 * t + 2 + 8 + 17 * 5 + z) ∧ ∃ bs : List Int, Hx D1 = some (.lst (bs.map V.int)) ∧ bs.length = z)
          ⟨del_same.trans (same_new hD1), (src_new S7 hD1).mono (by omega), [], upd_same, rfl⟩ (fun z Hx hz ⟨sx, Sx, bs, eb, lb⟩ => ?_) (fun Hx ⟨sx, Sx, bs, eb, lb⟩ => ?_)
        · refine ⟨rfl, _, rfl, p, 2, _, del Hx p, rfl, by decide, by decide, Sx, by omega, del_at, del_same, fun Hy c c0 c2 sy Sy => ?_⟩
          refine ⟨_, del_get sy nD1p eb, ?_, same_at ((same_del sx del_at).trans sy) (del_same.free hD1), src_at Sy nD1p.symm, bs ++ [c], ?_, ?_⟩
          · rw [List.length_map]
            exact small1000 (by omega)
          · rw [upd_same, List.map_append]
            rfl
          · rw [List.length_append, lb]
            rfl
        refine ⟨(by show 2 ≤ 100000; decide), fun H8 t0 s8 n8 e8 => ?_⟩
        refine ⟨t0, [.ref f, .ref D1], rfl, .inl (.inl e8), rfl, .ref f, [.ref D1], rfl, .ref D1, [], rfl, rfl, ?_⟩
        have k8 : Same (Nb.del H7 p) H8 := sx.trans s8
        have f8 : H8 f = some (.frz o7 (.tup (D.map V.str))) := del_get k8 nfp e7
        have l8 : H8 l = some (.lst (as.map V.ref)) := del_get k8 nl el7
        have R8 : RowsR H8 as rows := rowsR_of (rowsL_del S7 k8 L7)
        have eb8 := s8 _ _ eb
        have t8 : Same H H8 := ((same_del t7 hp).trans k8)
        have S8 := Sx.same s8
        refine ⟨_, rfl, f, _, rfl, .inl (.inr ⟨o7, f8⟩), fun D2 hD2 => ?_⟩
        refine lcS (walk_enumT (K := K) (a := f) (xs := D.map V.str)) (fun z => decide (bs[z]? = some 1)) (fun z => .str (D.getD z "")) (by rw [List.length_map]; omega) hD2 (fun Hx sx => .inl (.inr ⟨o7, sx _ _ f8⟩)) ?_ ?_
        · rintro z y Ha Hb Nx Nf hz sa ⟨t1, x1, x2, rfl, new, rfl, e1, e2⟩ k1 k2
          have ex1 : x1 = .int (z : Nat) := (Option.some.inj e1).symm
          subst ex1
          have e2 : (D.map V.str)[z]? = some x2 := e2
          rw [List.getElem?_map] at e2
          obtain ⟨d, ed, rfl⟩ : ∃ d, D[z]? = some d ∧ x2 = .str d := by
            cases e : D[z]? with
            | none => rw [e] at e2; cases e2
            | some a => rw [e] at e2; exact ⟨a, rfl, (Option.some.inj e2).symm⟩
          have eg : D.getD z "" = d := by
            rw [List.getD_eq_getElem?_getD, ed]
            rfl
          rw [eg] at k1
          have zl : z < bs.length := by
            have := (List.getElem?_eq_some_iff.mp ed).1
            omega
          obtain ⟨c, ec⟩ : ∃ c, bs[z]? = some c := ⟨_, List.getElem?_eq_getElem zl⟩
          have sn := same_new (o := HO.tup [.int (z : Nat), .str d]) new
          refine ⟨t1, [.int (z : Nat), .str d], rfl, .inl (.inl upd_same), rfl, .int (z : Nat), [.str d], rfl, .str d, [], rfl, rfl, ?_⟩
          refine ⟨rfl, _, rfl, _, rfl, D1, _, _, .int c, rfl, rfl, SqL.of (sn _ _ (sa _ _ eb8)), atI_nat (by rw [List.getElem?_map, ec]; rfl), rfl, _, rfl, ?_⟩
          by_cases c1 : c = 1
          · rw [c1, decide_eq_true (rfl : V.int 1 = V.int 1)]
            exact iteT ⟨_, rfl, k1 (by rw [ec, c1]; rfl) _ sn⟩
          · rw [decide_eq_false (show ¬ V.int c = V.int 1 from fun h => c1 (V.int.inj h))]
            exact iteF (k2 (by rw [ec]; simpa using c1) _ sn)
        rintro Hc sc ec
        obtain ⟨S, eS⟩ : ∃ S, S = ((List.range D.length).filter fun z => decide (bs[z]? = some 1)).map fun z => D.getD z "" := ⟨_, rfl⟩
        have subS : S.Sublist D := by
          have := (List.filter_sublist (p := fun z => decide (bs[z]? = some 1)) (l := List.range D.length)).map fun z => D.getD z ""
          rw [range_getD, ← eS] at this
          exact this
        have ec' : Hc D2 = some (.lst (S.map V.str)) := by
          rw [ec, List.length_map, eS, List.map_map]
          rfl
        refine ⟨D2, _, rfl, SqL.of ec', fun H9 q oq s9 n9 e9 u9 => ?_⟩
        have k9 : Kp H9 f q l as D S rows := ⟨.inr ⟨o7, s9 _ _ (sc _ _ f8)⟩, .inr ⟨oq, e9⟩, s9 _ _ (sc _ _ l8), rowsR_same (sc.trans s9) R8⟩
        have t9 : Same H H9 := t8.trans (sc.trans s9)
        have S9 := S8.same (sc.trans s9)
        clear ec ec' e9 u9
        have ndS : S.Nodup := nd.sublist subS
        have gS : GoodRow S := goodE ndS (fun z hz => d8 z (subS.subset hz)) (Nat.le_trans subS.length_le (by omega))
        have self : D.Sublist D := List.Sublist.refl _
        have nil_ : ([] : List Str).Sublist D := List.nil_sublist _
        have all1 : ∀ {P : List Str → Prop} {x : List Str}, P x → ∀ r ∈ [x], P r := fun h r hr => (List.mem_singleton.mp hr) ▸ h
        have all2 : ∀ {P : List Str → Prop} {x y : List Str}, P x → P y → ∀ r ∈ [x, y], P r := fun h k r hr => (List.mem_cons.mp hr).elim (fun e => e ▸ h) fun hr => (List.mem_singleton.mp hr) ▸ k
        have allc : ∀ {P : List Str → Prop} {x : List Str} {xs : List (List Str)}, P x → (∀ r ∈ xs, P r) → ∀ r ∈ x :: xs, P r := fun h k r hr => (List.mem_cons.mp hr).elim (fun e => e ▸ h) (k r)
        have alla : ∀ {P : List Str → Prop} {x : List Str} {xs : List (List Str)}, (∀ r ∈ xs, P r) → P x → ∀ r ∈ xs ++ [x], P r := fun h k r hr => (List.mem_append.mp hr).elim (h r) fun hr => (List.mem_singleton.mp hr) ▸ k
        -- merged(found)
        refine ⟨_, rfl, star_merged (as := [f]) (rows := [D]) (rr_cons k9.f rr_nil) (all1 gD) (by show 1 ≤ 100; decide) (full_sub nd (all1 self)) fun Ha ra oa sa ea ua => ?_⟩
        rw [Mg.drawn_super nd (by simp) (all1 self)] at ea
        refine ⟨_, rfl, ne_same (.inr ⟨oa, ea⟩) (kp_same sa k9).f wd ⟨_, rfl, iteF ?_⟩⟩
        have k10 := kp_same sa k9
        have t10 := t9.trans sa
        have S10 := S9.same sa
        refine ⟨_, rfl, _, rfl, star_merged (as := [f, f]) (rows := [D, D]) (rr_cons k10.f (rr_cons k10.f rr_nil)) (all2 gD gD) (by show 2 ≤ 100; decide) (full_sub nd (all2 self self)) fun Hb rb ob sb eb ub => ?_⟩
        rw [Mg.drawn_super nd (by simp) (all2 self self)] at eb
        refine ⟨_, rfl, ne_same (.inr ⟨ob, eb⟩) (kp_same sb k10).f wd ⟨_, rfl, iteF ?_⟩⟩
        have k11 := kp_same sb k10
        have t11 := t10.trans sb
        have S11 := S10.same sb
        -- merged_by([found] + rows)
        refine ⟨_, rfl, (by show 1 ≤ 100000; decide), fun Hc lc sc nc ec => ⟨_, rfl, lc, l, [.ref f], as.map V.ref, rfl, rfl, ec, (kp_same sc k11).l, by rw [List.length_map, hR.1]; show 1 + rows.length ≤ 100000; omega, fun Hd ld sd nd' ed => ?_⟩⟩
        have k12 := kp_same (sc.trans sd) k11
        refine ⟨ld, f :: as, D :: rows, rfl, ed, rr_cons k12.f k12.r, allc gD hg, by rw [List.length_cons]; omega, full_sub nd (allc self ord), fun He re oe se ee ue => ?_⟩
        rw [Mg.drawn_super nd (List.mem_cons_self ..) (allc self ord)] at ee
        refine ⟨_, rfl, ne_same (.inr ⟨oe, ee⟩) (kp_same se k12).f wd ⟨_, rfl, iteF ?_⟩⟩
        have k13 := kp_same se k12
        have t13 := t11.trans ((sc.trans sd).trans se)
        have S13 := S11.same ((sc.trans sd).trans se)
        -- merged_by(rows + [some])
        refine ⟨_, rfl, _, rfl, (by show 1 ≤ 100000; decide), fun Hf lf sf nf ef => ⟨l, lf, as.map V.ref, [.ref q], rfl, rfl, (kp_same sf k13).l, ef, by rw [List.length_map, hR.1]; show rows.length + 1 ≤ 100000; omega, fun Hg lg sg ng eg => ?_⟩⟩
        have k14 := kp_same (sf.trans sg) k13
        refine ⟨lg, as ++ [q], rows ++ [S], rfl, (by rw [List.map_append]; exact eg), rr_app k14.r k14.q, alla hg gS, by rw [List.length_append]; show rows.length + 1 ≤ 5; omega, full_sub nd (alla ord subS), fun Hh rh oh sh eh uh => ?_⟩
        rw [Mg.drawn_part rows S (by rw [← eD]; exact subS), ← eD] at eh
        refine ⟨_, rfl, ne_same (.inr ⟨oh, eh⟩) (kp_same sh k14).f wd ⟨_, rfl, iteF ?_⟩⟩
        have k15 := kp_same sh k14
        have t15 := t13.trans ((sf.trans sg).trans sh)
        have S15 := S13.same ((sf.trans sg).trans sh)
        -- merged(found, some)
        refine ⟨_, rfl, _, rfl, star_merged (as := [f, q]) (rows := [D, S]) (rr_cons k15.f (rr_cons k15.q rr_nil)) (all2 gD gS) (by show 2 ≤ 100; decide) (full_sub nd (all2 self subS)) fun Hi ri oi si ei ui => ?_⟩
        rw [Mg.drawn_super nd (by simp) (all2 self subS)] at ei
        refine ⟨_, rfl, ne_same (.inr ⟨oi, ei⟩) (kp_same si k15).f wd ⟨_, rfl, iteF ?_⟩⟩
        have k16 := kp_same si k15
        have t16 := t15.trans si
        have S16 := S15.same si
        -- merged(rows[0], found)
        obtain ⟨r0, er0⟩ : ∃ r0, rows[0]? = some r0 := ⟨_, List.getElem?_eq_getElem (by omega)⟩
        obtain ⟨a0, ea0⟩ : ∃ a0, as[0]? = some a0 := ⟨_, List.getElem?_eq_getElem (by rw [hR.1]; omega)⟩
        have m0' : r0 ∈ rows := List.mem_of_getElem? er0
        refine ⟨_, rfl, l, _, _, _, rfl, rfl, SqL.of k16.l, atI_nat (j := 0) (by rw [List.getElem?_map, ea0]; rfl), ?_⟩
        refine ⟨_, rfl, star_merged (as := [a0, f]) (rows := [r0, D]) (rr_cons (k16.r.2 0 a0 r0 ea0 er0) (rr_cons k16.f rr_nil)) (all2 (hg r0 m0') gD) (by show 2 ≤ 100; decide) (full_sub nd (all2 (ord r0 m0') self)) fun Hj rj oj sj ej uj => ?_⟩
        rw [Mg.drawn_super nd (by simp) (all2 (ord r0 m0') self)] at ej
        refine ⟨_, rfl, ne_same (.inr ⟨oj, ej⟩) (kp_same sj k16).f wd ⟨_, rfl, iteF ?_⟩⟩
        have k17 := kp_same sj k16
        have t17 := t16.trans sj
        have S17 := S16.same sj
        -- other names
        have rowAt : ∀ {z : Nat} {y : V}, (as.map V.ref)[z]? = some y → ∃ a row, y = .ref a ∧ rows.getD z [] = row ∧ row ∈ rows ∧ as[z]? = some a ∧ rows[z]? = some row := fun {z y} h => by
          rw [List.getElem?_map] at h
          cases e : as[z]? with
          | none => rw [e] at h; cases h
          | some a =>
            rw [e] at h
            have zl : z < rows.length := by
              rw [← hR.1]
              exact (List.getElem?_eq_some_iff.mp e).1
            refine ⟨a, rows[z], (Option.some.inj h).symm, ?_, List.getElem_mem zl, rfl, List.getElem?_eq_getElem zl⟩
            rw [List.getD_eq_getElem?_getD, List.getElem?_eq_getElem zl]
            rfl
        have lm : ∀ (P : List Str → List Str), (((List.range (as.map V.ref).length).filter fun _ => true).map fun z => P (rows.getD z [])) = rows.map P := fun P => by
          rw [List.filter_eq_self.mpr (fun _ _ => rfl), List.length_map, hR.1]
          have := congrArg (List.map P) (range_getD ([] : List Str) rows)
          rw [List.map_map] at this
          exact this
        refine ⟨_, rfl, l, rfl, ⟨_, SqL.of k17.l⟩, fun D3 hD3 => ?_⟩
        refine lcRl (walk_list (xs := as.map V.ref)) (fun _ => true) (fun z y Hx => ∃ a, y = .ref a ∧ Rd Hx a (.tup (((rows.getD z []).map anew).map V.str))) (fun z y H1 H2 s ⟨a, e, k⟩ => ⟨a, e, rd_same s k⟩) (by rw [List.length_map, hR.1]; omega) hD3 (fun Hx sx => SqL.of (sx _ _ k17.l)) ?_ ?_
        · rintro z y Hx Hy Nx Nf hz sx hl ⟨rfl, ey⟩ k1 k2
          obtain ⟨a1, row, rfl, er, mr, e1, e2⟩ := rowAt ey
          obtain ⟨ys, hys⟩ := hl
          refine ⟨rfl, yesT ⟨_, rfl, a1, row, rfl, (kp_same sx k17).r.2 z a1 row e1 e2, Nat.le_trans (hg row mr).2.2 (by decide), fun w hw => short8 (w8 w ((wsub row mr).subset hw)), fun Hq lq oq' sq nq eq => k1 rfl _ Hq sq ⟨lq, rfl, ?_⟩⟩⟩
          rw [er]
          refine .inr ⟨oq', ?_⟩
          rw [Nb.del_ne (fun w => by rw [w, hys] at nq; cases nq)]
          exact eq
        rintro Hk ys sk ek fk
        obtain ⟨as3, rfl, R3⟩ := rr_f2 (f2_made (P := fun z => (rows.getD z []).map anew) (R := fun v (r : List Str) => ∃ a, v = .ref a ∧ Rd Hk a (.tup (r.map V.str))) fk)
        rw [lm (List.map anew)] at R3
        have dm := Mg.drawn_map anew_inj rows
        rw [← eD] at dm
        have w8D : ∀ z ∈ D.map anew, z ∈ more := fun z hz => by
          obtain ⟨y, hy, rfl⟩ := List.mem_map.mp hz
          exact mAnew (d8 y hy)
        have ndm : ∀ {r : List Str}, r.Nodup → (r.map anew).Nodup := fun h => List.Pairwise.map anew (fun a b n e => n (anew_inj a b e)) h
        have g3 : ∀ r ∈ rows.map (List.map anew), GoodRow r := fun r hr => by
          obtain ⟨s, hs, rfl⟩ := List.mem_map.mp hr
          refine goodM (ndm (hg s hs).1) (fun z hz => ?_) (by rw [List.length_map]; exact (hg s hs).2.2)
          obtain ⟨y, hy, rfl⟩ := List.mem_map.mp hz
          exact mAnew (w8 y ((wsub s hs).subset hy))
        refine ⟨D3, as3, rows.map (List.map anew), rfl, ek, R3, g3, by rw [List.length_map]; omega, full_sub (ndm nd) (fun r hr => by
          obtain ⟨s, hs, rfl⟩ := List.mem_map.mp hr
          exact (ord s hs).map anew), fun Hl rl ol sl el' ul => ?_⟩
        rw [dm] at el'
        have k18 := kp_same (sk.trans sl) k17
        refine ⟨_, rfl, f, D, rfl, k18.f, by omega, fun z hz => short8 (d8 z hz), fun Hm lm' om sm nm em => ?_⟩
        refine ne_same (.inr ⟨ol, sm _ _ el'⟩) (.inr ⟨om, em⟩) (fun z hz => (good_more z (w8D z hz)).2) ⟨_, rfl, iteF ?_⟩
        have k19 := kp_same sm k18
        have t19 := t17.trans ((sk.trans sl).trans sm)
        have S19 := S17.same ((sk.trans sl).trans sm)
        -- a name at the front
        refine ⟨_, rfl, l, rfl, ⟨_, SqL.of k19.l⟩, fun D4 hD4 => ?_⟩
        refine lcRl (walk_list (xs := as.map V.ref)) (fun _ => true) (fun z y Hx => ∃ a, y = .ref a ∧ Rd Hx a (.tup ((("top" : Str) :: rows.getD z []).map V.str))) (fun z y H1 H2 s ⟨a, e, k⟩ => ⟨a, e, rd_same s k⟩) (by rw [List.length_map, hR.1]; omega) hD4 (fun Hx sx => SqL.of (sx _ _ k19.l)) ?_ ?_
        · rintro z y Hx Hy Nx Nf hz sx hl ⟨rfl, ey⟩ k1 k2
          obtain ⟨a1, row, rfl, er, mr, e1, e2⟩ := rowAt ey
          obtain ⟨ys, hys⟩ := hl
          have l8' := (hg row mr).2.2
          refine ⟨rfl, yesT ⟨(by show 1 ≤ 100000; decide), fun Hq tq sq nq eq => ⟨_, rfl, tq, a1, [.str "top"], row.map V.str, rfl, rfl, .inl eq, rd_same sq ((kp_same sx k19).r.2 z a1 row e1 e2), by rw [List.length_map]; show 1 + row.length ≤ 100000; omega, fun Hr pr sr er' => k1 rfl _ Hr (sq.trans sr) ⟨pr, rfl, ?_⟩⟩⟩⟩
          rw [er]
          exact rd_del (sr _ _ (sq _ _ hys)) er'
        rintro Hn ys sn en fn
        obtain ⟨as4, rfl, R4⟩ := rr_f2 (f2_made (P := fun z => ("top" : Str) :: rows.getD z []) (R := fun v (r : List Str) => ∃ a, v = .ref a ∧ Rd Hn a (.tup (r.map V.str))) fn)
        rw [lm (fun r => ("top" : Str) :: r)] at R4
        have l7 : ∀ r ∈ rows, r.length ≤ 7 := fun r hr => Nat.le_trans (wsub r hr).length_le (by omega)
        have ntop : ("top" : Str) ∉ D := fun h => (no_top (d8 _ h)).1 rfl
        have nend : ("end" : Str) ∉ D := fun h => (no_top (d8 _ h)).2 rfl
        have mt : ("top" : Str) ∈ more := List.mem_append_right _ (List.mem_cons_self ..)
        have me : ("end" : Str) ∈ more := List.mem_append_right _ (List.mem_cons_of_mem _ (List.mem_cons_self ..))
        have rne : rows ≠ [] := fun h => by
          rw [h] at lr
          simp only [List.length_nil] at lr
          omega
        have flatD : ∀ x ∈ rows.flatten, x ∈ D := fun x hx => eD ▸ cov x hx
        have dt := Mg.drawn_top (top := ("top" : Str)) (rows := rows) (fun h => ntop (flatD _ h)) rne
        rw [← eD] at dt
        have ndt : (("top" : Str) :: D).Nodup := List.nodup_cons.mpr ⟨ntop, nd⟩
        have wm : ∀ {zs : List Str}, (∀ z ∈ zs, z ∈ more) → ∀ z ∈ zs, Word z := fun h z hz => (good_more z (h z hz)).2
        have mtD : ∀ z ∈ ("top" : Str) :: D, z ∈ more := fun z hz => (List.mem_cons.mp hz).elim (fun e => e ▸ mt) fun h => m8 (d8 z h)
        have g4 : ∀ r ∈ rows.map (fun r => ("top" : Str) :: r), GoodRow r := fun r hr => by
          obtain ⟨s, hs, rfl⟩ := List.mem_map.mp hr
          have sd := (ord s hs).cons₂ ("top" : Str)
          exact goodM (ndt.sublist sd) (fun z hz => mtD z (sd.subset hz)) (by have := l7 s hs; rw [List.length_cons]; omega)
        refine ⟨D4, as4, rows.map (fun r => ("top" : Str) :: r), rfl, en, R4, g4, by rw [List.length_map]; omega, full_sub ndt (fun r hr => by
          obtain ⟨s, hs, rfl⟩ := List.mem_map.mp hr
          exact (ord s hs).cons₂ _), fun Ho ro oo so eo uo => ?_⟩
        rw [dt] at eo
        have k20 := kp_same (sn.trans so) k19
        refine ⟨(by show 1 ≤ 100000; decide), fun Hp' tp sp np' ep => ⟨_, rfl, tp, f, [.str "top"], D.map V.str, rfl, rfl, .inl ep, (kp_same sp k20).f, by rw [List.length_map]; show 1 + D.length ≤ 100000; omega, fun Hq pq sq eq => ?_⟩⟩
        refine ne_same (zs := ("top" : Str) :: D) (.inr ⟨oo, (sp.trans sq) _ _ eo⟩) eq (wm mtD) ⟨_, rfl, iteF ?_⟩
        have k21 := kp_same (sp.trans sq) k20
        have t21 := t19.trans ((sn.trans so).trans (sp.trans sq))
        have S21 := S19.same ((sn.trans so).trans (sp.trans sq))
        -- a name at the end
        refine ⟨_, rfl, l, rfl, ⟨_, SqL.of k21.l⟩, fun D5 hD5 => ?_⟩
        refine lcRl (walk_list (xs := as.map V.ref)) (fun _ => true) (fun z y Hx => ∃ a, y = .ref a ∧ Rd Hx a (.tup ((rows.getD z [] ++ [("end" : Str)]).map V.str))) (fun z y H1 H2 s ⟨a, e, k⟩ => ⟨a, e, rd_same s k⟩) (by rw [List.length_map, hR.1]; omega) hD5 (fun Hx sx => SqL.of (sx _ _ k21.l)) ?_ ?_
        · rintro z y Hx Hy Nx Nf hz sx hl ⟨rfl, ey⟩ k1 k2
          obtain ⟨a1, row, rfl, er, mr, e1, e2⟩ := rowAt ey
          obtain ⟨ys, hys⟩ := hl
          have l8' := (hg row mr).2.2
          refine ⟨rfl, yesT ⟨_, rfl, (by show 1 ≤ 100000; decide), fun Hq tq sq nq eq => ⟨a1, tq, row.map V.str, [.str "end"], rfl, rfl, rd_same sq ((kp_same sx k21).r.2 z a1 row e1 e2), .inl eq, by rw [List.length_map]; show row.length + 1 ≤ 100000; omega, fun Hr pr sr er' => k1 rfl _ Hr (sq.trans sr) ⟨pr, rfl, ?_⟩⟩⟩⟩
          rw [er, List.map_append]
          exact rd_del (sr _ _ (sq _ _ hys)) er'
        rintro Hr ys sr er fr
        obtain ⟨as5, rfl, R5⟩ := rr_f2 (f2_made (P := fun z => rows.getD z [] ++ [("end" : Str)]) (R := fun v (r : List Str) => ∃ a, v = .ref a ∧ Rd Hr a (.tup (r.map V.str))) fr)
        rw [lm (fun r => r ++ [("end" : Str)])] at R5
        have de := Mg.drawn_end (e := ("end" : Str)) rows (fun h => nend (flatD _ h)) rne cov
        rw [← eD] at de
        have nde : (D ++ [("end" : Str)]).Nodup := by
          rw [List.nodup_append]
          exact ⟨nd, by simp, fun x hx y hy e => nend ((List.mem_singleton.mp hy) ▸ e ▸ hx)⟩
        have meD : ∀ z ∈ D ++ [("end" : Str)], z ∈ more := fun z hz => (List.mem_append.mp hz).elim (fun h => m8 (d8 z h)) fun h => (List.mem_singleton.mp h) ▸ me
        have g5 : ∀ r ∈ rows.map (fun r => r ++ [("end" : Str)]), GoodRow r := fun r hr => by
          obtain ⟨s, hs, rfl⟩ := List.mem_map.mp hr
          have sd := (ord s hs).append (List.Sublist.refl [("end" : Str)])
          exact goodM (nde.sublist sd) (fun z hz => meD z (sd.subset hz)) (by have := l7 s hs; rw [List.length_append]; show s.length + 1 ≤ 8; omega)
        refine ⟨D5, as5, rows.map (fun r => r ++ [("end" : Str)]), rfl, er, R5, g5, by rw [List.length_map]; omega, full_sub nde (fun r hr => by
          obtain ⟨s, hs, rfl⟩ := List.mem_map.mp hr
          exact (ord s hs).append (List.Sublist.refl _)), fun Hs rs os ss es us => ?_⟩
        rw [de] at es
        have k22 := kp_same (sr.trans ss) k21
        refine ⟨_, rfl, (by show 1 ≤ 100000; decide), fun Ht tt st nt et => ⟨f, tt, D.map V.str, [.str "end"], rfl, rfl, (kp_same st k22).f, .inl et, by rw [List.length_map]; show D.length + 1 ≤ 100000; omega, fun Hu pu su eu => ?_⟩⟩
        refine ne_same (zs := D ++ [("end" : Str)]) (.inr ⟨os, (st.trans su) _ _ es⟩) (by rw [List.map_append]; exact eu) (wm meD) ⟨_, rfl, iteF ?_⟩
        have k23 := kp_same (st.trans su) k22
        have t23 := t21.trans ((sr.trans ss).trans (st.trans su))
        have S23 := S21.same ((sr.trans ss).trans (st.trans su))
        -- joined
        have ndj : (D ++ [("top" : Str), "end"]).Nodup := by
          rw [List.nodup_append]
          refine ⟨nd, by decide +kernel, fun x hx y hy e => ?_⟩
          subst e
          rcases List.mem_cons.mp hy with h | h
          · exact ntop (h ▸ hx)
          · exact nend ((List.mem_singleton.mp h) ▸ hx)
        have mjD : ∀ z ∈ D ++ [("top" : Str), "end"], z ∈ more := fun z hz => (List.mem_append.mp hz).elim (fun h => m8 (d8 z h)) fun h => (List.mem_cons.mp h).elim (fun e => e ▸ mt) fun h => (List.mem_singleton.mp h) ▸ me
        have g6 : GoodRow [("top" : Str), "end"] := goodM (by decide +kernel) (fun z hz => mjD z (List.mem_append_right _ hz)) (by show 2 ≤ 8; decide)
        refine ⟨_, rfl, (by show 2 ≤ 100000; decide), fun Hv tv sv nv ev => ?_⟩
        refine star_merged (as := [f, tv]) (rows := [D, [("top" : Str), "end"]]) (rr_cons (kp_same sv k23).f (rr_cons (.inl ev) rr_nil)) (all2 gD g6) (by show 2 ≤ 100; decide) (full_sub ndj (all2 (List.sublist_append_left _ _) (List.sublist_append_right _ _))) fun Hw rw' ow sw ew uw => ?_
        rw [Mg.drawn_join ndj] at ew
        have k24 := kp_same (sv.trans sw) k23
        refine ⟨_, rfl, (by show 2 ≤ 100000; decide), fun Hx' tx sx' nx ex => ⟨f, tx, D.map V.str, [.str "top", .str "end"], rfl, rfl, (kp_same sx' k24).f, .inl ex, by rw [List.length_map]; show D.length + 2 ≤ 100000; omega, fun Hy' py sy' ey' => ?_⟩⟩
        refine ne_same (zs := D ++ [("top" : Str), "end"]) (.inr ⟨ow, (sx'.trans sy') _ _ ew⟩) (by rw [List.map_append]; exact ey') (wm mjD) ⟨_, rfl, iteF ?_⟩
        have k25 := kp_same (sx'.trans sy') k24
        have t25 := t23.trans ((sv.trans sw).trans (sx'.trans sy'))
        have S25 := S23.same ((sv.trans sw).trans (sx'.trans sy'))
        -- merged((), found, ())
        refine ⟨(by show 0 ≤ 100000; decide), fun Hz t1 sz nz ez => ⟨_, rfl, (by show 0 ≤ 100000; decide), fun HA t2 sA nA eA => ?_⟩⟩
        have k26 := kp_same (sz.trans sA) k25
        have g0 : GoodRow [] := goodE List.nodup_nil (fun z hz => nomatch hz) (by decide)
        refine star_merged (as := [t1, f, t2]) (rows := [[], D, []]) (rr_cons (.inl (sA _ _ ez)) (rr_cons k26.f (rr_cons (.inl eA) rr_nil))) (allc g0 (all2 gD g0)) (by show 3 ≤ 100; decide) (full_sub nd (allc nil_ (all2 self nil_))) fun HB rB oB sB eB uB => ?_
        rw [Mg.drawn_super nd (by simp) (allc nil_ (all2 self nil_))] at eB
        refine ⟨_, rfl, ne_same (.inr ⟨oB, eB⟩) (kp_same sB k26).f wd ⟨_, rfl, iteF ?_⟩⟩
        exact ⟨_, _, _, _, _, rfl, t25.trans ((sz.trans sA).trans sB), (S25.same ((sz.trans sA).trans sB)).mono (by omega)⟩
      · rintro σ H2 ⟨w3, w4, w5, w6, w7, rfl, s2, S2⟩
        exact ⟨_, _, _, _, _, _, _, rfl, s2⟩
    · rintro σ H1 ⟨v1, v2, v3, v4, v5, v6, v7, rfl, s1⟩
      exact q H1
end
end K07

set_option Elab.async false
set_option maxRecDepth 100000
set_option maxHeartbeats 8000000
namespace K07
open PySem Nb
open L2 hiding del del_ne del_same
theorem all_mk {l : PySem.W.OpenLaw} {w : World} {K : PySem.W.Frag} {h : Heap} {mg : Str → Option Value} {fa f_law f_h_source f_h_next f_is_name f_are_names f_are_different_names f_Merge__prepare f_Merge__advance f_Merge_drop f_Merge_draw f_places f_Merge___init f_check_tuples f_merged f_h_mixed f_h_name_rows f_h_merged_by f_h_named_anew C_Merge : Addr} (X : K.In h) (G : h.Ns mainGlobals mg) (hfa : mg "law" = some (.ref fa))
    {odh_source anh_source odh_next anh_next odis_name anis_name odare_names anare_names odare_different_names anare_different_names odMerge__prepare anMerge__prepare odMerge__advance anMerge__advance odMerge_drop anMerge_drop odMerge_draw anMerge_draw odplaces anplaces odMerge___init anMerge___init odcheck_tuples ancheck_tuples odmerged anmerged odh_mixed anh_mixed odh_name_rows anh_name_rows odh_merged_by anh_merged_by odh_named_anew anh_named_anew odlaw anlaw : Option Addr}
    {slh_source slh_next slis_name slare_names slare_different_names slMerge__prepare slMerge__advance slMerge_drop slMerge_draw slplaces slMerge___init slcheck_tuples slmerged slh_mixed slh_name_rows slh_merged_by slh_named_anew sllaw : Array (Option Value)}
    {och_source kVh_source dch_source pmh_source cdh_source cth_source och_next kVh_next dch_next pmh_next cdh_next cth_next ocis_name kVis_name dcis_name pmis_name cdis_name ctis_name ocare_names kVare_names dcare_names pmare_names cdare_names ctare_names ocare_different_names kVare_different_names dcare_different_names pmare_different_names cdare_different_names ctare_different_names ocMerge__prepare kVMerge__prepare dcMerge__prepare pmMerge__prepare cdMerge__prepare ctMerge__prepare ocMerge__advance kVMerge__advance dcMerge__advance pmMerge__advance cdMerge__advance ctMerge__advance ocMerge_drop kVMerge_drop dcMerge_drop pmMerge_drop cdMerge_drop ctMerge_drop ocMerge_draw kVMerge_draw dcMerge_draw pmMerge_draw cdMerge_draw ctMerge_draw ocplaces kVplaces dcplaces pmplaces cdplaces ctplaces ocMerge___init kVMerge___init dcMerge___init pmMerge___init cdMerge___init ctMerge___init occheck_tuples kVcheck_tuples dccheck_tuples pmcheck_tuples cdcheck_tuples ctcheck_tuples ocmerged kVmerged dcmerged pmmerged cdmerged ctmerged och_mixed kVh_mixed dch_mixed pmh_mixed cdh_mixed cth_mixed och_name_rows kVh_name_rows dch_name_rows pmh_name_rows cdh_name_rows cth_name_rows och_merged_by kVh_merged_by dch_merged_by pmh_merged_by cdh_merged_by cth_merged_by och_named_anew kVh_named_anew dch_named_anew pmh_named_anew cdh_named_anew cth_named_anew oclaw kVlaw dclaw pmlaw cdlaw ctlaw : Value}
    {t_LONGEST_NAME : Tok}
    (a_Merge : PySem.W.nsIn K mainGlobals "Merge" = some (some (.ref C_Merge)))
    (pg_Merge : PySem.W.plainGet K C_Merge Str.empty = true)
    (hd_Merge : PySem.W.hasDictIn K C_Merge = true)
    (po_Merge : PySem.W.plainOver K C_Merge = true)
    (sa_Merge : PySem.W.findIn K (.ref C_Merge) "__setattr__" = some (some (.builtin "object.__setattr__")))
    (nf_Merge_rows : PySem.W.findIn K (.ref C_Merge) "rows" = some none)
    (nf_Merge_places : PySem.W.findIn K (.ref C_Merge) "places" = some none)
    (nf_Merge_gone : PySem.W.findIn K (.ref C_Merge) "gone" = some none)
    (nf_Merge_heads : PySem.W.findIn K (.ref C_Merge) "heads" = some none)
    (nf_Merge_behind : PySem.W.findIn K (.ref C_Merge) "behind" = some none)
    (nf_Merge_ready : PySem.W.findIn K (.ref C_Merge) "ready" = some none)
    (mk_Merge : PySem.W.makesIn K C_Merge = true)
    (kc_Merge : PySem.W.keepIn K (.ref C_Merge) = true)
    (a_h_source : PySem.W.nsIn K mainGlobals "_law_source" = some (some (.ref f_h_source)))
    (l_h_source : K.lookup f_h_source = some ⟨och_source, odh_source, .func (PySem.W.fnOf "_law_source" "_law_source" (defArgs s_h_source) (defBody s_h_source) (defScope s_h_source) .none kVh_source dch_source pmh_source anh_source cdh_source cth_source), slh_source⟩)
    (c_h_source : PySem.W.codeIn K cdh_source "_law_source" = true)
    (k_h_source : PySem.W.keepIn K (.ref f_h_source) = true)
    (a_h_next : PySem.W.nsIn K mainGlobals "_law_next" = some (some (.ref f_h_next)))
    (l_h_next : K.lookup f_h_next = some ⟨och_next, odh_next, .func (PySem.W.fnOf "_law_next" "_law_next" (defArgs s_h_next) (defBody s_h_next) (defScope s_h_next) .none kVh_next dch_next pmh_next anh_next cdh_next cth_next), slh_next⟩)
    (c_h_next : PySem.W.codeIn K cdh_next "_law_next" = true)
    (k_h_next : PySem.W.keepIn K (.ref f_h_next) = true)
    (a_is_name : PySem.W.nsIn K mainGlobals "is_name" = some (some (.ref f_is_name)))
    (l_is_name : K.lookup f_is_name = some ⟨ocis_name, odis_name, .func (PySem.W.fnOf "is_name" "is_name" (defArgs s_is_name) (defBody s_is_name) (defScope s_is_name) .none kVis_name dcis_name pmis_name anis_name cdis_name ctis_name), slis_name⟩)
    (c_is_name : PySem.W.codeIn K cdis_name "is_name" = true)
    (k_is_name : PySem.W.keepIn K (.ref f_is_name) = true)
    (a_are_names : PySem.W.nsIn K mainGlobals "are_names" = some (some (.ref f_are_names)))
    (l_are_names : K.lookup f_are_names = some ⟨ocare_names, odare_names, .func (PySem.W.fnOf "are_names" "are_names" (defArgs s_are_names) (defBody s_are_names) (defScope s_are_names) .none kVare_names dcare_names pmare_names anare_names cdare_names ctare_names), slare_names⟩)
    (c_are_names : PySem.W.codeIn K cdare_names "are_names" = true)
    (k_are_names : PySem.W.keepIn K (.ref f_are_names) = true)
    (a_are_different_names : PySem.W.nsIn K mainGlobals "are_different_names" = some (some (.ref f_are_different_names)))
    (l_are_different_names : K.lookup f_are_different_names = some ⟨ocare_different_names, odare_different_names, .func (PySem.W.fnOf "are_different_names" "are_different_names" (defArgs s_are_different_names) (defBody s_are_different_names) (defScope s_are_different_names) .none kVare_different_names dcare_different_names pmare_different_names anare_different_names cdare_different_names ctare_different_names), slare_different_names⟩)
    (c_are_different_names : PySem.W.codeIn K cdare_different_names "are_different_names" = true)
    (k_are_different_names : PySem.W.keepIn K (.ref f_are_different_names) = true)
    (a_Merge__prepare : PySem.W.findIn K (.ref C_Merge) "_prepare" = some (some (.ref f_Merge__prepare)))
    (if_Merge__prepare : PySem.W.isFn K (.ref f_Merge__prepare) = true)
    (l_Merge__prepare : K.lookup f_Merge__prepare = some ⟨ocMerge__prepare, odMerge__prepare, .func (PySem.W.fnOf "_prepare" "Merge._prepare" (defArgs s_Merge__prepare) (defBody s_Merge__prepare) (defScope s_Merge__prepare) .none kVMerge__prepare dcMerge__prepare pmMerge__prepare anMerge__prepare cdMerge__prepare ctMerge__prepare), slMerge__prepare⟩)
    (c_Merge__prepare : PySem.W.codeIn K cdMerge__prepare "Merge._prepare" = true)
    (k_Merge__prepare : PySem.W.keepIn K (.ref f_Merge__prepare) = true)
    (a_Merge__advance : PySem.W.findIn K (.ref C_Merge) "_advance" = some (some (.ref f_Merge__advance)))
    (if_Merge__advance : PySem.W.isFn K (.ref f_Merge__advance) = true)
    (l_Merge__advance : K.lookup f_Merge__advance = some ⟨ocMerge__advance, odMerge__advance, .func (PySem.W.fnOf "_advance" "Merge._advance" (defArgs s_Merge__advance) (defBody s_Merge__advance) (defScope s_Merge__advance) .none kVMerge__advance dcMerge__advance pmMerge__advance anMerge__advance cdMerge__advance ctMerge__advance), slMerge__advance⟩)
    (c_Merge__advance : PySem.W.codeIn K cdMerge__advance "Merge._advance" = true)
    (k_Merge__advance : PySem.W.keepIn K (.ref f_Merge__advance) = true)
    (a_Merge_drop : PySem.W.findIn K (.ref C_Merge) "drop" = some (some (.ref f_Merge_drop)))
    (if_Merge_drop : PySem.W.isFn K (.ref f_Merge_drop) = true)
    (l_Merge_drop : K.lookup f_Merge_drop = some ⟨ocMerge_drop, odMerge_drop, .func (PySem.W.fnOf "drop" "Merge.drop" (defArgs s_Merge_drop) (defBody s_Merge_drop) (defScope s_Merge_drop) .none kVMerge_drop dcMerge_drop pmMerge_drop anMerge_drop cdMerge_drop ctMerge_drop), slMerge_drop⟩)
    (c_Merge_drop : PySem.W.codeIn K cdMerge_drop "Merge.drop" = true)
    (k_Merge_drop : PySem.W.keepIn K (.ref f_Merge_drop) = true)
    (a_Merge_draw : PySem.W.findIn K (.ref C_Merge) "draw" = some (some (.ref f_Merge_draw)))
    (if_Merge_draw : PySem.W.isFn K (.ref f_Merge_draw) = true)
    (l_Merge_draw : K.lookup f_Merge_draw = some ⟨ocMerge_draw, odMerge_draw, .func (PySem.W.fnOf "draw" "Merge.draw" (defArgs s_Merge_draw) (defBody s_Merge_draw) (defScope s_Merge_draw) .none kVMerge_draw dcMerge_draw pmMerge_draw anMerge_draw cdMerge_draw ctMerge_draw), slMerge_draw⟩)
    (c_Merge_draw : PySem.W.codeIn K cdMerge_draw "Merge.draw" = true)
    (k_Merge_draw : PySem.W.keepIn K (.ref f_Merge_draw) = true)
    (a_places : PySem.W.nsIn K mainGlobals "_places" = some (some (.ref f_places)))
    (l_places : K.lookup f_places = some ⟨ocplaces, odplaces, .func (PySem.W.fnOf "_places" "_places" (defArgs s_places) (defBody s_places) (defScope s_places) .none kVplaces dcplaces pmplaces anplaces cdplaces ctplaces), slplaces⟩)
    (c_places : PySem.W.codeIn K cdplaces "_places" = true)
    (k_places : PySem.W.keepIn K (.ref f_places) = true)
    (a_Merge___init : PySem.W.findIn K (.ref C_Merge) "__init__" = some (some (.ref f_Merge___init)))
    (if_Merge___init : PySem.W.isFn K (.ref f_Merge___init) = true)
    (l_Merge___init : K.lookup f_Merge___init = some ⟨ocMerge___init, odMerge___init, .func (PySem.W.fnOf "__init__" "Merge.__init__" (defArgs s_Merge___init) (defBody s_Merge___init) (defScope s_Merge___init) .none kVMerge___init dcMerge___init pmMerge___init anMerge___init cdMerge___init ctMerge___init), slMerge___init⟩)
    (c_Merge___init : PySem.W.codeIn K cdMerge___init "Merge.__init__" = true)
    (k_Merge___init : PySem.W.keepIn K (.ref f_Merge___init) = true)
    (a_check_tuples : PySem.W.nsIn K mainGlobals "_check_tuples" = some (some (.ref f_check_tuples)))
    (l_check_tuples : K.lookup f_check_tuples = some ⟨occheck_tuples, odcheck_tuples, .func (PySem.W.fnOf "_check_tuples" "_check_tuples" (defArgs s_check_tuples) (defBody s_check_tuples) (defScope s_check_tuples) .none kVcheck_tuples dccheck_tuples pmcheck_tuples ancheck_tuples cdcheck_tuples ctcheck_tuples), slcheck_tuples⟩)
    (c_check_tuples : PySem.W.codeIn K cdcheck_tuples "_check_tuples" = true)
    (k_check_tuples : PySem.W.keepIn K (.ref f_check_tuples) = true)
    (a_merged : PySem.W.nsIn K mainGlobals "merged" = some (some (.ref f_merged)))
    (l_merged : K.lookup f_merged = some ⟨ocmerged, odmerged, .func (PySem.W.fnOf "merged" "merged" (defArgs s_merged) (defBody s_merged) (defScope s_merged) .none kVmerged dcmerged pmmerged anmerged cdmerged ctmerged), slmerged⟩)
    (c_merged : PySem.W.codeIn K cdmerged "merged" = true)
    (k_merged : PySem.W.keepIn K (.ref f_merged) = true)
    (a_h_mixed : PySem.W.nsIn K mainGlobals "_law_mixed" = some (some (.ref f_h_mixed)))
    (l_h_mixed : K.lookup f_h_mixed = some ⟨och_mixed, odh_mixed, .func (PySem.W.fnOf "_law_mixed" "_law_mixed" (defArgs s_h_mixed) (defBody s_h_mixed) (defScope s_h_mixed) .none kVh_mixed dch_mixed pmh_mixed anh_mixed cdh_mixed cth_mixed), slh_mixed⟩)
    (c_h_mixed : PySem.W.codeIn K cdh_mixed "_law_mixed" = true)
    (k_h_mixed : PySem.W.keepIn K (.ref f_h_mixed) = true)
    (a_h_name_rows : PySem.W.nsIn K mainGlobals "_law_name_rows" = some (some (.ref f_h_name_rows)))
    (l_h_name_rows : K.lookup f_h_name_rows = some ⟨och_name_rows, odh_name_rows, .func (PySem.W.fnOf "_law_name_rows" "_law_name_rows" (defArgs s_h_name_rows) (defBody s_h_name_rows) (defScope s_h_name_rows) .none kVh_name_rows dch_name_rows pmh_name_rows anh_name_rows cdh_name_rows cth_name_rows), slh_name_rows⟩)
    (c_h_name_rows : PySem.W.codeIn K cdh_name_rows "_law_name_rows" = true)
    (k_h_name_rows : PySem.W.keepIn K (.ref f_h_name_rows) = true)
    (a_h_merged_by : PySem.W.nsIn K mainGlobals "_law_merged_by" = some (some (.ref f_h_merged_by)))
    (l_h_merged_by : K.lookup f_h_merged_by = some ⟨och_merged_by, odh_merged_by, .func (PySem.W.fnOf "_law_merged_by" "_law_merged_by" (defArgs s_h_merged_by) (defBody s_h_merged_by) (defScope s_h_merged_by) .none kVh_merged_by dch_merged_by pmh_merged_by anh_merged_by cdh_merged_by cth_merged_by), slh_merged_by⟩)
    (c_h_merged_by : PySem.W.codeIn K cdh_merged_by "_law_merged_by" = true)
    (k_h_merged_by : PySem.W.keepIn K (.ref f_h_merged_by) = true)
    (a_h_named_anew : PySem.W.nsIn K mainGlobals "_law_named_anew" = some (some (.ref f_h_named_anew)))
    (l_h_named_anew : K.lookup f_h_named_anew = some ⟨och_named_anew, odh_named_anew, .func (PySem.W.fnOf "_law_named_anew" "_law_named_anew" (defArgs s_h_named_anew) (defBody s_h_named_anew) (defScope s_h_named_anew) .none kVh_named_anew dch_named_anew pmh_named_anew anh_named_anew cdh_named_anew cth_named_anew), slh_named_anew⟩)
    (c_h_named_anew : PySem.W.codeIn K cdh_named_anew "_law_named_anew" = true)
    (k_h_named_anew : PySem.W.keepIn K (.ref f_h_named_anew) = true)
    (a_law : PySem.W.nsIn K mainGlobals "law" = some (some (.ref f_law)))
    (l_law : K.lookup f_law = some ⟨oclaw, odlaw, .func (PySem.W.fnOf "law" "law" (defArgs s_law) (defBody s_law) (defScope s_law) .none kVlaw dclaw pmlaw anlaw cdlaw ctlaw), sllaw⟩)
    (c_law : PySem.W.codeIn K cdlaw "law" = true)
    (k_law : PySem.W.keepIn K (.ref f_law) = true)
    (z_len : PySem.W.nsIn K mainGlobals "len" = some none)
    (z_isinstance : PySem.W.nsIn K mainGlobals "isinstance" = some none)
    (z_str : PySem.W.nsIn K mainGlobals "str" = some none)
    (z_tuple : PySem.W.nsIn K mainGlobals "tuple" = some none)
    (z_all : PySem.W.nsIn K mainGlobals "all" = some none)
    (z_set : PySem.W.nsIn K mainGlobals "set" = some none)
    (z_list : PySem.W.nsIn K mainGlobals "list" = some none)
    (z_range : PySem.W.nsIn K mainGlobals "range" = some none)
    (z_enumerate : PySem.W.nsIn K mainGlobals "enumerate" = some none)
    (z_max : PySem.W.nsIn K mainGlobals "max" = some none)
    (z_min : PySem.W.nsIn K mainGlobals "min" = some none)
    (mm_LONGEST_NAME : PySem.W.nsIn K mainGlobals "_LONGEST_NAME" = some (some (.int 8 t_LONGEST_NAME))) :
    ∃ fd : FuncData, (∀ (s : Shared) (v : Value), BindsTo s fd ⟨[v], []⟩ [("_law_script", v)]) ∧ ∀ base : Heap, K.In base → base.Ns mainGlobals mg → RunsG l.prog w K mg base CX0 7 fa fd ["_law_script"] (spLaw0 K) := by
  have e := hfa.symm.trans (PySem.W.mg_of X G a_law)
  cases e
  have F_h_source := fun_mk (st := s_h_source) l_h_source c_h_source k_h_source
  have b_h_source := F_h_source.binds (ps := ["_law_script", "_law_k"]) fun _ _ _ _ _ _ us hl => match us, hl with | [_, _], _ => rfl
  have F_h_next := fun_mk (st := s_h_next) l_h_next c_h_next k_h_next
  have b_h_next := F_h_next.binds (ps := ["_law_source_here", "_law_many"]) fun _ _ _ _ _ _ us hl => match us, hl with | [_, _], _ => rfl
  have F_is_name := fun_mk (st := s_is_name) l_is_name c_is_name k_is_name
  have b_is_name := F_is_name.binds (ps := ["thing"]) fun _ _ _ _ _ _ us hl => match us, hl with | [_], _ => rfl
  have F_are_names := fun_mk (st := s_are_names) l_are_names c_are_names k_are_names
  have b_are_names := F_are_names.binds (ps := ["thing"]) fun _ _ _ _ _ _ us hl => match us, hl with | [_], _ => rfl
  have F_are_different_names := fun_mk (st := s_are_different_names) l_are_different_names c_are_different_names k_are_different_names
  have b_are_different_names := F_are_different_names.binds (ps := ["thing"]) fun _ _ _ _ _ _ us hl => match us, hl with | [_], _ => rfl
  have F_Merge__prepare := fun_mk (st := s_Merge__prepare) l_Merge__prepare c_Merge__prepare k_Merge__prepare
  have b_Merge__prepare := F_Merge__prepare.binds (ps := ["self", "name"]) fun _ _ _ _ _ _ us hl => match us, hl with | [_, _], _ => rfl
  have F_Merge__advance := fun_mk (st := s_Merge__advance) l_Merge__advance c_Merge__advance k_Merge__advance
  have b_Merge__advance := F_Merge__advance.binds (ps := ["self", "index"]) fun _ _ _ _ _ _ us hl => match us, hl with | [_, _], _ => rfl
  have F_Merge_drop := fun_mk (st := s_Merge_drop) l_Merge_drop c_Merge_drop k_Merge_drop
  have b_Merge_drop := F_Merge_drop.binds (ps := ["self", "name"]) fun _ _ _ _ _ _ us hl => match us, hl with | [_, _], _ => rfl
  have F_Merge_draw := fun_mk (st := s_Merge_draw) l_Merge_draw c_Merge_draw k_Merge_draw
  have b_Merge_draw := F_Merge_draw.binds (ps := ["self"]) fun _ _ _ _ _ _ us hl => match us, hl with | [_], _ => rfl
  have F_places := fun_mk (st := s_places) l_places c_places k_places
  have b_places := F_places.binds (ps := ["rows"]) fun _ _ _ _ _ _ us hl => match us, hl with | [_], _ => rfl
  have F_Merge___init := fun_mk (st := s_Merge___init) l_Merge___init c_Merge___init k_Merge___init
  have b_Merge___init := F_Merge___init.binds (ps := ["self", "rows"]) fun _ _ _ _ _ _ us hl => match us, hl with | [_, _], _ => rfl
  have F_check_tuples := fun_mk (st := s_check_tuples) l_check_tuples c_check_tuples k_check_tuples
  have b_check_tuples := F_check_tuples.binds (ps := ["tuples"]) fun _ _ _ _ _ _ us hl => match us, hl with | [_], _ => rfl
  have F_merged := fun_mk (st := s_merged) l_merged c_merged k_merged
  have F_h_mixed := fun_mk (st := s_h_mixed) l_h_mixed c_h_mixed k_h_mixed
  have b_h_mixed := F_h_mixed.binds (ps := ["_law_source_here", "_law_items"]) fun _ _ _ _ _ _ us hl => match us, hl with | [_, _], _ => rfl
  have F_h_name_rows := fun_mk (st := s_h_name_rows) l_h_name_rows c_h_name_rows k_h_name_rows
  have b_h_name_rows := F_h_name_rows.binds (ps := ["_law_source_here", "_law_many", "_law_most", "_law_is_free"]) fun _ _ _ _ _ _ us hl => match us, hl with | [_, _, _, _], _ => rfl
  have F_h_merged_by := fun_mk (st := s_h_merged_by) l_h_merged_by c_h_merged_by k_h_merged_by
  have b_h_merged_by := F_h_merged_by.binds (ps := ["_law_rows"]) fun _ _ _ _ _ _ us hl => match us, hl with | [_], _ => rfl
  have F_h_named_anew := fun_mk (st := s_h_named_anew) l_h_named_anew c_h_named_anew k_h_named_anew
  have b_h_named_anew := F_h_named_anew.binds (ps := ["_law_row"]) fun _ _ _ _ _ _ us hl => match us, hl with | [_], _ => rfl
  have F_law := fun_mk (st := s_law) l_law c_law k_law
  have T : Txt mg := ⟨PySem.W.mg_none_of X G z_len, PySem.W.mg_none_of X G z_isinstance, PySem.W.mg_none_of X G z_str, PySem.W.mg_none_of X G z_tuple, PySem.W.mg_none_of X G z_all, PySem.W.mg_none_of X G z_set, PySem.W.mg_none_of X G z_list, PySem.W.mg_none_of X G z_range, PySem.W.mg_none_of X G z_enumerate, PySem.W.mg_none_of X G z_max, PySem.W.mg_none_of X G z_min⟩
  have m_LONGEST_NAME := PySem.W.mg_of X G mm_LONGEST_NAME
  refine ⟨PySem.W.fnOf "law" "law" (defArgs s_law) (defBody s_law) (defScope s_law) .none kVlaw dclaw pmlaw anlaw cdlaw ctlaw, fun s v => .of_eq rfl, fun base _ _ => ?_⟩
  have K_Merge : Kl K mg "Merge" C_Merge ["rows", "places", "gone", "heads", "behind", "ready"] := ⟨⟨pg_Merge, hd_Merge, po_Merge, sa_Merge⟩, PySem.W.mg_of X G a_Merge, (List.forall_mem_cons.mpr ⟨nf_Merge_rows, (List.forall_mem_cons.mpr ⟨nf_Merge_places, (List.forall_mem_cons.mpr ⟨nf_Merge_gone, (List.forall_mem_cons.mpr ⟨nf_Merge_heads, (List.forall_mem_cons.mpr ⟨nf_Merge_behind, (List.forall_mem_cons.mpr ⟨nf_Merge_ready, (fun _ h => nomatch h)⟩)⟩)⟩)⟩)⟩)⟩)⟩
  have D_h_source : Dn l.prog w K mg base CX0 1 "_law_source" ["_law_script", "_law_k"] (spSource K) := ⟨f_h_source, _, k_h_source, b_h_source, PySem.W.mg_of X G a_h_source, ok_h_source F_h_source T⟩
  have D_h_next : Dn l.prog w K mg base CX0 1 "_law_next" ["_law_source_here", "_law_many"] (spNext) := ⟨f_h_next, _, k_h_next, b_h_next, PySem.W.mg_of X G a_h_next, ok_h_next F_h_next T⟩
  have D_is_name : Dn l.prog w K mg base CX0 1 "is_name" ["thing"] (spName K) := ⟨f_is_name, _, k_is_name, b_is_name, PySem.W.mg_of X G a_is_name, ok_is_name F_is_name T m_LONGEST_NAME⟩
  have D_are_names : Dn l.prog w K mg base CX0 2 "are_names" ["thing"] (spOf K namesV) := ⟨f_are_names, _, k_are_names, b_are_names, PySem.W.mg_of X G a_are_names, ok_are_names F_are_names T D_is_name⟩
  have D_are_different_names : Dn l.prog w K mg base CX0 3 "are_different_names" ["thing"] (spOf K diffOf) := ⟨f_are_different_names, _, k_are_different_names, b_are_different_names, PySem.W.mg_of X G a_are_different_names, ok_are_different_names F_are_different_names T D_are_names⟩
  have D_Merge__prepare : Mn l.prog w K mg base CX0 1 C_Merge "_prepare" ["self", "name"] (spPrepare C_Merge) := ⟨f_Merge__prepare, _, ⟨a_Merge__prepare, if_Merge__prepare, k_Merge__prepare⟩, b_Merge__prepare, ok_Merge__prepare F_Merge__prepare T K_Merge⟩
  have D_Merge__advance : Mn l.prog w K mg base CX0 2 C_Merge "_advance" ["self", "index"] (spAdvance C_Merge) := ⟨f_Merge__advance, _, ⟨a_Merge__advance, if_Merge__advance, k_Merge__advance⟩, b_Merge__advance, ok_Merge__advance F_Merge__advance T K_Merge D_Merge__prepare⟩
  have D_Merge_drop : Mn l.prog w K mg base CX0 3 C_Merge "drop" ["self", "name"] (spDrop C_Merge) := ⟨f_Merge_drop, _, ⟨a_Merge_drop, if_Merge_drop, k_Merge_drop⟩, b_Merge_drop, ok_Merge_drop F_Merge_drop T K_Merge D_Merge__advance⟩
  have D_Merge_draw : Mn l.prog w K mg base CX0 4 C_Merge "draw" ["self"] (spDraw C_Merge) := ⟨f_Merge_draw, _, ⟨a_Merge_draw, if_Merge_draw, k_Merge_draw⟩, b_Merge_draw, ok_Merge_draw F_Merge_draw T K_Merge D_Merge_drop⟩
  have D_places : Dn l.prog w K mg base CX0 1 "_places" ["rows"] (spPlaces) := ⟨f_places, _, k_places, b_places, PySem.W.mg_of X G a_places, ok_places F_places T⟩
  have D_Merge___init : Mi l.prog w K mg base CX0 2 C_Merge ["self", "rows"] (spMInit C_Merge) := ⟨f_Merge___init, _, ⟨mk_Merge, a_Merge___init, if_Merge___init, kc_Merge⟩, b_Merge___init, ok_Merge___init F_Merge___init T K_Merge D_Merge__prepare D_places⟩
  have D_check_tuples : Dn l.prog w K mg base CX0 4 "_check_tuples" ["tuples"] (spCheck) := ⟨f_check_tuples, _, k_check_tuples, b_check_tuples, PySem.W.mg_of X G a_check_tuples, ok_check_tuples F_check_tuples T D_are_different_names⟩
  have D_merged : Dr l.prog w K mg base CX0 5 "merged" (spStar (spMerged)) := ⟨f_merged, k_merged, PySem.W.mg_of X G a_merged, ok_merged F_merged T K_Merge D_Merge_draw D_Merge___init D_check_tuples⟩
  have D_h_mixed : Dn l.prog w K mg base CX0 2 "_law_mixed" ["_law_source_here", "_law_items"] (spMixed) := ⟨f_h_mixed, _, k_h_mixed, b_h_mixed, PySem.W.mg_of X G a_h_mixed, ok_h_mixed F_h_mixed T D_h_next⟩
  have D_h_name_rows : Dn l.prog w K mg base CX0 3 "_law_name_rows" ["_law_source_here", "_law_many", "_law_most", "_law_is_free"] (spRowsF) := ⟨f_h_name_rows, _, k_h_name_rows, b_h_name_rows, PySem.W.mg_of X G a_h_name_rows, ok_h_name_rows F_h_name_rows T D_h_next D_h_mixed⟩
  have D_h_merged_by : Dn l.prog w K mg base CX0 6 "_law_merged_by" ["_law_rows"] (spBy) := ⟨f_h_merged_by, _, k_h_merged_by, b_h_merged_by, PySem.W.mg_of X G a_h_merged_by, ok_h_merged_by F_h_merged_by T D_merged⟩
  have D_h_named_anew : Dn l.prog w K mg base CX0 1 "_law_named_anew" ["_law_row"] (spNamed) := ⟨f_h_named_anew, _, k_h_named_anew, b_h_named_anew, PySem.W.mg_of X G a_h_named_anew, ok_h_named_anew F_h_named_anew T⟩
  exact ok_law F_law T D_h_source D_h_next D_merged D_h_name_rows D_h_merged_by D_h_named_anew
end K07
open PySem PySem.W PyProof.Rows
set_option maxRecDepth 100000 in
set_option maxHeartbeats 0 in
theorem PySem.Challenge.cw_nextbehind_k07_merges_related_holds : PySem.Challenge.rw_nextbehind_k07_merges_related.Holds := by
  w_on; o_law; k_head; (case hw => w_witness2)
  k_fill
  refine Nb.walk_ofG (l := PySem.Challenge.rw_nextbehind_k07_merges_related) (n := 63) (k := 7) (x := "_law_script") (CX := fun _ => L2.CX0) (sp := fun w => Nb.spLaw0 _) rfl (by decide) rfl ⟨rfl, by decide, by decide⟩ (fun w h Y => PySem.W.kIn_of Y) ?F (fun _ _ a ns hl _ hS => ⟨a, ns, rfl, hS, hl, fun _ => rfl⟩) (fun _ _ _ _ _ h => h)
  case F =>
    intro w mg fa h KX G hmg
    refine' K07.all_mk KX G hmg ?a_Merge ?pg_Merge ?hd_Merge ?po_Merge ?sa_Merge ?nf_Merge_rows ?nf_Merge_places ?nf_Merge_gone ?nf_Merge_heads ?nf_Merge_behind ?nf_Merge_ready ?mk_Merge ?kc_Merge ?a_h_source ?l_h_source ?c_h_source ?k_h_source ?a_h_next ?l_h_next ?c_h_next ?k_h_next ?a_is_name ?l_is_name ?c_is_name ?k_is_name ?a_are_names ?l_are_names ?c_are_names ?k_are_names ?a_are_different_names ?l_are_different_names ?c_are_different_names ?k_are_different_names ?a_Merge__prepare ?if_Merge__prepare ?l_Merge__prepare ?c_Merge__prepare ?k_Merge__prepare ?a_Merge__advance ?if_Merge__advance ?l_Merge__advance ?c_Merge__advance ?k_Merge__advance ?a_Merge_drop ?if_Merge_drop ?l_Merge_drop ?c_Merge_drop ?k_Merge_drop ?a_Merge_draw ?if_Merge_draw ?l_Merge_draw ?c_Merge_draw ?k_Merge_draw ?a_places ?l_places ?c_places ?k_places ?a_Merge___init ?if_Merge___init ?l_Merge___init ?c_Merge___init ?k_Merge___init ?a_check_tuples ?l_check_tuples ?c_check_tuples ?k_check_tuples ?a_merged ?l_merged ?c_merged ?k_merged ?a_h_mixed ?l_h_mixed ?c_h_mixed ?k_h_mixed ?a_h_name_rows ?l_h_name_rows ?c_h_name_rows ?k_h_name_rows ?a_h_merged_by ?l_h_merged_by ?c_h_merged_by ?k_h_merged_by ?a_h_named_anew ?l_h_named_anew ?c_h_named_anew ?k_h_named_anew ?a_law ?l_law ?c_law ?k_law ?z_len ?z_isinstance ?z_str ?z_tuple ?z_all ?z_set ?z_list ?z_range ?z_enumerate ?z_max ?z_min ?mm_LONGEST_NAME
    (case a_Merge => k_is)
    (case pg_Merge => kernel_rfl)
    (case hd_Merge => kernel_rfl)
    (case po_Merge => kernel_rfl)
    (case sa_Merge => k_is)
    (case nf_Merge_rows => k_is)
    (case nf_Merge_places => k_is)
    (case nf_Merge_gone => k_is)
    (case nf_Merge_heads => k_is)
    (case nf_Merge_behind => k_is)
    (case nf_Merge_ready => k_is)
    (case mk_Merge => kernel_rfl)
    (case kc_Merge => k_is)
    (case a_h_source => k_is)
    (case l_h_source => k_is)
    (case c_h_source => k_is)
    (case k_h_source => k_is)
    (case a_h_next => k_is)
    (case l_h_next => k_is)
    (case c_h_next => k_is)
    (case k_h_next => k_is)
    (case a_is_name => k_is)
    (case l_is_name => k_is)
    (case c_is_name => k_is)
    (case k_is_name => k_is)
    (case a_are_names => k_is)
    (case l_are_names => k_is)
    (case c_are_names => k_is)
    (case k_are_names => k_is)
    (case a_are_different_names => k_is)
    (case l_are_different_names => k_is)
    (case c_are_different_names => k_is)
    (case k_are_different_names => k_is)
    (case a_Merge__prepare => k_is)
    (case if_Merge__prepare => kernel_rfl)
    (case l_Merge__prepare => k_is)
    (case c_Merge__prepare => k_is)
    (case k_Merge__prepare => k_is)
    (case a_Merge__advance => k_is)
    (case if_Merge__advance => kernel_rfl)
    (case l_Merge__advance => k_is)
    (case c_Merge__advance => k_is)
    (case k_Merge__advance => k_is)
    (case a_Merge_drop => k_is)
    (case if_Merge_drop => kernel_rfl)
    (case l_Merge_drop => k_is)
    (case c_Merge_drop => k_is)
    (case k_Merge_drop => k_is)
    (case a_Merge_draw => k_is)
    (case if_Merge_draw => kernel_rfl)
    (case l_Merge_draw => k_is)
    (case c_Merge_draw => k_is)
    (case k_Merge_draw => k_is)
    (case a_places => k_is)
    (case l_places => k_is)
    (case c_places => k_is)
    (case k_places => k_is)
    (case a_Merge___init => k_is)
    (case if_Merge___init => kernel_rfl)
    (case l_Merge___init => k_is)
    (case c_Merge___init => k_is)
    (case k_Merge___init => k_is)
    (case a_check_tuples => k_is)
    (case l_check_tuples => k_is)
    (case c_check_tuples => k_is)
    (case k_check_tuples => k_is)
    (case a_merged => k_is)
    (case l_merged => k_is)
    (case c_merged => k_is)
    (case k_merged => k_is)
    (case a_h_mixed => k_is)
    (case l_h_mixed => k_is)
    (case c_h_mixed => k_is)
    (case k_h_mixed => k_is)
    (case a_h_name_rows => k_is)
    (case l_h_name_rows => k_is)
    (case c_h_name_rows => k_is)
    (case k_h_name_rows => k_is)
    (case a_h_merged_by => k_is)
    (case l_h_merged_by => k_is)
    (case c_h_merged_by => k_is)
    (case k_h_merged_by => k_is)
    (case a_h_named_anew => k_is)
    (case l_h_named_anew => k_is)
    (case c_h_named_anew => k_is)
    (case k_h_named_anew => k_is)
    (case a_law => k_is)
    (case l_law => k_is)
    (case c_law => k_is)
    (case k_law => k_is)
    (case z_len => k_is)
    (case z_isinstance => k_is)
    (case z_str => k_is)
    (case z_tuple => k_is)
    (case z_all => k_is)
    (case z_set => k_is)
    (case z_list => k_is)
    (case z_range => k_is)
    (case z_enumerate => k_is)
    (case z_max => k_is)
    (case z_min => k_is)
    (case mm_LONGEST_NAME => k_is)
