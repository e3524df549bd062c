/- Trees behind each other; what counts their nodes. -/
import Derived.Test.YtojcncloeikjlabXoFn
import Derived.KernelRfl
namespace Go.AI.T
open Go Go.RowKit Go.AI
set_option linter.unusedVariables false
set_option linter.unusedSimpArgs false
set_option maxRecDepth 100000
noncomputable section
/-- How many brackets open. -/
def ones : List Nat → Nat := @List.rec Nat (fun _ => Nat) 0 (fun c _ n => bc (Nat.beq c 40) (Nat.succ n) n)
theorem ones_cons (c : Nat) (l : List Nat) : ones (c :: l) = bc (Nat.beq c 40) (Nat.succ (ones l)) (ones l) := rfl
theorem scan_app : ∀ (r : List Nat) (e j : Nat), scan r e j = true → ∀ (s : List Nat) (d m : Nat), m ≤ 9 → scan (r ++ s) (e + d + 1) m = bc (Nat.ble (m + ones r) 9) (scan s (d + 1) (m + ones r)) false
  | [], e, j, h, s, d, m, hm => by
    obtain rfl : e = 0 := Nat.eq_of_beq_eq_true h
    show scan s (0 + d + 1) m = bc (Nat.ble m 9) (scan s (d + 1) m) false
    rw [ble_true hm, bc_true, Nat.zero_add]
  | c :: r, 0, j, h, s, d, m, hm => by cases h
  | c :: r, e + 1, j, h, s, d, m, hm => by
    have h : bc (Nat.beq c 41) (scan r e j) (bc (Nat.beq c 40) (bc (Nat.ble (j + 1) 9) (scan r (e + 2) (j + 1)) false) false) = true := h
    have st : scan (c :: r ++ s) (e + 1 + d + 1) m = bc (Nat.beq c 41) (scan (r ++ s) (e + 1 + d) m) (bc (Nat.beq c 40) (bc (Nat.ble (m + 1) 9) (scan (r ++ s) (e + 1 + d + 2) (m + 1)) false) false) := rfl
    rw [st, ones_cons]
    cases h41 : Nat.beq c 41 with
    | true =>
      obtain rfl := Nat.eq_of_beq_eq_true h41
      rw [h41, bc_true] at h
      rw [bc_true, show e + 1 + d = e + d + 1 by omega, scan_app r e j h s d m hm, show Nat.beq 41 40 = false from rfl, bc_false]
    | false =>
      rw [h41, bc_false] at h
      rw [bc_false]
      cases h40 : Nat.beq c 40 with
      | false => rw [h40] at h; cases h
      | true =>
        rw [h40, bc_true] at h
        cases hj : Nat.ble (j + 1) 9 with
        | false => rw [hj] at h; cases h
        | true =>
          rw [hj, bc_true] at h
          rw [bc_true, bc_true, show m + Nat.succ (ones r) = m + 1 + ones r by omega]
          by_cases h9 : m + 1 ≤ 9
          · rw [ble_true h9, bc_true, show e + 1 + d + 2 = (e + 2) + d + 1 by omega]
            exact scan_app r (e + 2) (j + 1) h s d (m + 1) h9
          · rw [ble_false (by omega), bc_false, ble_false (show 9 < m + 1 + ones r by omega), bc_false]
theorem scan_tree {k : List Nat} (ht : isTree k = true) (s : List Nat) (d m : Nat) (hm : m ≤ 9) : scan (k ++ s) (d + 1) m = bc (Nat.ble (m + ones k) 9) (scan s (d + 1) (m + ones k)) false := by
  cases k with
  | nil => cases ht
  | cons c r =>
    have h : bc (Nat.beq c 40) (scan r 1 1) false = true := ht
    cases h40 : Nat.beq c 40 with
    | false => rw [h40] at h; cases h
    | true =>
      rw [h40, bc_true] at h
      obtain rfl := Nat.eq_of_beq_eq_true h40
      have st : scan (40 :: r ++ s) (d + 1) m = bc (Nat.ble (m + 1) 9) (scan (r ++ s) (d + 2) (m + 1)) false := rfl
      rw [st, ones_cons, show Nat.beq 40 40 = true from rfl, bc_true, show m + Nat.succ (ones r) = m + 1 + ones r by omega]
      by_cases h9 : m + 1 ≤ 9
      · rw [ble_true h9, bc_true, show d + 2 = 1 + d + 1 by omega]
        exact scan_app r 1 1 h s d (m + 1) h9
      · rw [ble_false (by omega), bc_false, ble_false (show 9 < m + 1 + ones r by omega), bc_false]
def total : List (List Nat) → Nat
  | [] => 0
  | k :: t => ones k + total t
def flat : List (List Nat) → List Nat
  | [] => []
  | k :: t => k ++ flat t
theorem scan_flat : ∀ (ks : List (List Nat)), ks.all isTree = true → ∀ m, m ≤ 9 → scan (flat ks ++ [41]) 1 m = Nat.ble (m + total ks) 9
  | [], _, m, hm => by
    show scan [] 0 m = Nat.ble (m + 0) 9
    rw [Nat.add_zero, ble_true hm]; rfl
  | k :: t, h, m, hm => by
    have h : (isTree k && t.all isTree) = true := h
    simp at h
    show scan (k ++ flat t ++ [41]) (0 + 1) m = Nat.ble (m + (ones k + total t)) 9
    rw [List.append_assoc, scan_tree h.1 _ 0 m hm]
    by_cases h9 : m + ones k ≤ 9
    · rw [ble_true h9, bc_true, scan_flat t (by simpa using h.2) _ h9, Nat.add_assoc]
    · rw [ble_false (by omega), bc_false, ble_false (by omega)]
/-- The trees behind each other within brackets. -/
def inB2 (ks : List (List Nat)) : List Nat := 40 :: (flat ks ++ [41])
theorem tree_inB2 {ks : List (List Nat)} (h : ks.all isTree = true) : isTree (inB2 ks) = Nat.ble (1 + total ks) 9 := scan_flat ks h 1 (by omega)
theorem ones_pos {k : List Nat} (ht : isTree k = true) : 1 ≤ ones k := by
  cases k with
  | nil => cases ht
  | cons c r =>
    have h : bc (Nat.beq c 40) (scan r 1 1) false = true := ht
    cases h40 : Nat.beq c 40 with
    | false => rw [h40] at h; cases h
    | true => rw [ones_cons, h40, bc_true]; omega
theorem ones_le : ∀ (r : List Nat) (d m : Nat), m ≤ 9 → scan r d m = true → m + ones r ≤ 9
  | [], d, m, hm, h => hm
  | c :: r, 0, m, hm, h => by cases h
  | c :: r, d + 1, m, hm, h => by
    have h : bc (Nat.beq c 41) (scan r d m) (bc (Nat.beq c 40) (bc (Nat.ble (m + 1) 9) (scan r (d + 2) (m + 1)) false) false) = true := h
    rw [ones_cons]
    cases h41 : Nat.beq c 41 with
    | true =>
      obtain rfl := Nat.eq_of_beq_eq_true h41
      rw [h41, bc_true] at h
      exact ones_le r d m hm h
    | false =>
      rw [h41, bc_false] at h
      cases h40 : Nat.beq c 40 with
      | false => rw [h40] at h; cases h
      | true =>
        rw [h40, bc_true] at h
        cases h9 : Nat.ble (m + 1) 9 with
        | false => rw [h9] at h; cases h
        | true =>
          rw [h9, bc_true] at h
          have := ones_le r (d + 2) (m + 1) (Nat.le_of_ble_eq_true h9) h
          rw [bc_true]; omega
theorem ones_tree {k : List Nat} (ht : isTree k = true) : ones k ≤ 9 := by
  cases k with
  | nil => cases ht
  | cons c r =>
    have h : bc (Nat.beq c 40) (scan r 1 1) false = true := ht
    cases h40 : Nat.beq c 40 with
    | false => rw [h40] at h; cases h
    | true =>
      rw [h40, bc_true] at h
      have := ones_le r 1 1 (by omega) h
      rw [ones_cons, h40, bc_true]; omega
/-- The count of nodes, told. -/
def isNilW (e : AV) : Bool := e.onLeaf false fun e => @Leaf.rec (fun _ => Bool) false false false false false false true (fun _ => false) (fun _ _ _ _ => false) e
theorem isNilW_eq {e : AV} (h : isNilW e = true) : e = .leaf .nil := by cases e using AV.casesE <;> first | rfl | cases h
theorem onTup_someW {α : Type} {x : AV} {f : AV → Option α} {r : α} (e : x.onTup none f = some r) : ∃ a, x = .one .tup a ∧ f a = some r := by
  cases x using AV.casesE <;> first | (cases e; done) | exact ⟨_, rfl, e⟩
theorem onCons_someW {α : Type} {x : AV} {f : AV → AV → Option α} {r : α} (e : x.onCons none f = some r) : ∃ a t, x = .cons a t ∧ f a t = some r := by
  cases x using AV.casesE <;> first | (cases e; done) | exact ⟨_, _, rfl, e⟩
theorem bc_someW {α : Type} {b : Bool} {x : Option α} {r : α} (e : bc b x none = some r) : b = true ∧ x = some r := by
  cases b with
  | true => exact ⟨rfl, e⟩
  | false => cases e
def getN (v : AV) (n : Nat) : Option Nat := v.onTup none fun y => y.onCons none fun a z => withInt a fun k i => bc (Nat.beq k 3) (bc (ieq i (.ofNat n)) (z.onCons none fun b w => withBool b fun t => bc t (bc (isNilW w) (some n) none) none) none) none
def isN (x : Option R) (n : Nat) : Bool := @Option.rec R (fun _ => Bool) false (fun r => @Option.rec Nat (fun _ => Bool) false (fun _ => true) (getN r.1 n)) x
theorem isN_some {x : Option R} {n : Nat} (e : isN x n = true) : ∃ h', x = some (.one .tup (.cons (nI n) (.cons (.bool true) (.leaf .nil))), h') := by
  cases x with
  | none => cases e
  | some r =>
    obtain ⟨v, h'⟩ := r
    have e : (@Option.rec Nat (fun _ => Bool) false (fun _ => true) (getN v n)) = true := e
    cases hg : getN v n with
    | none => rw [hg] at e; cases e
    | some m =>
      unfold getN at hg
      obtain ⟨y, rfl, g1⟩ := onTup_someW hg
      obtain ⟨a, z, rfl, g2⟩ := onCons_someW g1
      obtain ⟨k, i, rfl, g3⟩ := withInt_some g2
      obtain ⟨hk, g4⟩ := bc_someW g3
      obtain ⟨hi, g5⟩ := bc_someW g4
      obtain ⟨b, w, rfl, g6⟩ := onCons_someW g5
      obtain ⟨t, rfl, g7⟩ := withBool_some g6
      obtain ⟨rfl, g8⟩ := bc_someW g7
      obtain ⟨hw, _⟩ := bc_someW g8
      obtain rfl := Nat.eq_of_beq_eq_true hk
      rw [ieq_eq] at hi
      obtain rfl := of_decide_eq_true hi
      obtain rfl := isNilW_eq hw
      exact ⟨h', rfl⟩
def okN (l : List Nat) : Bool := isN (Go.AI.V.c_impl_TreeNodes 20000 20 (.str l (lenL l)) H0) (ones l)
end
end Go.AI.T
