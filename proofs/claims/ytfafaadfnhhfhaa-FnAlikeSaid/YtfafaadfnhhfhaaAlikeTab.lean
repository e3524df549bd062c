/- What is told of one tree: in order, its height, its leaves. -/
import Derived.Test.YtfafaadfnhhfhaaAlikeFn
namespace Go.AI.K
open Go Go.RowKit Go.AI
set_option linter.unusedVariables false
set_option linter.unusedSimpArgs false
set_option maxRecDepth 100000
noncomputable section
def strA (y : AV) (k : List Nat → Bool) : Bool := y.onStr false fun t n => bc (Nat.beq (lenL t) n) (k t) false
def natA (y : AV) (k : Nat → Bool) : Bool := y.onInt false fun d v => bc (Nat.beq d 3) (@Int.rec (fun _ => Bool) (fun v => k v) (fun _ => false) v) false
def strR (x : Option R) (k : List Nat → Bool) : Bool := @Option.rec R (fun _ => Bool) false (fun r => strA r.1 k) x
def okV (x : Option R) (k : AV → Bool) : Bool := @Option.rec R (fun _ => Bool) false (fun r => r.1.onTup false fun x => x.onCons false fun y z => z.onCons false fun b e => b.onBool false fun b => bc b (bc (Go.AI.O.isNilA e) (k y) false) false) x
/-- One tree's trial. -/
def okT (l : List Nat) : Bool := bc (Nat.ble (lenL l) 14)
  (strR (Go.AI.c_spec_l1Sorted 20000 20 (.str l (lenL l)) H0) fun x =>
   okV (Go.AI.T.c_impl_TreeSorted 20000 20 (.str l (lenL l)) H0) fun y => strA y fun y => bc (eqL x y)
   (okV (Go.AI.T.c_impl_TreeHeight 20000 20 (.str l (lenL l)) H0) fun a => natA a fun a => okV (Go.AI.T.c_impl_TreeHeight 20000 20 (.str x (lenL x)) H0) fun b => natA b fun b => bc (Nat.beq a b)
   (okV (Go.AI.T.c_impl_TreeLeaves 20000 20 (.str l (lenL l)) H0) fun a => natA a fun a => okV (Go.AI.T.c_impl_TreeLeaves 20000 20 (.str x (lenL x)) H0) fun b => natA b fun b => Nat.beq a b) false) false) true
def srt (l : List Nat) : List Nat := @Option.rec R (fun _ => List Nat) [] (fun r => r.1.onStr [] fun t _ => t) (Go.AI.c_spec_l1Sorted 20000 20 (.str l l.length) H0)
def num (x : Option R) : Nat := @Option.rec R (fun _ => Nat) 0 (fun r => r.1.onTup 0 fun x => x.onCons 0 fun y _ => y.onInt 0 fun _ v => @Int.rec (fun _ => Nat) (fun v => v) (fun _ => 0) v) x
def hgt (x : List Nat) : Nat := num (Go.AI.T.c_impl_TreeHeight 20000 20 (.str x x.length) H0)
def lvs (x : List Nat) : Nat := num (Go.AI.T.c_impl_TreeLeaves 20000 20 (.str x x.length) H0)
theorem bc_and {p q : Bool} (h : bc p q false = true) : p = true ∧ q = true := by
  cases p with
  | true => exact ⟨rfl, h⟩
  | false => cases h
theorem eqL_to : ∀ {x y : List Nat}, eqL x y = true → x = y
  | [], [], _ => rfl
  | [], _ :: _, h => by cases h
  | _ :: _, [], h => by cases h
  | a :: x, b :: y, h => by
    rw [eqL_cons] at h
    obtain ⟨h1, h2⟩ := bc_and h
    rw [Nat.eq_of_beq_eq_true h1, eqL_to h2]
theorem eqL_comm : ∀ (x y : List Nat), eqL x y = eqL y x
  | [], [] => rfl
  | [], _ :: _ => rfl
  | _ :: _, [] => rfl
  | a :: x, b :: y => by
    rw [eqL_cons, eqL_cons, eqL_comm x y]
    cases h : Nat.beq a b with
    | true => rw [Nat.eq_of_beq_eq_true h, Nat.beq_refl]
    | false =>
      cases h' : Nat.beq b a with
      | true => rw [Nat.eq_of_beq_eq_true h', Nat.beq_refl] at h; cases h
      | false => rfl
theorem strA_eq {y : AV} {k : List Nat → Bool} (h : strA y k = true) : ∃ t : List Nat, y = .str t t.length ∧ k t = true := by
  cases y using AV.casesE <;> first | (cases h; done) | skip
  rename_i t n
  obtain ⟨h1, h2⟩ := bc_and (p := Nat.beq (lenL t) n) (q := k t) h
  have h1 := Nat.eq_of_beq_eq_true h1
  rw [lenL_eq] at h1
  subst h1
  exact ⟨t, rfl, h2⟩
theorem natA_eq {y : AV} {k : Nat → Bool} (h : natA y k = true) : ∃ v : Nat, y = .int 3 (.ofNat v) ∧ k v = true := by
  cases y using AV.casesE <;> first | (cases h; done) | skip
  rename_i d v
  cases v with
  | negSucc v => obtain ⟨_, h2⟩ := bc_and (p := Nat.beq d 3) (q := false) h; cases h2
  | ofNat v =>
    obtain ⟨h1, h2⟩ := bc_and (p := Nat.beq d 3) (q := k v) h
    rw [Nat.eq_of_beq_eq_true h1]
    exact ⟨v, rfl, h2⟩
theorem strR_eq {x : Option R} {k : List Nat → Bool} (h : strR x k = true) : ∃ (t : List Nat) (h' : H), x = some (.str t t.length, h') ∧ k t = true := by
  cases x with
  | none => cases h
  | some r =>
    obtain ⟨v, h'⟩ := r
    obtain ⟨t, rfl, h2⟩ := strA_eq (y := v) h
    exact ⟨t, h', rfl, h2⟩
theorem okV_eq {x : Option R} {k : AV → Bool} (h : okV x k = true) : ∃ (y : AV) (h' : H), x = some (.one .tup (.cons y (.cons (.bool true) (.leaf .nil))), h') ∧ k y = true := by
  cases x with
  | none => cases h
  | some r =>
    obtain ⟨v, h'⟩ := r
    cases v using AV.casesE <;> first | (cases h; done) | skip
    rename_i x
    cases x <;> first | (cases h; done) | skip
    rename_i y z
    cases z <;> first | (cases h; done) | skip
    rename_i b e
    cases b <;> first | (cases h; done) | skip
    rename_i b
    obtain ⟨rfl, h1⟩ := bc_and (p := b) (q := bc (Go.AI.O.isNilA e) (k y) false) h
    obtain ⟨h2, h3⟩ := bc_and h1
    obtain rfl := Go.AI.O.isNilA_eq h2
    exact ⟨y, h', rfl, h3⟩
end
end Go.AI.K
