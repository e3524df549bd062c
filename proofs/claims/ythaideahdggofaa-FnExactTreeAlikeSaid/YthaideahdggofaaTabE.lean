/- Every tree's sorted text, as the two functions tell it. -/
import Derived.Test.YthaideahdggofaaBadE
import Derived.KernelRfl
import Derived.Test.YthaideahdggofaaAiF

namespace Go.AI
open Go Go.RowKit
noncomputable section
set_option linter.unusedVariables false
set_option linter.unusedSimpArgs false
set_option maxRecDepth 100000

theorem scan_endAt : ∀ (r : List Nat) (d m i : Nat), m ≤ 9 → scan r (d + 1) m = true → endAt r (d + 1) i = some (i + r.length) ∧ r.length + 2 * m ≤ 18 + (d + 1)
  | [], d, m, i, _, h => by cases h
  | c :: r, d, m, i, hm, h => by
    simp only [scan] at h
    by_cases h41 : c = 41
    · subst h41
      have h : scan r d m = true := h
      cases d with
      | zero =>
        cases r with
        | nil => exact ⟨rfl, by simp; omega⟩
        | cons a r => cases h
      | succ d =>
        obtain ⟨h1, h2⟩ := scan_endAt r d m (i + 1) hm h
        refine ⟨?_, by simp only [List.length_cons]; omega⟩
        show endAt r (d + 1) (i + 1) = _
        rw [h1]; simp only [List.length_cons]; congr 1; omega
    · have e41 : Nat.beq c 41 = false := by rw [beq_decide, decide_eq_false_iff_not]; exact h41
      rw [e41, bc_false] at h
      by_cases h40 : c = 40
      · subst h40
        have h : bc (Nat.ble (m + 1) 9) (scan r (d + 2) (m + 1)) false = true := h
        by_cases h9 : m + 1 ≤ 9
        · rw [ble_true h9, bc_true] at h
          obtain ⟨h1, h2⟩ := scan_endAt r (d + 1) (m + 1) (i + 1) h9 h
          refine ⟨?_, by simp only [List.length_cons]; omega⟩
          show endAt r (d + 2) (i + 1) = _
          rw [h1]; simp only [List.length_cons]; congr 1; omega
        · rw [ble_false (by omega)] at h; cases h
      · have e40 : Nat.beq c 40 = false := by rw [beq_decide, decide_eq_false_iff_not]; exact h40
        rw [e40] at h; cases h

theorem tree_endAt (l : List Nat) (h : isTree l = true) : endAt l 0 0 = some l.length ∧ 0 < l.length ∧ l.length ≤ 18 := by
  cases l with
  | nil => cases h
  | cons c r =>
    simp only [isTree] at h
    cases hc : Nat.beq c 40 with
    | false => rw [hc] at h; cases h
    | true =>
      rw [hc, bc_true] at h
      have := Nat.eq_of_beq_eq_true hc; subst this
      obtain ⟨h1, h2⟩ := scan_endAt r 0 1 1 (by omega) h
      refine ⟨?_, by simp, by simp only [List.length_cons]; omega⟩
      show endAt r 1 1 = _
      rw [h1]; simp only [List.length_cons]; congr 1; omega

/-- The specification's TreeIn at a tree. -/
theorem spec_good {F g : Nat} (l : List Nat) (n : Nat) (hn : l.length = n) (hF : 20 < F) (ht : isTree l = true) (h : H) : c15 F g (.str l n) h = some (.bool true, h) := by
  obtain ⟨h1, h2, h3⟩ := tree_endAt l ht
  rw [hn] at h1 h2 h3
  have e0 : ∀ k : AV → H → Option R, bindR (c46 F g (.str l n) (.int 3 (.ofNat 0)) h) k = bindR (loopD F (c46_l2 F g) [.str l n, .int 3 (.ofNat 0), .int 3 (.ofNat 0)] h) k := fun k => rfl
  have hloop := loop_end (F := F) (g := g) l n hn (by omega) h l F 0 0 rfl (by omega) (by omega) (by omega)
  have heq : ieq (endI (endAt l 0 0)) (Int.ofNat n) = true := by rw [h1]; show Nat.beq n n = true; exact Nat.beq_refl n
  simp only [c15, c15_j1, c15_j2, hd_cons, tl_cons, aLenK_str, aCmpI_int, kEq_self, bc_true, bc_false, ilt_nat, ile_nat, withBool_bool, guardB_bool, guardB_tup, aPick_bool, ble_true (show Nat.succ 0 ≤ n by omega), ble_true h3, e0, hloop, bindR_some', heq]

theorem fw_small (m : Nat) (h : m ≤ 127) : fwrap 3 (.ofNat m) = .ofNat m := by rw [fwrap_nat, ble_true h]; rfl

/-- A node beyond all is told as none by the specification. -/
theorem spec9_far {F g j : Nat} (l : List Nat) (n : Nat) (hn : l.length = n) (hF : 20 < F) (ht : isTree l = true) (hj : 9 ≤ j) (h : H) :
    c32 F g (.str l n) (.int 3 (.ofNat j)) h = some (.one .tup (.cons (.str [] 0) (.cons (.bool false) (.leaf .nil))), h) := by
  obtain ⟨_, h2, h3⟩ := tree_endAt l ht
  rw [hn] at h2 h3
  have q : ∀ k : AV → H → Option R, aQuo (.int 3 (.ofNat n)) (.int 3 (.ofNat 2)) h k = k (.int 3 (fwrap 3 (.ofNat (n / 2)))) h := fun k => rfl
  have sb : ∃ z, fwrap 3 (isub (.ofNat (n / 2)) (.ofNat 1)) = z ∧ ile (.ofNat j) z = false := by
    by_cases h1 : 1 ≤ n / 2
    · refine ⟨.ofNat (n / 2 - 1), ?_, ?_⟩
      · rw [isub_eq, show (Int.ofNat (n / 2) - Int.ofNat 1 : Int) = .ofNat (n / 2 - 1) from by simp only [Int.ofNat_eq_natCast]; omega]; exact fw_small _ (by omega)
      · rw [ile_nat]; exact ble_false (by omega)
    · refine ⟨_, rfl, ?_⟩
      rw [show n / 2 = 0 by omega]; rfl
  obtain ⟨z, hz, hz2⟩ := sb
  simp only [c32, c59, c59_j1, c70, c70_j1, spec_good (F := F) (g := g) l n hn hF ht h, bindR_some', guardB_bool, (show bnot true = false from rfl), bc_true, aLenK_str, q, fw_small (n / 2) (by omega), aArith_int, kEq_self, hz, aCmpI_int, ile_nat, ble_true (show 0 ≤ j by omega), hz2, hd_cons, tl_cons, aPick_bool]
  rfl

/-- What one tree's trial asks: all nodes up to 8, one below 0, and that its nodes are told to be at most 9. -/
def one9 (l : List Nat) (n : Nat) (v : Int) : Bool := @Option.rec R (fun _ => Bool) false (fun r => r.1.onBool false id) (c9 2097152 20 (.str l n) (.int 3 v) H0)
def all9 (l : List Nat) (n : Nat) (k : Nat) : Bool := @Nat.rec (fun _ => Bool) true (fun j r => bc (one9 l n (.ofNat j)) r false) k
def len9 (x : AV) : Bool := x.onSl false (fun _ => false) (fun _ _ n _ => Nat.ble n 9) (fun _ _ n _ => Nat.ble n 9)
def node9 (l : List Nat) (n : Nat) : Bool :=
  @Option.rec R (fun _ => Bool) false (fun r => r.1.onTup false fun t => t.onCons false fun root t => t.onCons false fun ok _ => ok.onBool false fun b => bc b
    (@Option.rec R (fun _ => Bool) false (fun q => len9 q.1) (c48 2097152 20 root r.2)) false) (c47 2097152 20 (.str l n) H0)
def ok9 (l : List Nat) : Bool := bc (node9 l (lenL l)) (bc (one9 l (lenL l) (.negSucc 0)) (all9 l (lenL l) 9) false) false

theorem one9_some {l : List Nat} {n : Nat} {v : Int} (h : one9 l n v = true) : ∃ h', c9 2097152 20 (.str l n) (.int 3 v) H0 = some (.bool true, h') := by
  unfold one9 at h
  cases hc : c9 2097152 20 (.str l n) (.int 3 v) H0 with
  | none => rw [hc] at h; cases h
  | some r =>
    rw [hc] at h
    obtain ⟨x, h'⟩ := r
    cases x <;> first | (cases h; done) | skip
    rename_i b
    have h : b = true := h
    subst h; exact ⟨h', rfl⟩
theorem all9_some {l : List Nat} {n : Nat} : ∀ k, all9 l n k = true → ∀ j, j < k → one9 l n (.ofNat j) = true
  | 0, _, j, hj => by omega
  | k + 1, h, j, hj => by
    have h : bc (one9 l n (.ofNat k)) (all9 l n k) false = true := h
    cases h1 : one9 l n (.ofNat k) with
    | false => rw [h1] at h; cases h
    | true =>
      rw [h1, bc_true] at h
      by_cases e : j = k
      · subst e; exact h1
      · exact all9_some k h j (by omega)
theorem node9_some {l : List Nat} {n : Nat} (h : node9 l n = true) : ∃ root t h1 x h2, c47 2097152 20 (.str l n) H0 = some (.one .tup (.cons root (.cons (.bool true) t)), h1) ∧ c48 2097152 20 root h1 = some (x, h2) ∧ len9 x = true := by
  unfold node9 at h
  cases hc : c47 2097152 20 (.str l n) H0 with
  | none => rw [hc] at h; cases h
  | some r =>
    rw [hc] at h
    obtain ⟨v, h1⟩ := r
    cases v using AV.casesE <;> first | (cases h; done) | skip
    rename_i a
    cases a <;> first | (cases h; done) | skip
    rename_i root t
    cases t <;> first | (cases h; done) | skip
    rename_i ok t
    cases ok <;> first | (cases h; done) | skip
    rename_i b
    cases b with
    | false => cases h
    | true =>
      have h : (@Option.rec R (fun _ => Bool) false (fun q => len9 q.1) (c48 2097152 20 root h1)) = true := h
      cases h48 : c48 2097152 20 root h1 with
      | none => rw [h48] at h; cases h
      | some q => rw [h48] at h; exact ⟨root, t, h1, q.1, q.2, rfl, h48, h⟩

theorem law9_neg {F g j : Nat} (l : List Nat) (n : Nat) (h : H) : c9 F g (.str l n) (.int 3 (.negSucc j)) h = c9 F g (.str l n) (.int 3 (.negSucc 0)) h := by kernel_rfl

theorem law9_far {j : Nat} (l : List Nat) (n : Nat) (hn : l.length = n) (ht : isTree l = true) (hj : 9 ≤ j) (ho : node9 l n = true) : ∃ h', c9 2097152 20 (.str l n) (.int 3 (.ofNat j)) H0 = some (.bool true, h') := by
  obtain ⟨root, t, h1, x, h2, e47, e48, hx⟩ := node9_some ho
  obtain ⟨_, _, h18⟩ := tree_endAt l ht
  rw [hn] at h18
  have e0 : ∀ k : AV → H → Option R, ∀ h, aNot (.bool true) h k = k (.bool false) h := fun _ _ => rfl
  have el : ∃ m, m ≤ 9 ∧ ∀ k : AV → H → Option R, ∀ h, aLenK 1 x h k = k (.int 3 (.ofNat m)) h := by
    cases x using AV.casesE <;> first | (cases hx; done) | skip
    · rename_i b o m c; exact ⟨m, Nat.le_of_ble_eq_true hx, fun _ _ => rfl⟩
    · rename_i b o m es; exact ⟨m, Nat.le_of_ble_eq_true hx, fun _ _ => rfl⟩
  obtain ⟨m, hm, el⟩ := el
  have impl : c33 2097152 20 (.str l n) (.int 3 (.ofNat j)) H0 = some (.one .tup (.cons (.str [] 0) (.cons (.bool false) (.leaf .nil))), h2) := by
    simp only [c33, c33_j1, e47, bindR_some', aExtract_0, aExtract_1, e0, withBool_bool, bc_false, e48, aCmpI_int, kEq_self, bc_true, ilt_nat, ble_false (show 0 < Nat.succ j by omega), guardB_bool, (show bnot false = true from rfl), el, ile_nat, ble_true (show m ≤ j by omega), hd_cons, tl_cons, aPick_bool]
  refine ⟨h2, ?_⟩
  simp only [c9, c9_j1, aLenK_str, aCmpI_int, kEq_self, bc_true, bc_false, ilt_nat, ble_false (show n < Nat.succ 1048576 by omega), withBool_bool, spec9_far (F := 2097152) (g := 20) l n hn (by omega) ht hj H0, bindR_some', aExtract_0, aExtract_1, impl]
  rfl

/-- What is no tree. -/
theorem law9_bad {F g : Nat} (l : List Nat) (n : Nat) (v : Int) (hn : l.length = n) (hF : 1048577 < F) (hF2 : F < 9223372036854775807) (ht : isTree l = false) (h : H) : ∃ h', c9 F g (.str l n) (.int 3 v) h = some (.bool true, h') := by
  by_cases h20 : 1048576 < n
  · refine ⟨h, ?_⟩
    simp only [c9, aLenK_str, aCmpI_int, kEq_self, bc_true, ilt_nat, ble_true (show Nat.succ 1048576 ≤ n by omega), withBool_bool]
  · obtain ⟨h', e⟩ := read_bad (F := F) (g := g) l n hn (by omega) hF2 ht h
    have e2 : c32 F g (.str l n) (.int 3 v) h = some (.one .tup (.cons (.str [] 0) (.cons (.bool false) (.leaf .nil))), h) := by
      simp only [c32, c59, c59_j1, spec_bad (F := F) (g := g) l n hn (by omega) ht h, bindR_some', guardB_bool, (show bnot true = false from rfl), bc_false, hd_cons, tl_cons, aPick_bool]
      rfl
    have e3 : c33 F g (.str l n) (.int 3 v) h = some (.one .tup (.cons (.str [] 0) (.cons (.bool false) (.leaf .nil))), h') := by
      simp only [c33, e, bindR_some']; rfl
    refine ⟨h', ?_⟩
    simp only [c9, aLenK_str, aCmpI_int, kEq_self, bc_true, bc_false, ilt_nat, ble_false (show n < Nat.succ 1048576 by omega), withBool_bool, e2, bindR_some', aExtract_0, aExtract_1, e3]
    rfl

theorem law9_tree {l : List Nat} (n : Nat) (hn : l.length = n) (v : Int) (ht : isTree l = true) (ho : ok9 l = true) : ∃ h', c9 2097152 20 (.str l n) (.int 3 v) H0 = some (.bool true, h') := by
  unfold ok9 at ho
  rw [lenL_eq, hn] at ho
  cases h1 : node9 l n with
  | false => rw [h1] at ho; cases ho
  | true =>
    rw [h1, bc_true] at ho
    cases h2 : one9 l n (.negSucc 0) with
    | false => rw [h2] at ho; cases ho
    | true =>
      rw [h2, bc_true] at ho
      cases v with
      | negSucc j => rw [law9_neg]; exact one9_some h2
      | ofNat j =>
        by_cases hj : j < 9
        · exact one9_some (all9_some 9 ho j hj)
        · exact law9_far l n hn ht (by omega) h1
end
end Go.AI

/- A call that was followed over the empty memory, with values that are no memory, comes to the same over every memory. -/
namespace Go.AI
open Go Go.RowKit
noncomputable section
set_option linter.unusedVariables false
variable {P : Program}

theorem VL.plain {ι ι' : Inj} : ∀ {xs : List AV} {vs : List Value}, (∀ a ∈ xs, a.plain = true) → VL ι xs vs → VL ι' xs vs
  | _, _, _, .nil => .nil
  | _, _, h, .cons hv hl => .cons (plain_mono (h _ (List.mem_cons_self ..)) hv) (VL.plain (fun a ha => h a (List.mem_cons_of_mem _ ha)) hl)

theorem Ext.of_below {ι : Inj} {h : H} {w w' : World} (r : Rel ι h w) (hb : Below w.heap.size w w') : Ext ι h w ι h w' :=
  ⟨.refl _, hb.os, hb.tape, hb.output, hb.size, fun B hB _ => hb.block B hB, fun _ h => .inl h, Nat.le_refl _, Nat.le_refl _, fun _ _ _ => rfl,
   fun b B o s _ _ _ e => hb.block _ (r.lt _ _ _ _ e), fun b _ _ _ e => .inl ⟨b, _, _, e⟩⟩

theorem Tri.forget {f : FuncId} {args : List AV} {v : AV} {h' : H} (T : Tri P f args H0 (v, h')) (ha : ∀ a ∈ args, a.plain = true) (hv : v.plain = true) (h : H) : Tri P f args h (v, h) :=
  ⟨T.can, fun ι w vs hR hV => (T.run (fun _ => Option.none) w vs (Rel.empty w) (VL.plain ha hV)).mono fun e w' ⟨x, ι', he, hx, hE, _⟩ =>
    ⟨x, ι, he, plain_mono hv hx, Ext.of_below hR hE.below, hR.grow hE.below⟩⟩
end
end Go.AI

/- Every tree's sorted text, as the two functions tell it. -/
namespace Go.AI
open Go Go.RowKit
noncomputable section
set_option linter.unusedVariables false
set_option linter.unusedSimpArgs false
set_option maxRecDepth 100000

/-- One tree's trial: the specification's text and the program's are the same. -/
def okA (l : List Nat) : Bool :=
  @Option.rec R (fun _ => Bool) false (fun r => r.1.onStr false fun a n =>
    @Option.rec R (fun _ => Bool) false (fun q => q.1.onTup false fun t => t.onCons false fun x t => x.onStr false fun b m => t.onCons false fun ok t => ok.onBool false fun d =>
      bc d (bc (eqL a b) (bc (Nat.beq n m) t.plain false) false) false)
    (c42 2097152 20 (.str l (lenL l)) H0)) (c63 2097152 20 (.str l (lenL l)) H0)
end
end Go.AI
