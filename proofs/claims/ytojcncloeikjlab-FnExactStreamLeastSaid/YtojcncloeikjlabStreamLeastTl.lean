/- What lies out of the bounds is told as none by both. -/
import Derived.Test.YtojcncloeikjlabStreamLeastFn
import Derived.KernelRfl
namespace Go.AI.X
open Go Go.RowKit Go.AI
set_option linter.unusedVariables false
set_option linter.unusedSimpArgs false
set_option maxRecDepth 100000
noncomputable section
/-- A call told true. -/
def tells (x : Option R) : Bool := @Option.rec R (fun _ => Bool) false (fun r => r.1.onBool false id) x
theorem tells_some {x : Option R} (e : tells x = true) : ∃ h', x = some (.bool true, h') := by
  cases x with
  | none => cases e
  | some r =>
    obtain ⟨v, h'⟩ := r
    cases v <;> first | (cases e; done) | skip
    rename_i b
    have e : b = true := e
    subst e; exact ⟨h', rfl⟩
def zeroA : AV := .one .tup (.cons (.int 3 (.ofNat 0)) (.cons (.bool false) (.leaf .nil)))
theorem l6In_ok (F g : Nat) (n lo hi : Int) (h : H) : c_spec_l6In F g (.int 3 n) (.int 3 lo) (.int 3 hi) h = some (.bool (bc (ile lo n) (ile n hi) false), h) := by
  delta c_spec_l6In
  rw [aCmpI_int, kEq_self, bc_true]
  cases ile lo n <;> rfl
theorem spec_out (F g : Nat) {n : Int} (hn : n < 1 ∨ 10 < n) (h : H) : c_spec_StreamLeast F g (.int 3 n) h = some (zeroA, h) := by
  have e : bc (ile (.ofNat 1) n) (ile n (.ofNat 10)) false = false := by
    rw [ile_eq, ile_eq]
    by_cases h1 : Int.ofNat 1 ≤ n
    · rw [decide_eq_true h1, bc_true, decide_eq_false_iff_not]
      have : (Int.ofNat 1 : Int) = 1 := rfl
      have : (Int.ofNat 10 : Int) = 10 := rfl
      omega
    · rw [decide_eq_false h1, bc_false]
  delta c_spec_StreamLeast
  rw [l6In_ok, bindR_some', e]; rfl
theorem impl_out (F g : Nat) {n : Int} (hn : n < 1 ∨ 10 < n) (h : H) : c_impl_StreamLeast F g (.int 3 n) h = some (zeroA, h) := by
  delta c_impl_StreamLeast
  rw [aCmpI_int, kEq_self, bc_true]
  by_cases h1 : n < Int.ofNat 1
  · rw [show ilt n (.ofNat 1) = true by rw [ilt_eq]; exact decide_eq_true h1]; rfl
  · rw [show ilt n (.ofNat 1) = false by rw [ilt_eq]; exact decide_eq_false h1, guardB_bool, show bc (bc false false (bnot false)) _ _ = _ from rfl, aCmpI_int, kEq_self, bc_true]
    rw [show ilt (.ofNat 10) n = true by
      rw [ilt_eq]
      refine decide_eq_true ?_
      have : (Int.ofNat 1 : Int) = 1 := rfl
      have : (Int.ofNat 10 : Int) = 10 := rfl
      omega]
    rfl
theorem law_out {n : Int} (hn : n < 1 ∨ 10 < n) : tells (c_laws_FnExactStreamLeast 2097152 20 (.int 3 n) H0) = true := by
  delta c_laws_FnExactStreamLeast
  rw [spec_out _ _ hn, bindR_some']
  delta zeroA
  rw [aExtract_0, aExtract_1, impl_out _ _ hn, bindR_some']
  rfl
end
end Go.AI.X
