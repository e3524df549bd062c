/- One pair's trial. -/
import Derived.Test.YtjnmogmddhichaaPairFarFn
import Derived.KernelRfl
namespace Go.AI.T
open Go Go.RowKit Go.AI
set_option linter.unusedVariables false
set_option linter.unusedSimpArgs false
set_option maxRecDepth 100000
noncomputable section
def ok2_PairFar (s t : List Nat) : Bool := tells (c_laws_FnExactPairFar 2097152 20 (.str s (lenL s)) (.str t (lenL t)) H0)
def okA_PairFar (s : List Nat) : List (List Nat) → Bool := @List.rec (List Nat) (fun _ => Bool) true (fun t _ r => bc (ok2_PairFar s t) r false)
theorem okA_app {s : List Nat} : ∀ {a b : List (List Nat)}, okA_PairFar s a = true → okA_PairFar s b = true → okA_PairFar s (a ++ b) = true
  | [], _, _, h => h
  | x :: a, b, h1, h2 => by
    have h1 : bc (ok2_PairFar s x) (okA_PairFar s a) false = true := h1
    show bc (ok2_PairFar s x) (okA_PairFar s (a ++ b)) false = true
    cases e : ok2_PairFar s x with
    | false => rw [e] at h1; cases h1
    | true => rw [e] at h1; exact okA_app (a := a) h1 h2
def CH0 : List (List Nat) := [[40, 41], [40, 40, 41, 40, 41, 41], [40, 40, 41, 40, 40, 41, 40, 41, 41, 41]]
def CH1 : List (List Nat) := [[40, 40, 40, 41, 40, 41, 41, 40, 41, 41], [40, 40, 41, 40, 40, 41, 40, 40, 41, 40, 41, 41, 41, 41], [40, 40, 41, 40, 40, 40, 41, 40, 41, 41, 40, 41, 41, 41]]
def CH2 : List (List Nat) := [[40, 40, 40, 41, 40, 41, 41, 40, 40, 41, 40, 41, 41, 41], [40, 40, 40, 41, 40, 40, 41, 40, 41, 41, 41, 40, 41, 41], [40, 40, 40, 40, 41, 40, 41, 41, 40, 41, 41, 40, 41, 41]]
def CH3 : List (List Nat) := [[40, 40, 41, 40, 40, 41, 40, 40, 41, 40, 40, 41, 40, 41, 41, 41, 41, 41], [40, 40, 41, 40, 40, 41, 40, 40, 40, 41, 40, 41, 41, 40, 41, 41, 41, 41], [40, 40, 41, 40, 40, 40, 41, 40, 41, 41, 40, 40, 41, 40, 41, 41, 41, 41]]
def CH4 : List (List Nat) := [[40, 40, 41, 40, 40, 40, 41, 40, 40, 41, 40, 41, 41, 41, 40, 41, 41, 41], [40, 40, 41, 40, 40, 40, 40, 41, 40, 41, 41, 40, 41, 41, 40, 41, 41, 41], [40, 40, 40, 41, 40, 41, 41, 40, 40, 41, 40, 40, 41, 40, 41, 41, 41, 41]]
def CH5 : List (List Nat) := [[40, 40, 40, 41, 40, 41, 41, 40, 40, 40, 41, 40, 41, 41, 40, 41, 41, 41], [40, 40, 40, 41, 40, 40, 41, 40, 41, 41, 41, 40, 40, 41, 40, 41, 41, 41], [40, 40, 40, 40, 41, 40, 41, 41, 40, 41, 41, 40, 40, 41, 40, 41, 41, 41]]
def CH6 : List (List Nat) := [[40, 40, 40, 41, 40, 40, 41, 40, 40, 41, 40, 41, 41, 41, 41, 40, 41, 41], [40, 40, 40, 41, 40, 40, 40, 41, 40, 41, 41, 40, 41, 41, 41, 40, 41, 41], [40, 40, 40, 40, 41, 40, 41, 41, 40, 40, 41, 40, 41, 41, 41, 40, 41, 41]]
def CH7 : List (List Nat) := [[40, 40, 40, 40, 41, 40, 40, 41, 40, 41, 41, 41, 40, 41, 41, 40, 41, 41], [40, 40, 40, 40, 40, 41, 40, 41, 41, 40, 41, 41, 40, 41, 41, 40, 41, 41]]
theorem pl_eq : PL = CH0 ++ (CH1 ++ (CH2 ++ (CH3 ++ (CH4 ++ (CH5 ++ (CH6 ++ (CH7))))))) := by kernel_rfl
end
end Go.AI.T
