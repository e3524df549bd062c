/- The law FnExactPairFar, whatever the texts. -/
import Derived.Test.YtjnmogmddhichaaPairFarEv0
import Derived.Test.YtjnmogmddhichaaPairFarEv1
import Derived.Test.YtjnmogmddhichaaPairFarEv2
import Derived.Test.YtjnmogmddhichaaPairFarEv3
import Derived.Test.YtjnmogmddhichaaPairFarEv4
import Derived.Test.YtjnmogmddhichaaPairFarEv5
import Derived.KernelRfl
namespace Go.AI.T
open Go Go.RowKit Go.AI
set_option linter.unusedVariables false
set_option linter.unusedSimpArgs false
set_option maxRecDepth 100000
noncomputable section
theorem okA_mem {s : List Nat} : ∀ {L : List (List Nat)}, okA_PairFar s L = true → ∀ t ∈ L, ok2_PairFar s t = true
  | [], _, t, h => by cases h
  | x :: L, e, t, h => by
    have e : bc (ok2_PairFar s x) (okA_PairFar s L) false = true := e
    cases h1 : ok2_PairFar s x with
    | false => rw [h1] at e; cases e
    | true =>
      rw [h1, bc_true] at e
      rcases List.mem_cons.1 h with rfl | h
      · exact h1
      · exact okA_mem e t h
theorem all_PairFar {s t : List Nat} (hs : s ∈ PL) (ht : t ∈ PL) : ok2_PairFar s t = true := by
  simp only [PL, List.mem_cons, List.not_mem_nil, or_false] at hs
  rcases hs with rfl | rfl | rfl | rfl | rfl | rfl | rfl | rfl | rfl | rfl | rfl | rfl | rfl | rfl | rfl | rfl | rfl | rfl | rfl | rfl | rfl | rfl | rfl
  · exact okA_mem evPairFar_0 t ht
  · exact okA_mem evPairFar_1 t ht
  · exact okA_mem evPairFar_2 t ht
  · exact okA_mem evPairFar_3 t ht
  · exact okA_mem evPairFar_4 t ht
  · exact okA_mem evPairFar_5 t ht
  · exact okA_mem evPairFar_6 t ht
  · exact okA_mem evPairFar_7 t ht
  · exact okA_mem evPairFar_8 t ht
  · exact okA_mem evPairFar_9 t ht
  · exact okA_mem evPairFar_10 t ht
  · exact okA_mem evPairFar_11 t ht
  · exact okA_mem evPairFar_12 t ht
  · exact okA_mem evPairFar_13 t ht
  · exact okA_mem evPairFar_14 t ht
  · exact okA_mem evPairFar_15 t ht
  · exact okA_mem evPairFar_16 t ht
  · exact okA_mem evPairFar_17 t ht
  · exact okA_mem evPairFar_18 t ht
  · exact okA_mem evPairFar_19 t ht
  · exact okA_mem evPairFar_20 t ht
  · exact okA_mem evPairFar_21 t ht
  · exact okA_mem evPairFar_22 t ht
theorem key_PairFar {l : List Nat} {n : Nat} {l' : List Nat} {m : Nat} (hn : lenL l = n) (hm : lenL l' = m) : tells (c_laws_FnExactPairFar 2097152 20 (.str l n) (.str l' m) H0) = true := by
  by_cases h20 : 1048576 < n
  · simp only [c_laws_FnExactPairFar, aLenK_str, aCmpI_int, kEq_self, bc_true, ilt_nat, ble_true (show Nat.succ 1048576 ≤ n by omega), withBool_bool]; kernel_rfl
  · by_cases h21 : 1048576 < m
    · simp only [c_laws_FnExactPairFar, aLenK_str, aCmpI_int, kEq_self, bc_true, bc_false, ilt_nat, ble_false (show n < Nat.succ 1048576 by omega), ble_true (show Nat.succ 1048576 ≤ m by omega), withBool_bool]; kernel_rfl
    · have h1 : n ≤ 1048576 := by omega
      have h2 : m ≤ 1048576 := by omega
      cases hp : isPr l with
      | false =>
        have s1 := pr_spec_PairIn 2097152 20 hn h1 hp
        have i1 := pr_impl_PairIn 2097152 20 hn h1 hp
        delta c_spec_PairFar c_impl_PairFar c_laws_FnExactPairFar
        rw [aLenK_str, aCmpI_int, kEq_self, bc_true, ilt_nat, ble_false (show n < Nat.succ 1048576 by omega), withBool_bool, bc_false, aLenK_str, aCmpI_int, kEq_self, bc_true, ilt_nat, ble_false (show m < Nat.succ 1048576 by omega), withBool_bool, bc_false]
        simp only [s1, i1]
        rfl
      | true =>
        cases hq : isPr l' with
        | false =>
          have s1 := pr_spec_PairIn 2097152 20 hn h1 hp
          have i1 := pr_impl_PairIn 2097152 20 hn h1 hp
          have s2 := pr_spec_PairIn 2097152 20 hm h2 hq
          have i2 := pr_impl_PairIn 2097152 20 hm h2 hq
          delta c_spec_PairFar c_impl_PairFar c_laws_FnExactPairFar
          rw [aLenK_str, aCmpI_int, kEq_self, bc_true, ilt_nat, ble_false (show n < Nat.succ 1048576 by omega), withBool_bool, bc_false, aLenK_str, aCmpI_int, kEq_self, bc_true, ilt_nat, ble_false (show m < Nat.succ 1048576 by omega), withBool_bool, bc_false]
          simp only [s1, i1, s2, i2]
          rfl
        | true =>
          have := all_PairFar (isPr_mem hp) (isPr_mem hq)
          unfold ok2_PairFar at this
          rw [hn, hm] at this
          exact this
end
end Go.AI.T
