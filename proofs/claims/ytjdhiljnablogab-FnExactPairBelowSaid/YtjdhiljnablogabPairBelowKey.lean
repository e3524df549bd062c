/- The law FnExactPairBelow, whatever the texts. -/
import Derived.Test.YtjdhiljnablogabPairBelowEv0
import Derived.Test.YtjdhiljnablogabPairBelowEv1
import Derived.Test.YtjdhiljnablogabPairBelowEv2
import Derived.Test.YtjdhiljnablogabPairBelowEv3
import Derived.Test.YtjdhiljnablogabPairBelowEv4
import Derived.Test.YtjdhiljnablogabPairBelowEv5
import Derived.KernelRfl
namespace Go.AI.T
open Go Go.RowKit Go.AI
set_option linter.unusedVariables false
set_option linter.unusedSimpArgs false
set_option maxRecDepth 100000
noncomputable section
theorem okA_mem {s : List Nat} : ∀ {L : List (List Nat)}, okA_PairBelow s L = true → ∀ t ∈ L, ok2_PairBelow s t = true
  | [], _, t, h => by cases h
  | x :: L, e, t, h => by
    have e : bc (ok2_PairBelow s x) (okA_PairBelow s L) false = true := e
    cases h1 : ok2_PairBelow s x with
    | false => rw [h1] at e; cases e
    | true =>
      rw [h1, bc_true] at e
      rcases List.mem_cons.1 h with rfl | h
      · exact h1
      · exact okA_mem e t h
theorem all_PairBelow {s t : List Nat} (hs : s ∈ PL) (ht : t ∈ PL) : ok2_PairBelow s t = true := by
  simp only [PL, List.mem_cons, List.not_mem_nil, or_false] at hs
  rcases hs with rfl | rfl | rfl | rfl | rfl | rfl | rfl | rfl | rfl | rfl | rfl | rfl | rfl | rfl | rfl | rfl | rfl | rfl | rfl | rfl | rfl | rfl | rfl
  · exact okA_mem evPairBelow_0 t ht
  · exact okA_mem evPairBelow_1 t ht
  · exact okA_mem evPairBelow_2 t ht
  · exact okA_mem evPairBelow_3 t ht
  · exact okA_mem evPairBelow_4 t ht
  · exact okA_mem evPairBelow_5 t ht
  · exact okA_mem evPairBelow_6 t ht
  · exact okA_mem evPairBelow_7 t ht
  · exact okA_mem evPairBelow_8 t ht
  · exact okA_mem evPairBelow_9 t ht
  · exact okA_mem evPairBelow_10 t ht
  · exact okA_mem evPairBelow_11 t ht
  · exact okA_mem evPairBelow_12 t ht
  · exact okA_mem evPairBelow_13 t ht
  · exact okA_mem evPairBelow_14 t ht
  · exact okA_mem evPairBelow_15 t ht
  · exact okA_mem evPairBelow_16 t ht
  · exact okA_mem evPairBelow_17 t ht
  · exact okA_mem evPairBelow_18 t ht
  · exact okA_mem evPairBelow_19 t ht
  · exact okA_mem evPairBelow_20 t ht
  · exact okA_mem evPairBelow_21 t ht
  · exact okA_mem evPairBelow_22 t ht
theorem key_PairBelow {l : List Nat} {n : Nat} {l' : List Nat} {m : Nat} (hn : lenL l = n) (hm : lenL l' = m) : tells (c_laws_FnExactPairBelow 2097152 20 (.str l n) (.str l' m) H0) = true := by
  by_cases h20 : 1048576 < n
  · simp only [c_laws_FnExactPairBelow, aLenK_str, aCmpI_int, kEq_self, bc_true, ilt_nat, ble_true (show Nat.succ 1048576 ≤ n by omega), withBool_bool]; kernel_rfl
  · by_cases h21 : 1048576 < m
    · simp only [c_laws_FnExactPairBelow, aLenK_str, aCmpI_int, kEq_self, bc_true, bc_false, ilt_nat, ble_false (show n < Nat.succ 1048576 by omega), ble_true (show Nat.succ 1048576 ≤ m by omega), withBool_bool]; kernel_rfl
    · have h1 : n ≤ 1048576 := by omega
      have h2 : m ≤ 1048576 := by omega
      cases hp : isPr l with
      | false =>
        have s1 := pr_spec_PairIn 2097152 20 hn h1 hp
        have i1 := pr_impl_PairIn 2097152 20 hn h1 hp
        delta c_spec_PairBelow c_impl_PairBelow c_laws_FnExactPairBelow
        rw [aLenK_str, aCmpI_int, kEq_self, bc_true, ilt_nat, ble_false (show n < Nat.succ 1048576 by omega), withBool_bool, bc_false, aLenK_str, aCmpI_int, kEq_self, bc_true, ilt_nat, ble_false (show m < Nat.succ 1048576 by omega), withBool_bool, bc_false]
        simp only [s1, i1]
        rfl
      | true =>
        cases hq : isPr l' with
        | false =>
          have s1 := pr_spec_PairIn 2097152 20 hn h1 hp
          have i1 := pr_impl_PairIn 2097152 20 hn h1 hp
          have s2 := pr_spec_PairIn 2097152 20 hm h2 hq
          have i2 := pr_impl_PairIn 2097152 20 hm h2 hq
          delta c_spec_PairBelow c_impl_PairBelow c_laws_FnExactPairBelow
          rw [aLenK_str, aCmpI_int, kEq_self, bc_true, ilt_nat, ble_false (show n < Nat.succ 1048576 by omega), withBool_bool, bc_false, aLenK_str, aCmpI_int, kEq_self, bc_true, ilt_nat, ble_false (show m < Nat.succ 1048576 by omega), withBool_bool, bc_false]
          simp only [s1, i1, s2, i2]
          rfl
        | true =>
          have := all_PairBelow (isPr_mem hp) (isPr_mem hq)
          unfold ok2_PairBelow at this
          rw [hn, hm] at this
          exact this
end
end Go.AI.T
