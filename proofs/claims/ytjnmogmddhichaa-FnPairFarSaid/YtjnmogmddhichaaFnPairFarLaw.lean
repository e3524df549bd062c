/- The law FnPairFar is true whatever the code. -/
import Derived.Test.YtjnmogmddhichaaFnPairFarEv0
import Derived.Test.YtjnmogmddhichaaFnPairFarEv1
import Derived.Test.YtjnmogmddhichaaFnPairFarEv2
import Derived.Test.YtjnmogmddhichaaFnPairFarEv3
import Derived.Test.YtjnmogmddhichaaFnPairFarEv4
import Derived.Test.YtjnmogmddhichaaFnPairFarEv5
import Derived.Test.YtjnmogmddhichaaFnPairFarEv6
import Derived.Test.YtjnmogmddhichaaFnPairFarEv7
namespace Go.AI.T
open Go Go.RowKit Go.AI
set_option linter.unusedVariables false
set_option linter.unusedSimpArgs false
set_option maxRecDepth 100000
noncomputable section
theorem okA_mem {B : Blk} {s : List Nat} : ∀ {L : List (List Nat)}, okA_FnPairFar B s L = true → ∀ t ∈ L, ok2_FnPairFar B s t = true
  | [], _, t, h => by cases h
  | x :: L, e, t, h => by
    have e : bc (ok2_FnPairFar B s x) (okA_FnPairFar B s L) false = true := e
    cases h1 : ok2_FnPairFar B s x with
    | false => rw [h1] at e; cases e
    | true =>
      rw [h1, bc_true] at e
      rcases List.mem_cons.1 h with rfl | h
      · exact h1
      · exact okA_mem e t h
theorem all_FnPairFar (B : Blk) {s t : List Nat} (hs : s ∈ Go.AI.Q.PLx) (ht : t ∈ Go.AI.Q.PLx) : ok2_FnPairFar B s t = true := by
  simp only [Go.AI.Q.PLx, List.mem_cons, List.not_mem_nil, or_false] at hs
  rcases hs with rfl | rfl | rfl | rfl | rfl | rfl | rfl | rfl | rfl | rfl | rfl | rfl | rfl | rfl | rfl | rfl | rfl | rfl | rfl | rfl | rfl | rfl | rfl | rfl
  · exact okA_mem (evFnPairFar_0 B) t ht
  · exact okA_mem (evFnPairFar_1 B) t ht
  · exact okA_mem (evFnPairFar_2 B) t ht
  · exact okA_mem (evFnPairFar_3 B) t ht
  · exact okA_mem (evFnPairFar_4 B) t ht
  · exact okA_mem (evFnPairFar_5 B) t ht
  · exact okA_mem (evFnPairFar_6 B) t ht
  · exact okA_mem (evFnPairFar_7 B) t ht
  · exact okA_mem (evFnPairFar_8 B) t ht
  · exact okA_mem (evFnPairFar_9 B) t ht
  · exact okA_mem (evFnPairFar_10 B) t ht
  · exact okA_mem (evFnPairFar_11 B) t ht
  · exact okA_mem (evFnPairFar_12 B) t ht
  · exact okA_mem (evFnPairFar_13 B) t ht
  · exact okA_mem (evFnPairFar_14 B) t ht
  · exact okA_mem (evFnPairFar_15 B) t ht
  · exact okA_mem (evFnPairFar_16 B) t ht
  · exact okA_mem (evFnPairFar_17 B) t ht
  · exact okA_mem (evFnPairFar_18 B) t ht
  · exact okA_mem (evFnPairFar_19 B) t ht
  · exact okA_mem (evFnPairFar_20 B) t ht
  · exact okA_mem (evFnPairFar_21 B) t ht
  · exact okA_mem (evFnPairFar_22 B) t ht
  · exact okA_mem (evFnPairFar_23 B) t ht
theorem law_FnPairFar : CodeLaw (c_laws_FnPairFar 2097152 20) := by
  intro a0 n L B ha hB hb
  have hlen : ∀ (h : H) (k : AV → H → Option R), aLenK 1 a0 h k = k (nI n) h := fun h k => by rcases ha with ⟨rfl, rfl⟩ | rfl <;> rfl
  apply tells_some
  delta c_laws_FnPairFar
  by_cases h20 : 1048576 < n
  · rw [hlen, gtrN, withBool_bool, ble_true (show Nat.succ 1048576 ≤ n from h20), bc_true]; rfl
  · rw [hlen, gtrN, withBool_bool, ble_false (show n < Nat.succ 1048576 by omega), bc_false]
    obtain ⟨s, t, hs, ht, e⟩ := draw_FnPairFar 2097152 20 ha hB hb
    rw [e, bindR_some']
    have h1 := all_FnPairFar B hs ht
    unfold ok2_FnPairFar at h1
    rw [lenL_eq, lenL_eq] at h1
    exact h1
end
end Go.AI.T
