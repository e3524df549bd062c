/- The law FnPairBelow is true whatever the code. -/
import Derived.Test.YtjdhiljnablogaaFnPairBelowEv0
import Derived.Test.YtjdhiljnablogaaFnPairBelowEv1
import Derived.Test.YtjdhiljnablogaaFnPairBelowEv2
import Derived.Test.YtjdhiljnablogaaFnPairBelowEv3
import Derived.Test.YtjdhiljnablogaaFnPairBelowEv4
import Derived.Test.YtjdhiljnablogaaFnPairBelowEv5
import Derived.Test.YtjdhiljnablogaaFnPairBelowEv6
import Derived.Test.YtjdhiljnablogaaFnPairBelowEv7
namespace Go.AI.T
open Go Go.RowKit Go.AI
set_option linter.unusedVariables false
set_option linter.unusedSimpArgs false
set_option maxRecDepth 100000
noncomputable section
theorem okA_mem {B : Blk} {s : List Nat} : ∀ {L : List (List Nat)}, okA_FnPairBelow B s L = true → ∀ t ∈ L, ok2_FnPairBelow B s t = true
  | [], _, t, h => by cases h
  | x :: L, e, t, h => by
    have e : bc (ok2_FnPairBelow B s x) (okA_FnPairBelow B s L) false = true := e
    cases h1 : ok2_FnPairBelow B s x with
    | false => rw [h1] at e; cases e
    | true =>
      rw [h1, bc_true] at e
      rcases List.mem_cons.1 h with rfl | h
      · exact h1
      · exact okA_mem e t h
theorem all_FnPairBelow (B : Blk) {s t : List Nat} (hs : s ∈ Go.AI.Q.PLx) (ht : t ∈ Go.AI.Q.PLx) : ok2_FnPairBelow B s t = true := by
  simp only [Go.AI.Q.PLx, List.mem_cons, List.not_mem_nil, or_false] at hs
  rcases hs with rfl | rfl | rfl | rfl | rfl | rfl | rfl | rfl | rfl | rfl | rfl | rfl | rfl | rfl | rfl | rfl | rfl | rfl | rfl | rfl | rfl | rfl | rfl | rfl
  · exact okA_mem (evFnPairBelow_0 B) t ht
  · exact okA_mem (evFnPairBelow_1 B) t ht
  · exact okA_mem (evFnPairBelow_2 B) t ht
  · exact okA_mem (evFnPairBelow_3 B) t ht
  · exact okA_mem (evFnPairBelow_4 B) t ht
  · exact okA_mem (evFnPairBelow_5 B) t ht
  · exact okA_mem (evFnPairBelow_6 B) t ht
  · exact okA_mem (evFnPairBelow_7 B) t ht
  · exact okA_mem (evFnPairBelow_8 B) t ht
  · exact okA_mem (evFnPairBelow_9 B) t ht
  · exact okA_mem (evFnPairBelow_10 B) t ht
  · exact okA_mem (evFnPairBelow_11 B) t ht
  · exact okA_mem (evFnPairBelow_12 B) t ht
  · exact okA_mem (evFnPairBelow_13 B) t ht
  · exact okA_mem (evFnPairBelow_14 B) t ht
  · exact okA_mem (evFnPairBelow_15 B) t ht
  · exact okA_mem (evFnPairBelow_16 B) t ht
  · exact okA_mem (evFnPairBelow_17 B) t ht
  · exact okA_mem (evFnPairBelow_18 B) t ht
  · exact okA_mem (evFnPairBelow_19 B) t ht
  · exact okA_mem (evFnPairBelow_20 B) t ht
  · exact okA_mem (evFnPairBelow_21 B) t ht
  · exact okA_mem (evFnPairBelow_22 B) t ht
  · exact okA_mem (evFnPairBelow_23 B) t ht
theorem law_FnPairBelow : CodeLaw (c_laws_FnPairBelow 2097152 20) := by
  intro a0 n L B ha hB hb
  have hlen : ∀ (h : H) (k : AV → H → Option R), aLenK 1 a0 h k = k (nI n) h := fun h k => by rcases ha with ⟨rfl, rfl⟩ | rfl <;> rfl
  apply tells_some
  delta c_laws_FnPairBelow
  by_cases h20 : 1048576 < n
  · rw [hlen, gtrN, withBool_bool, ble_true (show Nat.succ 1048576 ≤ n from h20), bc_true]; rfl
  · rw [hlen, gtrN, withBool_bool, ble_false (show n < Nat.succ 1048576 by omega), bc_false]
    obtain ⟨s, t, hs, ht, e⟩ := draw_FnPairBelow 2097152 20 ha hB hb
    rw [e, bindR_some']
    have h1 := all_FnPairBelow B hs ht
    unfold ok2_FnPairBelow at h1
    rw [lenL_eq, lenL_eq] at h1
    exact h1
end
end Go.AI.T
