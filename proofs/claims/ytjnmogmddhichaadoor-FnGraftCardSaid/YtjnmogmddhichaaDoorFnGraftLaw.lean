/- The law FnGraft is true whatever the code. -/
import Derived.Test.YtjnmogmddhichaaDoorFnGraftEv0
import Derived.Test.YtjnmogmddhichaaDoorFnGraftEv1
import Derived.Test.YtjnmogmddhichaaDoorFnGraftEv2
import Derived.Test.YtjnmogmddhichaaDoorFnGraftEv3
import Derived.Test.YtjnmogmddhichaaDoorFnGraftEv4
import Derived.Test.YtjnmogmddhichaaDoorFnGraftEv5
namespace Go.AI.T
open Go Go.RowKit Go.AI
set_option linter.unusedVariables false
set_option linter.unusedSimpArgs false
set_option maxRecDepth 100000
noncomputable section
theorem S_all (B : Blk) {s : List Nat} (hs : s ∈ T5) : okS B s = true := by
  simp only [T5, List.mem_cons, List.not_mem_nil, or_false] at hs
  rcases hs with rfl | rfl | rfl | rfl | rfl | rfl | rfl | rfl | rfl | rfl | rfl | rfl | rfl | rfl | rfl | rfl | rfl | rfl | rfl | rfl | rfl | rfl | rfl
  · exact ev0 B
  · exact ev1 B
  · exact ev2 B
  · exact ev3 B
  · exact ev4 B
  · exact ev5 B
  · exact ev6 B
  · exact ev7 B
  · exact ev8 B
  · exact ev9 B
  · exact ev10 B
  · exact ev11 B
  · exact ev12 B
  · exact ev13 B
  · exact ev14 B
  · exact ev15 B
  · exact ev16 B
  · exact ev17 B
  · exact ev18 B
  · exact ev19 B
  · exact ev20 B
  · exact ev21 B
  · exact ev22 B
theorem law_FnGraft : CodeLaw (c_laws_FnGraft 2097152 20) := by
  intro a0 n L B ha hB hb
  have hlen : ∀ (h : H) (k : AV → H → Option R), aLenK 1 a0 h k = k (nI n) h := fun h k => by rcases ha with ⟨rfl, rfl⟩ | rfl <;> rfl
  apply tells_some
  delta c_laws_FnGraft
  by_cases h20 : 1048576 < n
  · rw [hlen, gtrN, withBool_bool, ble_true (show Nat.succ 1048576 ≤ n from h20), bc_true]; rfl
  · rw [hlen, gtrN, withBool_bool, ble_false (show n < Nat.succ 1048576 by omega), bc_false]
    obtain ⟨s, z, t, hs, hz, ht, e⟩ := draw_FnGraft 2097152 20 ha hB hb
    rw [e, bindR_some']
    cases h1 : isTree s with
    | false =>
      obtain ⟨g1, e1⟩ := impl_s (B := B) (z := z) (lenL_eq s) (by omega) h1 (lenL_eq t) (by omega) (fun h2 => allZ_mem (R_all B) t ((in_of h2).2 (ht.2 h2)))
      exact rest_bad e1 (spec_s 2097152 20 z (lenL_eq s) h1 _ g1)
    | true =>
      have hs5 := (in_of h1).1 (hs.2 h1)
      have hz5 : z ∈ zs 5 := zs_mem (by
        rcases hz with rfl | ⟨j, rfl, hj⟩
        · exact .inl rfl
        · exact .inr ⟨j, rfl, by have := hs.2 h1; omega⟩)
      have h3 := allZ_mem (S_all B hs5) z hz5
      have h3 : bc (okN B s z) (allZ (fun t => ok3 B s z t) T4) false = true := h3
      cases hN : okN B s z with
      | false => rw [hN] at h3; cases h3
      | true =>
        rw [hN, bc_true] at h3
        cases h2 : isTree t with
        | false =>
          obtain ⟨g1, e1⟩ := impl_t hN (lenL_eq t) (by omega) h2
          obtain ⟨g2, e2⟩ := spec_t (allZ_mem (allZ_mem (M_all g1) s hs5) z hz5) (lenL_eq t) h2
          rw [lenL_eq] at e1 e2
          exact rest_bad e1 e2
        | true =>
          have h4 := allZ_mem h3 t ((in_of h2).2 (ht.2 h2))
          unfold ok3 at h4
          rw [lenL_eq, lenL_eq] at h4
          exact h4
end
end Go.AI.T
