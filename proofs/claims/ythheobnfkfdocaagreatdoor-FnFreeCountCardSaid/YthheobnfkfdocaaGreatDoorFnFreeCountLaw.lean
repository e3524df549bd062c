/- The law FnFreeCount is true whatever the code. -/
import Derived.Test.YthheobnfkfdocaaGreatDoorFnFreeCountEv
namespace Go.AI.T
open Go Go.RowKit Go.AI
set_option linter.unusedVariables false
set_option linter.unusedSimpArgs false
set_option maxRecDepth 100000
noncomputable section
theorem law_FnFreeCount : CodeLaw (c_laws_FnFreeCount 2097152 20) := by
  intro a0 n L B ha hB hb
  have hlen : ∀ (h : H) (k : AV → H → Option R), aLenK 1 a0 h k = k (nI n) h := fun h k => by rcases ha with ⟨rfl, rfl⟩ | rfl <;> rfl
  apply zauf
  delta c_laws_FnFreeCount
  by_cases h20 : 1048576 < n
  · rw [hlen, gtrN, zaai, zaat (show Nat.succ 1048576 ≤ n from h20), bc_true]; rfl
  · rw [hlen, gtrN, zaai, zabo (show n < Nat.succ 1048576 by omega), zaah]
    obtain ⟨l, hl, e⟩ := draw_FnFreeCount 2097152 20 ha hB hb
    rw [e, bindR_some']
    cases ht : isTree l with
    | false => exact bad_FnFreeCount B 2097147 20 (zabb l) (by omega) ht
    | true =>
      have hm := zat0 ht
      obtain ⟨r, hr, he⟩ := List.mem_map.1 hm
      have h1 := zaou (ok_FnFreeCount B) 17 1 1 (fun l => 40 :: l) (evFnFreeCount_all B) r hr
      rw [show (40 :: r) = _ from he] at h1
      unfold ok_FnFreeCount at h1
      rw [zabb, zaat (hl.2 ht), bc_true] at h1
      exact h1
end
end Go.AI.T
