/- The law FnExecuteSame is true whatever the code. -/
import Derived.Test.YtelijoecjhgleaaGreatDoorFnExecuteSameEv
set_option linter.unusedVariables false
set_option linter.unusedSimpArgs false
set_option maxRecDepth 100000
namespace Go.AI.T
open Go Go.RowKit Go.AI
noncomputable section
theorem law_FnExecuteSame : CodeLaw (c_laws_FnExecuteSame 2097152 20) := by
  intro a0 n L B ha hB hb
  have hlen : ∀ (h : H) (k : AV -> H -> Option R), aLenK 1 a0 h k = k (nI n) h := fun h k => by rcases ha with ⟨rfl, rfl⟩ | rfl <;> rfl
  apply zatz
  delta c_laws_FnExecuteSame
  delta C_law
  by_cases h20 : 1048576 < n
  · rw [hlen, gtrN, zaai, zaau (show Nat.succ 1048576 <= n from h20), bc_true]; rfl
  · rw [hlen, gtrN, zaai, zabo (show n < Nat.succ 1048576 by omega), zaag]
    obtain ⟨l, hl, e⟩ := draw_FnExecuteSame 2097152 20 ha hB hb
    rw [e, bindR_some']
    show tells (c_laws_FnExecuteSame_r5 2097152 20 (.str l l.length) (hCode B)) = true
    cases ht : isTree l with
    | false => exact bad_FnExecuteSame B 2097147 20 (zabd l) (by omega) ht
    | true =>
      have h1 := e_all B ht
      unfold ok_FnExecuteSame at h1
      rw [zabd, zaau (hl.2 ht), bc_true] at h1
      exact h1
end
end Go.AI.T
