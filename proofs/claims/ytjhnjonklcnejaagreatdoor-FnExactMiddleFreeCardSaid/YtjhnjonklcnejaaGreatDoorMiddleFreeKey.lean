/- The law FnExactMiddleFree, whatever the texts. -/
import Derived.Test.YtjhnjonklcnejaaGreatDoorMiddleFreeFn
import Derived.KernelRfl
set_option linter.unusedVariables false
set_option linter.unusedSimpArgs false
set_option maxRecDepth 100000
namespace Go.AI.T
open Go Go.RowKit Go.AI
noncomputable section
theorem key_MiddleFree {l : List Nat} {n : Nat} (hn : lenL l = n) : tells (c_laws_FnExactMiddleFree 2097152 20 (.str l n) H0) = true := by
  by_cases h20 : 1048576 < n
  · simp only [c_laws_FnExactMiddleFree, zabj, zabi, zaa7, bc_true, zacq, zaau (show Nat.succ 1048576 <= n by omega), zaai]; rfl
  · cases ht : isTree l with
    | false =>
      simp only [c_spec_MiddleFree, c_laws_FnExactMiddleFree_j1, c_laws_FnExactMiddleFree, zabo (show n < Nat.succ 1048576 by omega), zao3 hn ht, free_bad hn (show n <= 1048576 by omega) ht, zabj, zabi, zaa7, bc_true, zaag, zacq, zaai, noTree, bindR_some', zat6, zat0, aNot_b, bnot_t, bnot_f, zabg, zabh, aCmpS_str, eqL_self]
      kernel_rfl
    | true =>
      simp only [c_spec_MiddleFree, c_laws_FnExactMiddleFree_j1, c_laws_FnExactMiddleFree, zabo (show n < Nat.succ 1048576 by omega), zaln hn ht, sfree_good hn ht, free_good hn ht, zabj, zabi, zaa7, bc_true, zaag, zacq, zaai, noTree, bindR_some', zat6, zat0, aNot_b, bnot_t, bnot_f, zabg, zabh, aCmpS_str, eqL_self]
      kernel_rfl
end
end Go.AI.T
