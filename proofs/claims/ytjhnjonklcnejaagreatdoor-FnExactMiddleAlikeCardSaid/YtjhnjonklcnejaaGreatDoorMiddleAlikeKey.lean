/- The law FnExactMiddleAlike, whatever the texts. -/
import Derived.Test.YtjhnjonklcnejaaGreatDoorMiddleAlikeFn
import Derived.KernelRfl
set_option linter.unusedVariables false
set_option linter.unusedSimpArgs false
set_option maxRecDepth 100000
namespace Go.AI.T
open Go Go.RowKit Go.AI
noncomputable section
theorem key_MiddleAlike {l : List Nat} {n : Nat} {l' : List Nat} {m : Nat} (hn : lenL l = n) (hm : lenL l' = m) : tells (c_laws_FnExactMiddleAlike 2097152 20 (.str l n) (.str l' m) H0) = true := by
  by_cases h20 : 1048576 < n
  · simp only [c_laws_FnExactMiddleAlike, zabj, zabi, zaa7, bc_true, zacq, zaau (show Nat.succ 1048576 <= n by omega), zaai]; kernel_rfl
  · by_cases h21 : 1048576 < m
    · simp only [c_laws_FnExactMiddleAlike, zabj, zabi, zaa7, bc_true, zaag, zacq, zabo (show n < Nat.succ 1048576 by omega), zaau (show Nat.succ 1048576 <= m by omega), zaai]; kernel_rfl
    · cases ht : isTree l with
      | false =>
        cases hu : isTree l' with
        | false =>
          simp only [c_spec_MiddleAlike_j1, c_spec_MiddleAlike_j2, c_spec_MiddleAlike, c_impl_MiddleAlike_j1, c_impl_MiddleAlike_j2, c_impl_MiddleAlike, c_laws_FnExactMiddleAlike, zabo (show n < Nat.succ 1048576 by omega), zabo (show m < Nat.succ 1048576 by omega), zao3 hn ht, free_bad hn (show n <= 1048576 by omega) ht, zao3 hm hu, free_bad hm (show m <= 1048576 by omega) hu, zabj, zabi, zaa7, bc_true, zaag, zacq, zaai, noTree, bindR_some', zat6, zat0, aNot_b, bnot_t, bnot_f, zabg, zabh, aCmpS_str, eqL_self]
          kernel_rfl
        | true =>
          simp only [c_spec_MiddleAlike_j1, c_spec_MiddleAlike_j2, c_spec_MiddleAlike, c_impl_MiddleAlike_j1, c_impl_MiddleAlike_j2, c_impl_MiddleAlike, c_laws_FnExactMiddleAlike, zabo (show n < Nat.succ 1048576 by omega), zabo (show m < Nat.succ 1048576 by omega), zao3 hn ht, free_bad hn (show n <= 1048576 by omega) ht, zaln hm hu, sfree_good hm hu, free_good hm hu, zabj, zabi, zaa7, bc_true, zaag, zacq, zaai, noTree, bindR_some', zat6, zat0, aNot_b, bnot_t, bnot_f, zabg, zabh, aCmpS_str, eqL_self]
          kernel_rfl
      | true =>
        cases hu : isTree l' with
        | false =>
          simp only [c_spec_MiddleAlike_j1, c_spec_MiddleAlike_j2, c_spec_MiddleAlike, c_impl_MiddleAlike_j1, c_impl_MiddleAlike_j2, c_impl_MiddleAlike, c_laws_FnExactMiddleAlike, zabo (show n < Nat.succ 1048576 by omega), zabo (show m < Nat.succ 1048576 by omega), zaln hn ht, sfree_good hn ht, free_good hn ht, zao3 hm hu, free_bad hm (show m <= 1048576 by omega) hu, zabj, zabi, zaa7, bc_true, zaag, zacq, zaai, noTree, bindR_some', zat6, zat0, aNot_b, bnot_t, bnot_f, zabg, zabh, aCmpS_str, eqL_self]
          kernel_rfl
        | true =>
          simp only [c_spec_MiddleAlike_j1, c_spec_MiddleAlike_j2, c_spec_MiddleAlike, c_impl_MiddleAlike_j1, c_impl_MiddleAlike_j2, c_impl_MiddleAlike, c_laws_FnExactMiddleAlike, zabo (show n < Nat.succ 1048576 by omega), zabo (show m < Nat.succ 1048576 by omega), zaln hn ht, sfree_good hn ht, free_good hn ht, zaln hm hu, sfree_good hm hu, free_good hm hu, zabj, zabi, zaa7, bc_true, zaag, zacq, zaai, noTree, bindR_some', zat6, zat0, aNot_b, bnot_t, bnot_f, zabg, zabh, aCmpS_str, eqL_self]
          cases eqL (freeL l) (freeL l') <;> kernel_rfl
end
end Go.AI.T
