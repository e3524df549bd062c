/- What is no tree is told as none by both. -/
import Derived.Test.YthheobnfkfdocaaGreatDoorFnFreeCountFn
import Derived.KernelRfl
namespace Go.AI.T
open Go Go.RowKit Go.AI
set_option linter.unusedVariables false
set_option linter.unusedSimpArgs false
set_option maxRecDepth 100000
noncomputable section
theorem bad_FnFreeCount (B : Blk) (N g : Nat) {l : List Nat} {n : Nat} (hn : lenL l = n) (hm : n ≤ 1048576) (ht : isTree l = false) : tells (c_laws_FnFreeCount_r10 (N + 5) g (.str l n) (hCode B)) = true := by
  skip
  simp only [c_impl_freeIn_46f8, c_impl_CutFreeCount, c_spec_CutFreeCount, c_impl_countsIn, c_impl_leastNodes, c_impl_MiddleCentre, c_impl_nodeIn, c_impl_MiddleAt, c_impl_TreeSorted, c_impl_MiddleFree, c_impl_CutFree, c_impl_TreeNodes, c_laws_FnFreeCount_r10, zaod hn ht, zanl hn hm ht, noTree, zabj, zabi, zaa7, bc_true, zaah, zacp, zaai, noTree, bindR_some', zaub, zatc, aNot_b, bnot_t, bnot_f, zabg, zabh]
  kernel_rfl
/-- One tree's trial. -/
def ok_FnFreeCount (B : Blk) (l : List Nat) : Bool := bc (Nat.ble (lenL l) 16) (tells (c_laws_FnFreeCount_r10 2097152 20 (.str l (lenL l)) (hCode B))) true
end
end Go.AI.T
