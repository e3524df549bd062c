/- What is no tree is told as none by both. -/
import Derived.Test.YtecliakkmgoglaaDoorFnWidestFn
import Derived.KernelRfl
namespace Go.AI.T
open Go Go.RowKit Go.AI
set_option linter.unusedVariables false
set_option linter.unusedSimpArgs false
set_option maxRecDepth 100000
noncomputable section
theorem bad_FnWidest (B:Blk) (N g:Nat) {l:List Nat} {n:Nat} (hn:lenL l=n) (hm:n ≤ 1048576) (ht:isTree l=false):tells (c_laws_FnWidest_r9 (N+5) g (.str l n) (hCode B))=true:=by
 delta c_impl_MiddleReach c_impl_MiddleWidest c_spec_MiddleWidest c_impl_TreeNodes c_impl_nodeIn c_impl_MiddleAt c_impl_TreeHeight c_laws_FnWidest_r9
 repeat (first | rw [zao5 hn ht] | rw [zanp hn hm ht] | rw [counts_bad35 hn hm ht] | rw [bindR_some'] | rw [zaue] | rw [zatw] | rw [aNot_b] | rw [bnot_f] | rw [bnot_t] | rw [zaai] | rw [bc_true] | rw [zaag])
 kernel_rfl
/-- One tree's trial. -/
def ok_FnWidest (B:Blk) (l:List Nat):Bool:=bc (Nat.ble (lenL l) 16) (tells (c_laws_FnWidest_r9 2097152 20 (.str l (lenL l)) (hCode B))) true
end
end Go.AI.T
