/- What is no tree is told as none by both. -/
import Derived.Test.YtecliakkmgoglaaGreatDoorFnMatchFn
import Derived.KernelRfl
set_option linter.unusedVariables false
set_option linter.unusedSimpArgs false
set_option maxRecDepth 100000
namespace Go.AI.T
open Go Go.RowKit Go.AI
noncomputable section
theorem bad_FnMatch (B:Blk) (N g:Nat) {l:List Nat} {n:Nat} (hn:lenL l=n) (hm:n<=1048576) (ht:isTree l=false):tells (c_laws_FnMatch_r9 (N+5) g (.str l n) (hCode B))=true:=by
 delta c_laws_FnMatch_r9 c_spec_CutMatch
 rw [match_bad hn hm ht,bindR_some',zat6,zaui]
 repeat (first | rw [zaog hn ht] | rw [bindR_some'] | rw [zat6] | rw [zaui] | rw [aNot_b] | rw [bnot_f] | rw [bnot_t] | rw [zaai] | rw [bc_true] | rw [zaag])
 kernel_rfl
def oM (B:Blk) (l:List Nat):Bool:=bc (Nat.ble (lenL l) 16) (tells (c_laws_FnMatch_r9 2097152 20 (.str l (lenL l)) (hCode B))) true
end
end Go.AI.T
