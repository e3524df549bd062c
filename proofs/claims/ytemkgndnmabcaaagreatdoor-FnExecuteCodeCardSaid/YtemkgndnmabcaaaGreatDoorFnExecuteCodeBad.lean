/- What is no tree is told as none by both. -/
import Derived.Test.YtemkgndnmabcaaaGreatDoorFnExecuteCodeFn
import Derived.KernelRfl
namespace Go.AI.T
open Go Go.RowKit Go.AI
set_option linter.unusedVariables false
set_option linter.unusedSimpArgs false
set_option maxRecDepth 100000
noncomputable section
abbrev zz2 : AV := .one .tup (.cons (.int 3 (.ofNat 0)) (.cons (.bool false) (.leaf .nil)))
theorem bad_ask {F g : Nat} {l : List Nat} {n : Nat} (hn : lenL l = n) (hm : n ≤ 1048576) (ht : isTree l = false) {a u : AV} {h h1 : H} (e : ∀ k : AV → H → Option R, aClearM a h k = k u h1) : c_impl_codeBook_ask F g a (.str l n) h = some (zz2, h1) := by
  delta c_impl_codeBook_ask
  rw [e, read_bad hn hm ht, bindR_some', aExtract_0, aExtract_1, aNot_b, bnot_f, withBool_bool, bc_true]
theorem bad_impl {F g : Nat} {l : List Nat} {n : Nat} (hn : lenL l = n) (hm : n ≤ 1048576) (ht : isTree l = false) (B : Blk) : ∃ h1, c_impl_CodeOf F g (.str l n) (hCode B) = some (zz2, h1) := by
  have e0 : c_impl_CodeOf F g (.str l n) (hCode B) = bindR (c_impl_codeBook_ask F g (.leaf (.map 3)) (.str l n) ((hCode B).push (.map [] 0))) fun x2 h => aExtract x2 0 h fun x3 h => aExtract x2 1 h fun x4 h => some (AV.one .tup (AV.cons x3 (AV.cons x4 (AV.leaf .nil))), h) := rfl
  refine ⟨((hCode B).push (.map [] 0)).set 3 (.map [] 0), ?_⟩
  rw [e0, bad_ask (u := .one .tup (.leaf .nil)) (h1 := ((hCode B).push (.map [] 0)).set 3 (.map [] 0)) hn hm ht (fun k => rfl), bindR_some', aExtract_0, aExtract_1]
theorem bad_spec {F g : Nat} {l : List Nat} {n : Nat} (hn : lenL l = n) (ht : isTree l = false) (h : H) : c_spec_CodeOf F g (.str l n) h = some (zz2, h) := by
  delta c_spec_CodeOf
  rw [spec_bad hn ht, bindR_some', aNot_b, bnot_f, withBool_bool, bc_true]
theorem bad_FnExecuteCode (B : Blk) (N g : Nat) {l : List Nat} {n : Nat} (hn : lenL l = n) (hm : n ≤ 1048576) (ht : isTree l = false) : tells (c_laws_FnExecuteCode_r5 (N + 5) g (.str l n) (hCode B)) = true := by
  obtain ⟨h1, e1⟩ := bad_impl (F := N + 5) (g := g) hn hm ht B
  delta c_laws_FnExecuteCode_r5
  rw [e1, bindR_some', aExtract_0, aExtract_1, bad_spec hn ht, bindR_some', aExtract_0, aExtract_1]
  kernel_rfl
/-- One tree's trial. -/
def ok_FnExecuteCode (B : Blk) (l : List Nat) : Bool := bc (Nat.ble (lenL l) 14) (tells (c_laws_FnExecuteCode_r5 2097152 20 (.str l (lenL l)) (hCode B))) true
end
end Go.AI.T
