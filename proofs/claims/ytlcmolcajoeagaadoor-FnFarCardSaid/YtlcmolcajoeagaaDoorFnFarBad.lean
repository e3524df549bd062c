/- What is no tree is told as none by both. -/
import Derived.Test.YtlcmolcajoeagaaDoorFnFarFn
import Derived.KernelRfl
namespace Go.AI.T
open Go Go.RowKit Go.AI
set_option linter.unusedVariables false
set_option linter.unusedSimpArgs false
set_option maxRecDepth 100000
noncomputable section
theorem nn (F g : Nat) (v : Int) (h : H) : c_impl_isNoNode F g (.one (.iface 68) (.one .agg (.cons (.int 3 v) (.leaf .nil)))) h = bc (pinOk h) (some (.bool true, h)) none := rfl
section
variable (F g : Nat) {l : List Nat} {n : Nat} (v : Int) (hn : lenL l = n) (hm : n ≤ 1048576) (ht : isTree l = false)
include hn ht
theorem bad_node (h : H) : c_spec_l1Node F g (.str l n) (.int 3 v) h = some (.bool false, h) := by
  unfold c_spec_l1Node; rw [spec_bad hn ht]; kernel_rfl
theorem bad_spec (h : H) : c_spec_MiddleFar F g (.str l n) (.int 3 v) h = some ((AV.one .tup (.cons (.leaf (.sl h.n 0 0 0)) (.cons (.bool false) (.leaf .nil)))), h.push (.cells 0 [])) := by
  unfold c_spec_MiddleFar; rw [bad_node F g v hn ht]; kernel_rfl
include hm
theorem bad_in (h : H) : c_impl_nodeIn F g (.str l n) (.int 3 v) h = some (AV.one .tup (.cons (.leaf .nilp) (.cons (.one (.iface 68) (.one .agg (.cons (.int 3 v) (.leaf .nil)))) (.leaf .nil))), h) := by
  unfold c_impl_nodeIn; rw [read_bad hn hm ht]; kernel_rfl
theorem bad_impl (h : H) : c_impl_MiddleFar F g (.str l n) (.int 3 v) h = bc (pinOk h) (some ((AV.one .tup (.cons (.leaf .nils) (.cons (.bool false) (.leaf .nil)))), h)) none := by
  unfold c_impl_MiddleFar; rw [bad_in F g v hn hm ht]
  rw [bindR_some']
  rw [aExtract_0, aExtract_1, nn]
  cases hp : pinOk h with
  | true => kernel_rfl
  | false => kernel_rfl
end
theorem bad_FnFar (B : Blk) (N g : Nat) {l : List Nat} {n : Nat} (z : Int) (hn : lenL l = n) (hm : n ≤ 1048576) (ht : isTree l = false) : tells (c_laws_FnFar_r10 (N + 5) g (.one .tup (.cons (.str l n) (.cons (.int 3 z) (.leaf .nil)))) (hCode B)) = true := by
  delta c_laws_FnFar_r10
  rw [aExtract_0, aExtract_1, bad_impl (N + 5) g z hn hm ht, show pinOk (hCode B) = true from rfl, bc_true, bindR_some', aExtract_0, aExtract_1, bad_spec (N + 5) g z hn ht, bindR_some', aExtract_0, aExtract_1]
  kernel_rfl
/-- One tree's trial at one node. -/
def one_FnFar (B : Blk) (l : List Nat) (z : Int) : Bool := tells (c_laws_FnFar_r10 2097152 20 (.one .tup (.cons (.str l (lenL l)) (.cons (.int 3 z) (.leaf .nil)))) (hCode B))
def low_FnFar (B : Blk) (l : List Nat) (k : Nat) : Bool := @Nat.rec (fun _ => Bool) true (fun j r => bc (one_FnFar B l (.ofNat j)) r false) k
def ok_FnFar (B : Blk) (l : List Nat) : Bool := bc (Nat.ble (lenL l) 16) (bc (one_FnFar B l (.negSucc 0)) (low_FnFar B l 9) false) true
theorem low_FnFar_some {B : Blk} {l : List Nat} : ∀ k, low_FnFar B l k = true → ∀ j, j < k → one_FnFar B l (.ofNat j) = true
  | 0, _, j, hj => by omega
  | k + 1, h, j, hj => by
    have h : bc (one_FnFar B l (.ofNat k)) (low_FnFar B l k) false = true := h
    cases h1 : one_FnFar B l (.ofNat k) with
    | false => rw [h1] at h; cases h
    | true =>
      rw [h1, bc_true] at h
      by_cases e : j = k
      · subst e; exact h1
      · exact low_FnFar_some k h j (by omega)
theorem ok_FnFar_one {B : Blk} {l : List Nat} {z : Int} (h : ok_FnFar B l = true) (hl : l.length ≤ 16) (hz : z = .negSucc 0 ∨ ∃ j, z = .ofNat j ∧ j ≤ l.length / 2 + 0) : one_FnFar B l z = true := by
  unfold ok_FnFar at h
  rw [lenL_eq, ble_true hl, bc_true] at h
  cases h1 : one_FnFar B l (.negSucc 0) with
  | false => rw [h1] at h; cases h
  | true =>
    rw [h1, bc_true] at h
    rcases hz with rfl | ⟨j, rfl, hj⟩
    · exact h1
    · exact low_FnFar_some 9 h j (by omega)
end
end Go.AI.T
