/- What is no tree is told as none by both. -/
import Derived.Test.YtkdialpmplolcaaFnPartFn
import Derived.KernelRfl
namespace Go.AI.T
open Go Go.RowKit Go.AI
set_option linter.unusedVariables false
set_option linter.unusedSimpArgs false
set_option maxRecDepth 100000
noncomputable section
theorem bad_FnPart (B : Blk) (N g : Nat) {l : List Nat} {n : Nat} (z : Int) (hn : lenL l = n) (hm : n ≤ 1048576) (ht : isTree l = false) : tells (c_laws_FnPart_r9 (N + 5) g (.one .tup (.cons (.str l n) (.cons (.int 3 z) (.leaf .nil)))) (hCode B)) = true := by
  cases z <;> (
  delta c_impl_TreePart c_spec_l1Node c_spec_TreePart c_impl_TreeNodes c_impl_countsIn c_impl_CountSizes c_laws_FnPart_r9
  repeat (first | rw [spec_bad hn ht] | rw [read_bad hn hm ht] | rw [bindR_some'] | rw [aExtract_0] | rw [aExtract_1] | rw [aNot_b] | rw [bnot_f] | rw [bnot_t] | rw [withBool_bool] | rw [bc_true] | rw [bc_false])
  kernel_rfl)
/-- One tree's trial at one node. -/
def one_FnPart (B : Blk) (l : List Nat) (z : Int) : Bool := tells (c_laws_FnPart_r9 2097152 20 (.one .tup (.cons (.str l (lenL l)) (.cons (.int 3 z) (.leaf .nil)))) (hCode B))
def low_FnPart (B : Blk) (l : List Nat) (k : Nat) : Bool := @Nat.rec (fun _ => Bool) true (fun j r => bc (one_FnPart B l (.ofNat j)) r false) k
def ok_FnPart (B : Blk) (l : List Nat) : Bool := bc (Nat.ble (lenL l) 16) (bc (one_FnPart B l (.negSucc 0)) (low_FnPart B l 9) false) true
theorem low_FnPart_some {B : Blk} {l : List Nat} : ∀ k, low_FnPart B l k = true → ∀ j, j < k → one_FnPart B l (.ofNat j) = true
  | 0, _, j, hj => by omega
  | k + 1, h, j, hj => by
    have h : bc (one_FnPart B l (.ofNat k)) (low_FnPart B l k) false = true := h
    cases h1 : one_FnPart B l (.ofNat k) with
    | false => rw [h1] at h; cases h
    | true =>
      rw [h1, bc_true] at h
      by_cases e : j = k
      · subst e; exact h1
      · exact low_FnPart_some k h j (by omega)
theorem ok_FnPart_one {B : Blk} {l : List Nat} {z : Int} (h : ok_FnPart B l = true) (hl : l.length ≤ 16) (hz : z = .negSucc 0 ∨ ∃ j, z = .ofNat j ∧ j ≤ l.length / 2 + 0) : one_FnPart B l z = true := by
  unfold ok_FnPart at h
  rw [lenL_eq, ble_true hl, bc_true] at h
  cases h1 : one_FnPart B l (.negSucc 0) with
  | false => rw [h1] at h; cases h
  | true =>
    rw [h1, bc_true] at h
    rcases hz with rfl | ⟨j, rfl, hj⟩
    · exact h1
    · exact low_FnPart_some 9 h j (by omega)
end
end Go.AI.T
