/- PairIn, given. -/
import Derived.Test.YtjnmogmddhichaaPrEv
import Derived.KernelRfl
namespace Go.AI.T
open Go Go.RowKit Go.AI
set_option linter.unusedVariables false
set_option linter.unusedSimpArgs false
set_option maxRecDepth 100000
noncomputable section
theorem pr_ok {l : List Nat} (ht : isTree l = true) : ok_Pr l = true := by
  have hm := isTree_mem ht
  obtain ⟨r, hr, he⟩ := List.mem_map.1 hm
  have h1 := allR_mem ok_Pr 17 1 1 (fun l => 40 :: l) evPr_all r hr
  rw [show (40 :: r) = _ from he] at h1
  exact h1
def isPr (l : List Nat) : Bool := bc (isTree l) (prL l) false
theorem isPr_mem {l : List Nat} (h : isPr l = true) : l ∈ PL := by
  unfold isPr at h
  cases ht : isTree l with
  | false => rw [ht] at h; cases h
  | true => rw [ht, bc_true] at h; exact (ok_some (pr_ok ht)).2.2 h
theorem raw_impl_PairIn {l : List Nat} {n : Nat} (hn : lenL l = n) (hm : n ≤ 1048576) (ht : isTree l = false) : ∃ h', R.c_impl_PairIn 2097152 20 (.str l n) H0 = some (.bool false, h') := by
  delta R.c_impl_PairIn R.c_impl_readPairs
  repeat (first | rw [spec_bad hn ht] | rw [read_bad hn hm ht] | rw [bindR_some'] | rw [aExtract_0] | rw [aExtract_1] | rw [aNot_b] | rw [bnot_f] | rw [bnot_t] | rw [withBool_bool] | rw [bc_true] | rw [bc_false])
  exact ⟨_, rfl⟩
def c_impl_PairIn (F g : Nat) (a0 : AV) (h : H) : Option R := withStr a0 fun l n => bc (Nat.beq (lenL l) n) (bc (Nat.ble n 1048576) (some (.bool (isPr l), h)) none) none
theorem s_impl_PairIn (F g : Nat) : ∀ args h r, u1 (c_impl_PairIn F g) args h = some r → Tri Go.Proofs.Try.prog 31 args h r := by
  intro args h r e
  obtain ⟨a0, rfl, e1⟩ := u1_some e
  obtain ⟨l, n, rfl, e2⟩ := withStr_some e1
  obtain ⟨hn, e3⟩ := bif_some e2
  obtain ⟨hm, e4⟩ := bif_some e3
  have hn := Nat.eq_of_beq_eq_true hn
  have hm := Nat.le_of_ble_eq_true hm
  cases e4
  have key : ∃ h', R.c_impl_PairIn 2097152 20 (.str l n) H0 = some (.bool (isPr l), h') := by
    unfold isPr
    cases ht : isTree l with
    | false => exact raw_impl_PairIn hn hm ht
    | true => rw [← hn]; exact (ok_some (pr_ok ht)).2.1
  obtain ⟨h', k1⟩ := key
  exact Tri.forget (R.s_impl_PairIn 2097152 20 [.str l n] H0 _ k1) (fun a ha => by cases ha with | head => rfl | tail _ ha => cases ha) rfl h
theorem pr_impl_PairIn (F g : Nat) {l : List Nat} {n : Nat} (hn : lenL l = n) (hm : n ≤ 1048576) {b : Bool} (hb : isPr l = b) (h : H) : c_impl_PairIn F g (.str l n) h = some (.bool b, h) := by
  show bc (Nat.beq (lenL l) n) (bc (Nat.ble n 1048576) (some (AV.bool (isPr l), h)) none) none = _
  rw [hn, Nat.beq_refl, ble_true hm, hb]; rfl
theorem raw_spec_PairIn {l : List Nat} {n : Nat} (hn : lenL l = n) (hm : n ≤ 1048576) (ht : isTree l = false) : ∃ h', R.c_spec_PairIn 2097152 20 (.str l n) H0 = some (.bool false, h') := by
  delta R.c_spec_PairIn
  repeat (first | rw [spec_bad hn ht] | rw [read_bad hn hm ht] | rw [bindR_some'] | rw [aExtract_0] | rw [aExtract_1] | rw [aNot_b] | rw [bnot_f] | rw [bnot_t] | rw [withBool_bool] | rw [bc_true] | rw [bc_false])
  exact ⟨_, rfl⟩
def c_spec_PairIn (F g : Nat) (a0 : AV) (h : H) : Option R := withStr a0 fun l n => bc (Nat.beq (lenL l) n) (bc (Nat.ble n 1048576) (some (.bool (isPr l), h)) none) none
theorem s_spec_PairIn (F g : Nat) : ∀ args h r, u1 (c_spec_PairIn F g) args h = some r → Tri Go.Proofs.Try.prog 34 args h r := by
  intro args h r e
  obtain ⟨a0, rfl, e1⟩ := u1_some e
  obtain ⟨l, n, rfl, e2⟩ := withStr_some e1
  obtain ⟨hn, e3⟩ := bif_some e2
  obtain ⟨hm, e4⟩ := bif_some e3
  have hn := Nat.eq_of_beq_eq_true hn
  have hm := Nat.le_of_ble_eq_true hm
  cases e4
  have key : ∃ h', R.c_spec_PairIn 2097152 20 (.str l n) H0 = some (.bool (isPr l), h') := by
    unfold isPr
    cases ht : isTree l with
    | false => exact raw_spec_PairIn hn hm ht
    | true => rw [← hn]; exact (ok_some (pr_ok ht)).1
  obtain ⟨h', k1⟩ := key
  exact Tri.forget (R.s_spec_PairIn 2097152 20 [.str l n] H0 _ k1) (fun a ha => by cases ha with | head => rfl | tail _ ha => cases ha) rfl h
theorem pr_spec_PairIn (F g : Nat) {l : List Nat} {n : Nat} (hn : lenL l = n) (hm : n ≤ 1048576) {b : Bool} (hb : isPr l = b) (h : H) : c_spec_PairIn F g (.str l n) h = some (.bool b, h) := by
  show bc (Nat.beq (lenL l) n) (bc (Nat.ble n 1048576) (some (AV.bool (isPr l), h)) none) none = _
  rw [hn, Nat.beq_refl, ble_true hm, hb]; rfl
end
end Go.AI.T
