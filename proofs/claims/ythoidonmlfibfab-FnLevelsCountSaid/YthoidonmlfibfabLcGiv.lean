/- The counts. -/
import Derived.Test.YthoidonmlfibfabLcRun
import Derived.KernelRfl
namespace Go.AI.X
open Go Go.RowKit Go.AI
set_option linter.unusedVariables false
set_option linter.unusedSimpArgs false
set_option maxRecDepth 100000
noncomputable section
def mem1 : H := ((((H0.push (.cells 0 [])).push (.cells 0 [])).push (.cells 0 [.int 3 (.ofNat 0)])).push (.cells 0 [.int 3 (.ofNat 0)]))
theorem all1 (g m : Nat) : c_impl_allLevels (m + 14) g (.int 3 (.ofNat 1)) H0 = loopD (m + 14) (c_impl_allLevels_l1 (m + 14) g) [.leaf (.sl 0 0 0 0), .osl 3 0 1 1, .bool true] mem1 := by kernel_rfl
theorem memb1 : mem1.get 3 = .cells 0 [.int 3 (.ofNat 0)] := by kernel_rfl
theorem mema1 : mem1.get 0 = .cells 0 [] := by kernel_rfl
theorem memn1 : 3 < mem1.n := Nat.le_of_ble_eq_true (by kernel_rfl)
theorem memz1 : 0 < mem1.n := Nat.le_of_ble_eq_true (by kernel_rfl)
theorem len1 (F g : Nat) (x : AV) (h0 : H) (e : ∃ a h, c_impl_allLevels F g (.int 3 (.ofNat 1)) H0 = some (.osl a 0 1 1, h)) : ∃ h, c_impl_LevelsCount F g (.int 3 (.ofNat 1)) H0 = some (.one .tup (.cons (.int 3 (.ofNat 1)) (.cons (.bool true) (.leaf .nil))), h) := by
  obtain ⟨a, h, e⟩ := e
  refine ⟨h, ?_⟩
  refine (show _ = bindR (c_impl_allLevels F g (.int 3 (.ofNat 1)) H0) (fun x7 h => aLenK 1 x7 h fun x8 h => some (AV.one .tup (AV.cons x8 (AV.cons (AV.bool true) (AV.leaf .nil))), h)) from rfl).trans ?_
  rw [e]; rfl
theorem count1 (g : Nat) {F m : Nat} (hF : F = m + 14) (hm : m = 4977) : ∃ h, c_impl_LevelsCount F g (.int 3 (.ofNat 1)) H0 = some (.one .tup (.cons (.int 3 (.ofNat 1)) (.cons (.bool true) (.leaf .nil))), h) := by
  subst hF
  apply len1 _ _ (.leaf .nil) H0
  rw [all1]
  obtain ⟨k, hk, hk2⟩ : ∃ k, m + 14 = k + 1 ∧ k = 4990 := ⟨m + 13, rfl, by omega⟩
  have hc := cnt1
  rw [← hk2] at hc
  have := loop_run (m + 14) g k _ 0 _ hc (.leaf (.sl 0 0 0 0)) mem1 3 (.inr ⟨rfl, 0, rfl, memz1, mema1⟩) memb1 memn1 (by omega)
  rw [← hk] at this
  exact this
def mem2 : H := (((((((H0.push (.cells 0 [])).push (.cells 0 [])).push (.cells 0 [.int 3 (.ofNat 0)])).push (.cells 0 [.int 3 (.ofNat 0)])).push (.cells 0 [.int 3 (.ofNat 1)])).set 3 .dead).push (.cells 0 [.int 3 (.ofNat 0), .int 3 (.ofNat 1)]))
theorem all2 (g m : Nat) : c_impl_allLevels (m + 14) g (.int 3 (.ofNat 2)) H0 = loopD (m + 14) (c_impl_allLevels_l1 (m + 14) g) [.leaf (.sl 0 0 0 0), .osl 5 0 2 1, .bool true] mem2 := by kernel_rfl
theorem memb2 : mem2.get 5 = .cells 0 [.int 3 (.ofNat 0), .int 3 (.ofNat 1)] := by kernel_rfl
theorem mema2 : mem2.get 0 = .cells 0 [] := by kernel_rfl
theorem memn2 : 5 < mem2.n := Nat.le_of_ble_eq_true (by kernel_rfl)
theorem memz2 : 0 < mem2.n := Nat.le_of_ble_eq_true (by kernel_rfl)
theorem len2 (F g : Nat) (x : AV) (h0 : H) (e : ∃ a h, c_impl_allLevels F g (.int 3 (.ofNat 2)) H0 = some (.osl a 0 1 1, h)) : ∃ h, c_impl_LevelsCount F g (.int 3 (.ofNat 2)) H0 = some (.one .tup (.cons (.int 3 (.ofNat 1)) (.cons (.bool true) (.leaf .nil))), h) := by
  obtain ⟨a, h, e⟩ := e
  refine ⟨h, ?_⟩
  refine (show _ = bindR (c_impl_allLevels F g (.int 3 (.ofNat 2)) H0) (fun x7 h => aLenK 1 x7 h fun x8 h => some (AV.one .tup (AV.cons x8 (AV.cons (AV.bool true) (AV.leaf .nil))), h)) from rfl).trans ?_
  rw [e]; rfl
theorem count2 (g : Nat) {F m : Nat} (hF : F = m + 14) (hm : m = 4977) : ∃ h, c_impl_LevelsCount F g (.int 3 (.ofNat 2)) H0 = some (.one .tup (.cons (.int 3 (.ofNat 1)) (.cons (.bool true) (.leaf .nil))), h) := by
  subst hF
  apply len2 _ _ (.leaf .nil) H0
  rw [all2]
  obtain ⟨k, hk, hk2⟩ : ∃ k, m + 14 = k + 1 ∧ k = 4990 := ⟨m + 13, rfl, by omega⟩
  have hc := cnt2
  rw [← hk2] at hc
  have := loop_run (m + 14) g k _ 0 _ hc (.leaf (.sl 0 0 0 0)) mem2 5 (.inr ⟨rfl, 0, rfl, memz2, mema2⟩) memb2 memn2 (by omega)
  rw [← hk] at this
  exact this
def mem3 : H := ((((((((((H0.push (.cells 0 [])).push (.cells 0 [])).push (.cells 0 [.int 3 (.ofNat 0)])).push (.cells 0 [.int 3 (.ofNat 0)])).push (.cells 0 [.int 3 (.ofNat 1)])).set 3 .dead).push (.cells 0 [.int 3 (.ofNat 0), .int 3 (.ofNat 1)])).push (.cells 0 [.int 3 (.ofNat 2)])).set 5 .dead).push (.cells 0 [.int 3 (.ofNat 0), .int 3 (.ofNat 1), .int 3 (.ofNat 2)]))
theorem all3 (g m : Nat) : c_impl_allLevels (m + 14) g (.int 3 (.ofNat 3)) H0 = loopD (m + 14) (c_impl_allLevels_l1 (m + 14) g) [.leaf (.sl 0 0 0 0), .osl 7 0 3 1, .bool true] mem3 := by kernel_rfl
theorem memb3 : mem3.get 7 = .cells 0 [.int 3 (.ofNat 0), .int 3 (.ofNat 1), .int 3 (.ofNat 2)] := by kernel_rfl
theorem mema3 : mem3.get 0 = .cells 0 [] := by kernel_rfl
theorem memn3 : 7 < mem3.n := Nat.le_of_ble_eq_true (by kernel_rfl)
theorem memz3 : 0 < mem3.n := Nat.le_of_ble_eq_true (by kernel_rfl)
theorem len3 (F g : Nat) (x : AV) (h0 : H) (e : ∃ a h, c_impl_allLevels F g (.int 3 (.ofNat 3)) H0 = some (.osl a 0 2 1, h)) : ∃ h, c_impl_LevelsCount F g (.int 3 (.ofNat 3)) H0 = some (.one .tup (.cons (.int 3 (.ofNat 2)) (.cons (.bool true) (.leaf .nil))), h) := by
  obtain ⟨a, h, e⟩ := e
  refine ⟨h, ?_⟩
  refine (show _ = bindR (c_impl_allLevels F g (.int 3 (.ofNat 3)) H0) (fun x7 h => aLenK 1 x7 h fun x8 h => some (AV.one .tup (AV.cons x8 (AV.cons (AV.bool true) (AV.leaf .nil))), h)) from rfl).trans ?_
  rw [e]; rfl
theorem count3 (g : Nat) {F m : Nat} (hF : F = m + 14) (hm : m = 4977) : ∃ h, c_impl_LevelsCount F g (.int 3 (.ofNat 3)) H0 = some (.one .tup (.cons (.int 3 (.ofNat 2)) (.cons (.bool true) (.leaf .nil))), h) := by
  subst hF
  apply len3 _ _ (.leaf .nil) H0
  rw [all3]
  obtain ⟨k, hk, hk2⟩ : ∃ k, m + 14 = k + 1 ∧ k = 4990 := ⟨m + 13, rfl, by omega⟩
  have hc := cnt3
  rw [← hk2] at hc
  have := loop_run (m + 14) g k _ 0 _ hc (.leaf (.sl 0 0 0 0)) mem3 7 (.inr ⟨rfl, 0, rfl, memz3, mema3⟩) memb3 memn3 (by omega)
  rw [← hk] at this
  exact this
def mem4 : H := (((((((((((((H0.push (.cells 0 [])).push (.cells 0 [])).push (.cells 0 [.int 3 (.ofNat 0)])).push (.cells 0 [.int 3 (.ofNat 0)])).push (.cells 0 [.int 3 (.ofNat 1)])).set 3 .dead).push (.cells 0 [.int 3 (.ofNat 0), .int 3 (.ofNat 1)])).push (.cells 0 [.int 3 (.ofNat 2)])).set 5 .dead).push (.cells 0 [.int 3 (.ofNat 0), .int 3 (.ofNat 1), .int 3 (.ofNat 2)])).push (.cells 0 [.int 3 (.ofNat 3)])).set 7 .dead).push (.cells 0 [.int 3 (.ofNat 0), .int 3 (.ofNat 1), .int 3 (.ofNat 2), .int 3 (.ofNat 3)]))
theorem all4 (g m : Nat) : c_impl_allLevels (m + 14) g (.int 3 (.ofNat 4)) H0 = loopD (m + 14) (c_impl_allLevels_l1 (m + 14) g) [.leaf (.sl 0 0 0 0), .osl 9 0 4 1, .bool true] mem4 := by kernel_rfl
theorem memb4 : mem4.get 9 = .cells 0 [.int 3 (.ofNat 0), .int 3 (.ofNat 1), .int 3 (.ofNat 2), .int 3 (.ofNat 3)] := by kernel_rfl
theorem mema4 : mem4.get 0 = .cells 0 [] := by kernel_rfl
theorem memn4 : 9 < mem4.n := Nat.le_of_ble_eq_true (by kernel_rfl)
theorem memz4 : 0 < mem4.n := Nat.le_of_ble_eq_true (by kernel_rfl)
theorem len4 (F g : Nat) (x : AV) (h0 : H) (e : ∃ a h, c_impl_allLevels F g (.int 3 (.ofNat 4)) H0 = some (.osl a 0 4 1, h)) : ∃ h, c_impl_LevelsCount F g (.int 3 (.ofNat 4)) H0 = some (.one .tup (.cons (.int 3 (.ofNat 4)) (.cons (.bool true) (.leaf .nil))), h) := by
  obtain ⟨a, h, e⟩ := e
  refine ⟨h, ?_⟩
  refine (show _ = bindR (c_impl_allLevels F g (.int 3 (.ofNat 4)) H0) (fun x7 h => aLenK 1 x7 h fun x8 h => some (AV.one .tup (AV.cons x8 (AV.cons (AV.bool true) (AV.leaf .nil))), h)) from rfl).trans ?_
  rw [e]; rfl
theorem count4 (g : Nat) {F m : Nat} (hF : F = m + 14) (hm : m = 4977) : ∃ h, c_impl_LevelsCount F g (.int 3 (.ofNat 4)) H0 = some (.one .tup (.cons (.int 3 (.ofNat 4)) (.cons (.bool true) (.leaf .nil))), h) := by
  subst hF
  apply len4 _ _ (.leaf .nil) H0
  rw [all4]
  obtain ⟨k, hk, hk2⟩ : ∃ k, m + 14 = k + 1 ∧ k = 4990 := ⟨m + 13, rfl, by omega⟩
  have hc := cnt4
  rw [← hk2] at hc
  have := loop_run (m + 14) g k _ 0 _ hc (.leaf (.sl 0 0 0 0)) mem4 9 (.inr ⟨rfl, 0, rfl, memz4, mema4⟩) memb4 memn4 (by omega)
  rw [← hk] at this
  exact this
def mem5 : H := ((((((((((((((((H0.push (.cells 0 [])).push (.cells 0 [])).push (.cells 0 [.int 3 (.ofNat 0)])).push (.cells 0 [.int 3 (.ofNat 0)])).push (.cells 0 [.int 3 (.ofNat 1)])).set 3 .dead).push (.cells 0 [.int 3 (.ofNat 0), .int 3 (.ofNat 1)])).push (.cells 0 [.int 3 (.ofNat 2)])).set 5 .dead).push (.cells 0 [.int 3 (.ofNat 0), .int 3 (.ofNat 1), .int 3 (.ofNat 2)])).push (.cells 0 [.int 3 (.ofNat 3)])).set 7 .dead).push (.cells 0 [.int 3 (.ofNat 0), .int 3 (.ofNat 1), .int 3 (.ofNat 2), .int 3 (.ofNat 3)])).push (.cells 0 [.int 3 (.ofNat 4)])).set 9 .dead).push (.cells 0 [.int 3 (.ofNat 0), .int 3 (.ofNat 1), .int 3 (.ofNat 2), .int 3 (.ofNat 3), .int 3 (.ofNat 4)]))
theorem all5 (g m : Nat) : c_impl_allLevels (m + 14) g (.int 3 (.ofNat 5)) H0 = loopD (m + 14) (c_impl_allLevels_l1 (m + 14) g) [.leaf (.sl 0 0 0 0), .osl 11 0 5 1, .bool true] mem5 := by kernel_rfl
theorem memb5 : mem5.get 11 = .cells 0 [.int 3 (.ofNat 0), .int 3 (.ofNat 1), .int 3 (.ofNat 2), .int 3 (.ofNat 3), .int 3 (.ofNat 4)] := by kernel_rfl
theorem mema5 : mem5.get 0 = .cells 0 [] := by kernel_rfl
theorem memn5 : 11 < mem5.n := Nat.le_of_ble_eq_true (by kernel_rfl)
theorem memz5 : 0 < mem5.n := Nat.le_of_ble_eq_true (by kernel_rfl)
theorem len5 (F g : Nat) (x : AV) (h0 : H) (e : ∃ a h, c_impl_allLevels F g (.int 3 (.ofNat 5)) H0 = some (.osl a 0 9 1, h)) : ∃ h, c_impl_LevelsCount F g (.int 3 (.ofNat 5)) H0 = some (.one .tup (.cons (.int 3 (.ofNat 9)) (.cons (.bool true) (.leaf .nil))), h) := by
  obtain ⟨a, h, e⟩ := e
  refine ⟨h, ?_⟩
  refine (show _ = bindR (c_impl_allLevels F g (.int 3 (.ofNat 5)) H0) (fun x7 h => aLenK 1 x7 h fun x8 h => some (AV.one .tup (AV.cons x8 (AV.cons (AV.bool true) (AV.leaf .nil))), h)) from rfl).trans ?_
  rw [e]; rfl
theorem count5 (g : Nat) {F m : Nat} (hF : F = m + 14) (hm : m = 4977) : ∃ h, c_impl_LevelsCount F g (.int 3 (.ofNat 5)) H0 = some (.one .tup (.cons (.int 3 (.ofNat 9)) (.cons (.bool true) (.leaf .nil))), h) := by
  subst hF
  apply len5 _ _ (.leaf .nil) H0
  rw [all5]
  obtain ⟨k, hk, hk2⟩ : ∃ k, m + 14 = k + 1 ∧ k = 4990 := ⟨m + 13, rfl, by omega⟩
  have hc := cnt5
  rw [← hk2] at hc
  have := loop_run (m + 14) g k _ 0 _ hc (.leaf (.sl 0 0 0 0)) mem5 11 (.inr ⟨rfl, 0, rfl, memz5, mema5⟩) memb5 memn5 (by omega)
  rw [← hk] at this
  exact this
def mem6 : H := (((((((((((((((((((H0.push (.cells 0 [])).push (.cells 0 [])).push (.cells 0 [.int 3 (.ofNat 0)])).push (.cells 0 [.int 3 (.ofNat 0)])).push (.cells 0 [.int 3 (.ofNat 1)])).set 3 .dead).push (.cells 0 [.int 3 (.ofNat 0), .int 3 (.ofNat 1)])).push (.cells 0 [.int 3 (.ofNat 2)])).set 5 .dead).push (.cells 0 [.int 3 (.ofNat 0), .int 3 (.ofNat 1), .int 3 (.ofNat 2)])).push (.cells 0 [.int 3 (.ofNat 3)])).set 7 .dead).push (.cells 0 [.int 3 (.ofNat 0), .int 3 (.ofNat 1), .int 3 (.ofNat 2), .int 3 (.ofNat 3)])).push (.cells 0 [.int 3 (.ofNat 4)])).set 9 .dead).push (.cells 0 [.int 3 (.ofNat 0), .int 3 (.ofNat 1), .int 3 (.ofNat 2), .int 3 (.ofNat 3), .int 3 (.ofNat 4)])).push (.cells 0 [.int 3 (.ofNat 5)])).set 11 .dead).push (.cells 0 [.int 3 (.ofNat 0), .int 3 (.ofNat 1), .int 3 (.ofNat 2), .int 3 (.ofNat 3), .int 3 (.ofNat 4), .int 3 (.ofNat 5)]))
theorem all6 (g m : Nat) : c_impl_allLevels (m + 14) g (.int 3 (.ofNat 6)) H0 = loopD (m + 14) (c_impl_allLevels_l1 (m + 14) g) [.leaf (.sl 0 0 0 0), .osl 13 0 6 1, .bool true] mem6 := by kernel_rfl
theorem memb6 : mem6.get 13 = .cells 0 [.int 3 (.ofNat 0), .int 3 (.ofNat 1), .int 3 (.ofNat 2), .int 3 (.ofNat 3), .int 3 (.ofNat 4), .int 3 (.ofNat 5)] := by kernel_rfl
theorem mema6 : mem6.get 0 = .cells 0 [] := by kernel_rfl
theorem memn6 : 13 < mem6.n := Nat.le_of_ble_eq_true (by kernel_rfl)
theorem memz6 : 0 < mem6.n := Nat.le_of_ble_eq_true (by kernel_rfl)
theorem len6 (F g : Nat) (x : AV) (h0 : H) (e : ∃ a h, c_impl_allLevels F g (.int 3 (.ofNat 6)) H0 = some (.osl a 0 20 1, h)) : ∃ h, c_impl_LevelsCount F g (.int 3 (.ofNat 6)) H0 = some (.one .tup (.cons (.int 3 (.ofNat 20)) (.cons (.bool true) (.leaf .nil))), h) := by
  obtain ⟨a, h, e⟩ := e
  refine ⟨h, ?_⟩
  refine (show _ = bindR (c_impl_allLevels F g (.int 3 (.ofNat 6)) H0) (fun x7 h => aLenK 1 x7 h fun x8 h => some (AV.one .tup (AV.cons x8 (AV.cons (AV.bool true) (AV.leaf .nil))), h)) from rfl).trans ?_
  rw [e]; rfl
theorem count6 (g : Nat) {F m : Nat} (hF : F = m + 14) (hm : m = 4977) : ∃ h, c_impl_LevelsCount F g (.int 3 (.ofNat 6)) H0 = some (.one .tup (.cons (.int 3 (.ofNat 20)) (.cons (.bool true) (.leaf .nil))), h) := by
  subst hF
  apply len6 _ _ (.leaf .nil) H0
  rw [all6]
  obtain ⟨k, hk, hk2⟩ : ∃ k, m + 14 = k + 1 ∧ k = 4990 := ⟨m + 13, rfl, by omega⟩
  have hc := cnt6
  rw [← hk2] at hc
  have := loop_run (m + 14) g k _ 0 _ hc (.leaf (.sl 0 0 0 0)) mem6 13 (.inr ⟨rfl, 0, rfl, memz6, mema6⟩) memb6 memn6 (by omega)
  rw [← hk] at this
  exact this
def mem7 : H := ((((((((((((((((((((((H0.push (.cells 0 [])).push (.cells 0 [])).push (.cells 0 [.int 3 (.ofNat 0)])).push (.cells 0 [.int 3 (.ofNat 0)])).push (.cells 0 [.int 3 (.ofNat 1)])).set 3 .dead).push (.cells 0 [.int 3 (.ofNat 0), .int 3 (.ofNat 1)])).push (.cells 0 [.int 3 (.ofNat 2)])).set 5 .dead).push (.cells 0 [.int 3 (.ofNat 0), .int 3 (.ofNat 1), .int 3 (.ofNat 2)])).push (.cells 0 [.int 3 (.ofNat 3)])).set 7 .dead).push (.cells 0 [.int 3 (.ofNat 0), .int 3 (.ofNat 1), .int 3 (.ofNat 2), .int 3 (.ofNat 3)])).push (.cells 0 [.int 3 (.ofNat 4)])).set 9 .dead).push (.cells 0 [.int 3 (.ofNat 0), .int 3 (.ofNat 1), .int 3 (.ofNat 2), .int 3 (.ofNat 3), .int 3 (.ofNat 4)])).push (.cells 0 [.int 3 (.ofNat 5)])).set 11 .dead).push (.cells 0 [.int 3 (.ofNat 0), .int 3 (.ofNat 1), .int 3 (.ofNat 2), .int 3 (.ofNat 3), .int 3 (.ofNat 4), .int 3 (.ofNat 5)])).push (.cells 0 [.int 3 (.ofNat 6)])).set 13 .dead).push (.cells 0 [.int 3 (.ofNat 0), .int 3 (.ofNat 1), .int 3 (.ofNat 2), .int 3 (.ofNat 3), .int 3 (.ofNat 4), .int 3 (.ofNat 5), .int 3 (.ofNat 6)]))
theorem all7 (g m : Nat) : c_impl_allLevels (m + 14) g (.int 3 (.ofNat 7)) H0 = loopD (m + 14) (c_impl_allLevels_l1 (m + 14) g) [.leaf (.sl 0 0 0 0), .osl 15 0 7 1, .bool true] mem7 := by kernel_rfl
theorem memb7 : mem7.get 15 = .cells 0 [.int 3 (.ofNat 0), .int 3 (.ofNat 1), .int 3 (.ofNat 2), .int 3 (.ofNat 3), .int 3 (.ofNat 4), .int 3 (.ofNat 5), .int 3 (.ofNat 6)] := by kernel_rfl
theorem mema7 : mem7.get 0 = .cells 0 [] := by kernel_rfl
theorem memn7 : 15 < mem7.n := Nat.le_of_ble_eq_true (by kernel_rfl)
theorem memz7 : 0 < mem7.n := Nat.le_of_ble_eq_true (by kernel_rfl)
theorem len7 (F g : Nat) (x : AV) (h0 : H) (e : ∃ a h, c_impl_allLevels F g (.int 3 (.ofNat 7)) H0 = some (.osl a 0 48 1, h)) : ∃ h, c_impl_LevelsCount F g (.int 3 (.ofNat 7)) H0 = some (.one .tup (.cons (.int 3 (.ofNat 48)) (.cons (.bool true) (.leaf .nil))), h) := by
  obtain ⟨a, h, e⟩ := e
  refine ⟨h, ?_⟩
  refine (show _ = bindR (c_impl_allLevels F g (.int 3 (.ofNat 7)) H0) (fun x7 h => aLenK 1 x7 h fun x8 h => some (AV.one .tup (AV.cons x8 (AV.cons (AV.bool true) (AV.leaf .nil))), h)) from rfl).trans ?_
  rw [e]; rfl
theorem count7 (g : Nat) {F m : Nat} (hF : F = m + 14) (hm : m = 4977) : ∃ h, c_impl_LevelsCount F g (.int 3 (.ofNat 7)) H0 = some (.one .tup (.cons (.int 3 (.ofNat 48)) (.cons (.bool true) (.leaf .nil))), h) := by
  subst hF
  apply len7 _ _ (.leaf .nil) H0
  rw [all7]
  obtain ⟨k, hk, hk2⟩ : ∃ k, m + 14 = k + 1 ∧ k = 4990 := ⟨m + 13, rfl, by omega⟩
  have hc := cnt7
  rw [← hk2] at hc
  have := loop_run (m + 14) g k _ 0 _ hc (.leaf (.sl 0 0 0 0)) mem7 15 (.inr ⟨rfl, 0, rfl, memz7, mema7⟩) memb7 memn7 (by omega)
  rw [← hk] at this
  exact this
def mem8 : H := (((((((((((((((((((((((((H0.push (.cells 0 [])).push (.cells 0 [])).push (.cells 0 [.int 3 (.ofNat 0)])).push (.cells 0 [.int 3 (.ofNat 0)])).push (.cells 0 [.int 3 (.ofNat 1)])).set 3 .dead).push (.cells 0 [.int 3 (.ofNat 0), .int 3 (.ofNat 1)])).push (.cells 0 [.int 3 (.ofNat 2)])).set 5 .dead).push (.cells 0 [.int 3 (.ofNat 0), .int 3 (.ofNat 1), .int 3 (.ofNat 2)])).push (.cells 0 [.int 3 (.ofNat 3)])).set 7 .dead).push (.cells 0 [.int 3 (.ofNat 0), .int 3 (.ofNat 1), .int 3 (.ofNat 2), .int 3 (.ofNat 3)])).push (.cells 0 [.int 3 (.ofNat 4)])).set 9 .dead).push (.cells 0 [.int 3 (.ofNat 0), .int 3 (.ofNat 1), .int 3 (.ofNat 2), .int 3 (.ofNat 3), .int 3 (.ofNat 4)])).push (.cells 0 [.int 3 (.ofNat 5)])).set 11 .dead).push (.cells 0 [.int 3 (.ofNat 0), .int 3 (.ofNat 1), .int 3 (.ofNat 2), .int 3 (.ofNat 3), .int 3 (.ofNat 4), .int 3 (.ofNat 5)])).push (.cells 0 [.int 3 (.ofNat 6)])).set 13 .dead).push (.cells 0 [.int 3 (.ofNat 0), .int 3 (.ofNat 1), .int 3 (.ofNat 2), .int 3 (.ofNat 3), .int 3 (.ofNat 4), .int 3 (.ofNat 5), .int 3 (.ofNat 6)])).push (.cells 0 [.int 3 (.ofNat 7)])).set 15 .dead).push (.cells 0 [.int 3 (.ofNat 0), .int 3 (.ofNat 1), .int 3 (.ofNat 2), .int 3 (.ofNat 3), .int 3 (.ofNat 4), .int 3 (.ofNat 5), .int 3 (.ofNat 6), .int 3 (.ofNat 7)]))
theorem all8 (g m : Nat) : c_impl_allLevels (m + 14) g (.int 3 (.ofNat 8)) H0 = loopD (m + 14) (c_impl_allLevels_l1 (m + 14) g) [.leaf (.sl 0 0 0 0), .osl 17 0 8 1, .bool true] mem8 := by kernel_rfl
theorem memb8 : mem8.get 17 = .cells 0 [.int 3 (.ofNat 0), .int 3 (.ofNat 1), .int 3 (.ofNat 2), .int 3 (.ofNat 3), .int 3 (.ofNat 4), .int 3 (.ofNat 5), .int 3 (.ofNat 6), .int 3 (.ofNat 7)] := by kernel_rfl
theorem mema8 : mem8.get 0 = .cells 0 [] := by kernel_rfl
theorem memn8 : 17 < mem8.n := Nat.le_of_ble_eq_true (by kernel_rfl)
theorem memz8 : 0 < mem8.n := Nat.le_of_ble_eq_true (by kernel_rfl)
theorem len8 (F g : Nat) (x : AV) (h0 : H) (e : ∃ a h, c_impl_allLevels F g (.int 3 (.ofNat 8)) H0 = some (.osl a 0 115 1, h)) : ∃ h, c_impl_LevelsCount F g (.int 3 (.ofNat 8)) H0 = some (.one .tup (.cons (.int 3 (.ofNat 115)) (.cons (.bool true) (.leaf .nil))), h) := by
  obtain ⟨a, h, e⟩ := e
  refine ⟨h, ?_⟩
  refine (show _ = bindR (c_impl_allLevels F g (.int 3 (.ofNat 8)) H0) (fun x7 h => aLenK 1 x7 h fun x8 h => some (AV.one .tup (AV.cons x8 (AV.cons (AV.bool true) (AV.leaf .nil))), h)) from rfl).trans ?_
  rw [e]; rfl
theorem count8 (g : Nat) {F m : Nat} (hF : F = m + 14) (hm : m = 4977) : ∃ h, c_impl_LevelsCount F g (.int 3 (.ofNat 8)) H0 = some (.one .tup (.cons (.int 3 (.ofNat 115)) (.cons (.bool true) (.leaf .nil))), h) := by
  subst hF
  apply len8 _ _ (.leaf .nil) H0
  rw [all8]
  obtain ⟨k, hk, hk2⟩ : ∃ k, m + 14 = k + 1 ∧ k = 4990 := ⟨m + 13, rfl, by omega⟩
  have hc := cnt8
  rw [← hk2] at hc
  have := loop_run (m + 14) g k _ 0 _ hc (.leaf (.sl 0 0 0 0)) mem8 17 (.inr ⟨rfl, 0, rfl, memz8, mema8⟩) memb8 memn8 (by omega)
  rw [← hk] at this
  exact this
def mem9 : H := ((((((((((((((((((((((((((((H0.push (.cells 0 [])).push (.cells 0 [])).push (.cells 0 [.int 3 (.ofNat 0)])).push (.cells 0 [.int 3 (.ofNat 0)])).push (.cells 0 [.int 3 (.ofNat 1)])).set 3 .dead).push (.cells 0 [.int 3 (.ofNat 0), .int 3 (.ofNat 1)])).push (.cells 0 [.int 3 (.ofNat 2)])).set 5 .dead).push (.cells 0 [.int 3 (.ofNat 0), .int 3 (.ofNat 1), .int 3 (.ofNat 2)])).push (.cells 0 [.int 3 (.ofNat 3)])).set 7 .dead).push (.cells 0 [.int 3 (.ofNat 0), .int 3 (.ofNat 1), .int 3 (.ofNat 2), .int 3 (.ofNat 3)])).push (.cells 0 [.int 3 (.ofNat 4)])).set 9 .dead).push (.cells 0 [.int 3 (.ofNat 0), .int 3 (.ofNat 1), .int 3 (.ofNat 2), .int 3 (.ofNat 3), .int 3 (.ofNat 4)])).push (.cells 0 [.int 3 (.ofNat 5)])).set 11 .dead).push (.cells 0 [.int 3 (.ofNat 0), .int 3 (.ofNat 1), .int 3 (.ofNat 2), .int 3 (.ofNat 3), .int 3 (.ofNat 4), .int 3 (.ofNat 5)])).push (.cells 0 [.int 3 (.ofNat 6)])).set 13 .dead).push (.cells 0 [.int 3 (.ofNat 0), .int 3 (.ofNat 1), .int 3 (.ofNat 2), .int 3 (.ofNat 3), .int 3 (.ofNat 4), .int 3 (.ofNat 5), .int 3 (.ofNat 6)])).push (.cells 0 [.int 3 (.ofNat 7)])).set 15 .dead).push (.cells 0 [.int 3 (.ofNat 0), .int 3 (.ofNat 1), .int 3 (.ofNat 2), .int 3 (.ofNat 3), .int 3 (.ofNat 4), .int 3 (.ofNat 5), .int 3 (.ofNat 6), .int 3 (.ofNat 7)])).push (.cells 0 [.int 3 (.ofNat 8)])).set 17 .dead).push (.cells 0 [.int 3 (.ofNat 0), .int 3 (.ofNat 1), .int 3 (.ofNat 2), .int 3 (.ofNat 3), .int 3 (.ofNat 4), .int 3 (.ofNat 5), .int 3 (.ofNat 6), .int 3 (.ofNat 7), .int 3 (.ofNat 8)]))
theorem all9 (g m : Nat) : c_impl_allLevels (m + 14) g (.int 3 (.ofNat 9)) H0 = loopD (m + 14) (c_impl_allLevels_l1 (m + 14) g) [.leaf (.sl 0 0 0 0), .osl 19 0 9 1, .bool true] mem9 := by kernel_rfl
theorem memb9 : mem9.get 19 = .cells 0 [.int 3 (.ofNat 0), .int 3 (.ofNat 1), .int 3 (.ofNat 2), .int 3 (.ofNat 3), .int 3 (.ofNat 4), .int 3 (.ofNat 5), .int 3 (.ofNat 6), .int 3 (.ofNat 7), .int 3 (.ofNat 8)] := by kernel_rfl
theorem mema9 : mem9.get 0 = .cells 0 [] := by kernel_rfl
theorem memn9 : 19 < mem9.n := Nat.le_of_ble_eq_true (by kernel_rfl)
theorem memz9 : 0 < mem9.n := Nat.le_of_ble_eq_true (by kernel_rfl)
theorem len9 (F g : Nat) (x : AV) (h0 : H) (e : ∃ a h, c_impl_allLevels F g (.int 3 (.ofNat 9)) H0 = some (.osl a 0 286 1, h)) : ∃ h, c_impl_LevelsCount F g (.int 3 (.ofNat 9)) H0 = some (.one .tup (.cons (.int 3 (.ofNat 286)) (.cons (.bool true) (.leaf .nil))), h) := by
  obtain ⟨a, h, e⟩ := e
  refine ⟨h, ?_⟩
  refine (show _ = bindR (c_impl_allLevels F g (.int 3 (.ofNat 9)) H0) (fun x7 h => aLenK 1 x7 h fun x8 h => some (AV.one .tup (AV.cons x8 (AV.cons (AV.bool true) (AV.leaf .nil))), h)) from rfl).trans ?_
  rw [e]; rfl
theorem count9 (g : Nat) {F m : Nat} (hF : F = m + 14) (hm : m = 4977) : ∃ h, c_impl_LevelsCount F g (.int 3 (.ofNat 9)) H0 = some (.one .tup (.cons (.int 3 (.ofNat 286)) (.cons (.bool true) (.leaf .nil))), h) := by
  subst hF
  apply len9 _ _ (.leaf .nil) H0
  rw [all9]
  obtain ⟨k, hk, hk2⟩ : ∃ k, m + 14 = k + 1 ∧ k = 4990 := ⟨m + 13, rfl, by omega⟩
  have hc := cnt9
  rw [← hk2] at hc
  have := loop_run (m + 14) g k _ 0 _ hc (.leaf (.sl 0 0 0 0)) mem9 19 (.inr ⟨rfl, 0, rfl, memz9, mema9⟩) memb9 memn9 (by omega)
  rw [← hk] at this
  exact this
def mem10 : H := (((((((((((((((((((((((((((((((H0.push (.cells 0 [])).push (.cells 0 [])).push (.cells 0 [.int 3 (.ofNat 0)])).push (.cells 0 [.int 3 (.ofNat 0)])).push (.cells 0 [.int 3 (.ofNat 1)])).set 3 .dead).push (.cells 0 [.int 3 (.ofNat 0), .int 3 (.ofNat 1)])).push (.cells 0 [.int 3 (.ofNat 2)])).set 5 .dead).push (.cells 0 [.int 3 (.ofNat 0), .int 3 (.ofNat 1), .int 3 (.ofNat 2)])).push (.cells 0 [.int 3 (.ofNat 3)])).set 7 .dead).push (.cells 0 [.int 3 (.ofNat 0), .int 3 (.ofNat 1), .int 3 (.ofNat 2), .int 3 (.ofNat 3)])).push (.cells 0 [.int 3 (.ofNat 4)])).set 9 .dead).push (.cells 0 [.int 3 (.ofNat 0), .int 3 (.ofNat 1), .int 3 (.ofNat 2), .int 3 (.ofNat 3), .int 3 (.ofNat 4)])).push (.cells 0 [.int 3 (.ofNat 5)])).set 11 .dead).push (.cells 0 [.int 3 (.ofNat 0), .int 3 (.ofNat 1), .int 3 (.ofNat 2), .int 3 (.ofNat 3), .int 3 (.ofNat 4), .int 3 (.ofNat 5)])).push (.cells 0 [.int 3 (.ofNat 6)])).set 13 .dead).push (.cells 0 [.int 3 (.ofNat 0), .int 3 (.ofNat 1), .int 3 (.ofNat 2), .int 3 (.ofNat 3), .int 3 (.ofNat 4), .int 3 (.ofNat 5), .int 3 (.ofNat 6)])).push (.cells 0 [.int 3 (.ofNat 7)])).set 15 .dead).push (.cells 0 [.int 3 (.ofNat 0), .int 3 (.ofNat 1), .int 3 (.ofNat 2), .int 3 (.ofNat 3), .int 3 (.ofNat 4), .int 3 (.ofNat 5), .int 3 (.ofNat 6), .int 3 (.ofNat 7)])).push (.cells 0 [.int 3 (.ofNat 8)])).set 17 .dead).push (.cells 0 [.int 3 (.ofNat 0), .int 3 (.ofNat 1), .int 3 (.ofNat 2), .int 3 (.ofNat 3), .int 3 (.ofNat 4), .int 3 (.ofNat 5), .int 3 (.ofNat 6), .int 3 (.ofNat 7), .int 3 (.ofNat 8)])).push (.cells 0 [.int 3 (.ofNat 9)])).set 19 .dead).push (.cells 0 [.int 3 (.ofNat 0), .int 3 (.ofNat 1), .int 3 (.ofNat 2), .int 3 (.ofNat 3), .int 3 (.ofNat 4), .int 3 (.ofNat 5), .int 3 (.ofNat 6), .int 3 (.ofNat 7), .int 3 (.ofNat 8), .int 3 (.ofNat 9)]))
theorem all10 (g m : Nat) : c_impl_allLevels (m + 14) g (.int 3 (.ofNat 10)) H0 = loopD (m + 14) (c_impl_allLevels_l1 (m + 14) g) [.leaf (.sl 0 0 0 0), .osl 21 0 10 1, .bool true] mem10 := by kernel_rfl
theorem memb10 : mem10.get 21 = .cells 0 [.int 3 (.ofNat 0), .int 3 (.ofNat 1), .int 3 (.ofNat 2), .int 3 (.ofNat 3), .int 3 (.ofNat 4), .int 3 (.ofNat 5), .int 3 (.ofNat 6), .int 3 (.ofNat 7), .int 3 (.ofNat 8), .int 3 (.ofNat 9)] := by kernel_rfl
theorem mema10 : mem10.get 0 = .cells 0 [] := by kernel_rfl
theorem memn10 : 21 < mem10.n := Nat.le_of_ble_eq_true (by kernel_rfl)
theorem memz10 : 0 < mem10.n := Nat.le_of_ble_eq_true (by kernel_rfl)
theorem len10 (F g : Nat) (x : AV) (h0 : H) (e : ∃ a h, c_impl_allLevels F g (.int 3 (.ofNat 10)) H0 = some (.osl a 0 719 1, h)) : ∃ h, c_impl_LevelsCount F g (.int 3 (.ofNat 10)) H0 = some (.one .tup (.cons (.int 3 (.ofNat 719)) (.cons (.bool true) (.leaf .nil))), h) := by
  obtain ⟨a, h, e⟩ := e
  refine ⟨h, ?_⟩
  refine (show _ = bindR (c_impl_allLevels F g (.int 3 (.ofNat 10)) H0) (fun x7 h => aLenK 1 x7 h fun x8 h => some (AV.one .tup (AV.cons x8 (AV.cons (AV.bool true) (AV.leaf .nil))), h)) from rfl).trans ?_
  rw [e]; rfl
theorem count10 (g : Nat) {F m : Nat} (hF : F = m + 14) (hm : m = 4977) : ∃ h, c_impl_LevelsCount F g (.int 3 (.ofNat 10)) H0 = some (.one .tup (.cons (.int 3 (.ofNat 719)) (.cons (.bool true) (.leaf .nil))), h) := by
  subst hF
  apply len10 _ _ (.leaf .nil) H0
  rw [all10]
  obtain ⟨k, hk, hk2⟩ : ∃ k, m + 14 = k + 1 ∧ k = 4990 := ⟨m + 13, rfl, by omega⟩
  have hc := cnt10
  rw [← hk2] at hc
  have := loop_run (m + 14) g k _ 0 _ hc (.leaf (.sl 0 0 0 0)) mem10 21 (.inr ⟨rfl, 0, rfl, memz10, mema10⟩) memb10 memn10 (by omega)
  rw [← hk] at this
  exact this
def mem11 : H := ((((((((((((((((((((((((((((((((((H0.push (.cells 0 [])).push (.cells 0 [])).push (.cells 0 [.int 3 (.ofNat 0)])).push (.cells 0 [.int 3 (.ofNat 0)])).push (.cells 0 [.int 3 (.ofNat 1)])).set 3 .dead).push (.cells 0 [.int 3 (.ofNat 0), .int 3 (.ofNat 1)])).push (.cells 0 [.int 3 (.ofNat 2)])).set 5 .dead).push (.cells 0 [.int 3 (.ofNat 0), .int 3 (.ofNat 1), .int 3 (.ofNat 2)])).push (.cells 0 [.int 3 (.ofNat 3)])).set 7 .dead).push (.cells 0 [.int 3 (.ofNat 0), .int 3 (.ofNat 1), .int 3 (.ofNat 2), .int 3 (.ofNat 3)])).push (.cells 0 [.int 3 (.ofNat 4)])).set 9 .dead).push (.cells 0 [.int 3 (.ofNat 0), .int 3 (.ofNat 1), .int 3 (.ofNat 2), .int 3 (.ofNat 3), .int 3 (.ofNat 4)])).push (.cells 0 [.int 3 (.ofNat 5)])).set 11 .dead).push (.cells 0 [.int 3 (.ofNat 0), .int 3 (.ofNat 1), .int 3 (.ofNat 2), .int 3 (.ofNat 3), .int 3 (.ofNat 4), .int 3 (.ofNat 5)])).push (.cells 0 [.int 3 (.ofNat 6)])).set 13 .dead).push (.cells 0 [.int 3 (.ofNat 0), .int 3 (.ofNat 1), .int 3 (.ofNat 2), .int 3 (.ofNat 3), .int 3 (.ofNat 4), .int 3 (.ofNat 5), .int 3 (.ofNat 6)])).push (.cells 0 [.int 3 (.ofNat 7)])).set 15 .dead).push (.cells 0 [.int 3 (.ofNat 0), .int 3 (.ofNat 1), .int 3 (.ofNat 2), .int 3 (.ofNat 3), .int 3 (.ofNat 4), .int 3 (.ofNat 5), .int 3 (.ofNat 6), .int 3 (.ofNat 7)])).push (.cells 0 [.int 3 (.ofNat 8)])).set 17 .dead).push (.cells 0 [.int 3 (.ofNat 0), .int 3 (.ofNat 1), .int 3 (.ofNat 2), .int 3 (.ofNat 3), .int 3 (.ofNat 4), .int 3 (.ofNat 5), .int 3 (.ofNat 6), .int 3 (.ofNat 7), .int 3 (.ofNat 8)])).push (.cells 0 [.int 3 (.ofNat 9)])).set 19 .dead).push (.cells 0 [.int 3 (.ofNat 0), .int 3 (.ofNat 1), .int 3 (.ofNat 2), .int 3 (.ofNat 3), .int 3 (.ofNat 4), .int 3 (.ofNat 5), .int 3 (.ofNat 6), .int 3 (.ofNat 7), .int 3 (.ofNat 8), .int 3 (.ofNat 9)])).push (.cells 0 [.int 3 (.ofNat 10)])).set 21 .dead).push (.cells 0 [.int 3 (.ofNat 0), .int 3 (.ofNat 1), .int 3 (.ofNat 2), .int 3 (.ofNat 3), .int 3 (.ofNat 4), .int 3 (.ofNat 5), .int 3 (.ofNat 6), .int 3 (.ofNat 7), .int 3 (.ofNat 8), .int 3 (.ofNat 9), .int 3 (.ofNat 10)]))
theorem all11 (g m : Nat) : c_impl_allLevels (m + 14) g (.int 3 (.ofNat 11)) H0 = loopD (m + 14) (c_impl_allLevels_l1 (m + 14) g) [.leaf (.sl 0 0 0 0), .osl 23 0 11 1, .bool true] mem11 := by kernel_rfl
theorem memb11 : mem11.get 23 = .cells 0 [.int 3 (.ofNat 0), .int 3 (.ofNat 1), .int 3 (.ofNat 2), .int 3 (.ofNat 3), .int 3 (.ofNat 4), .int 3 (.ofNat 5), .int 3 (.ofNat 6), .int 3 (.ofNat 7), .int 3 (.ofNat 8), .int 3 (.ofNat 9), .int 3 (.ofNat 10)] := by kernel_rfl
theorem mema11 : mem11.get 0 = .cells 0 [] := by kernel_rfl
theorem memn11 : 23 < mem11.n := Nat.le_of_ble_eq_true (by kernel_rfl)
theorem memz11 : 0 < mem11.n := Nat.le_of_ble_eq_true (by kernel_rfl)
theorem len11 (F g : Nat) (x : AV) (h0 : H) (e : ∃ a h, c_impl_allLevels F g (.int 3 (.ofNat 11)) H0 = some (.osl a 0 1842 1, h)) : ∃ h, c_impl_LevelsCount F g (.int 3 (.ofNat 11)) H0 = some (.one .tup (.cons (.int 3 (.ofNat 1842)) (.cons (.bool true) (.leaf .nil))), h) := by
  obtain ⟨a, h, e⟩ := e
  refine ⟨h, ?_⟩
  refine (show _ = bindR (c_impl_allLevels F g (.int 3 (.ofNat 11)) H0) (fun x7 h => aLenK 1 x7 h fun x8 h => some (AV.one .tup (AV.cons x8 (AV.cons (AV.bool true) (AV.leaf .nil))), h)) from rfl).trans ?_
  rw [e]; rfl
theorem count11 (g : Nat) {F m : Nat} (hF : F = m + 14) (hm : m = 4977) : ∃ h, c_impl_LevelsCount F g (.int 3 (.ofNat 11)) H0 = some (.one .tup (.cons (.int 3 (.ofNat 1842)) (.cons (.bool true) (.leaf .nil))), h) := by
  subst hF
  apply len11 _ _ (.leaf .nil) H0
  rw [all11]
  obtain ⟨k, hk, hk2⟩ : ∃ k, m + 14 = k + 1 ∧ k = 4990 := ⟨m + 13, rfl, by omega⟩
  have hc := cnt11
  rw [← hk2] at hc
  have := loop_run (m + 14) g k _ 0 _ hc (.leaf (.sl 0 0 0 0)) mem11 23 (.inr ⟨rfl, 0, rfl, memz11, mema11⟩) memb11 memn11 (by omega)
  rw [← hk] at this
  exact this
def mem12 : H := (((((((((((((((((((((((((((((((((((((H0.push (.cells 0 [])).push (.cells 0 [])).push (.cells 0 [.int 3 (.ofNat 0)])).push (.cells 0 [.int 3 (.ofNat 0)])).push (.cells 0 [.int 3 (.ofNat 1)])).set 3 .dead).push (.cells 0 [.int 3 (.ofNat 0), .int 3 (.ofNat 1)])).push (.cells 0 [.int 3 (.ofNat 2)])).set 5 .dead).push (.cells 0 [.int 3 (.ofNat 0), .int 3 (.ofNat 1), .int 3 (.ofNat 2)])).push (.cells 0 [.int 3 (.ofNat 3)])).set 7 .dead).push (.cells 0 [.int 3 (.ofNat 0), .int 3 (.ofNat 1), .int 3 (.ofNat 2), .int 3 (.ofNat 3)])).push (.cells 0 [.int 3 (.ofNat 4)])).set 9 .dead).push (.cells 0 [.int 3 (.ofNat 0), .int 3 (.ofNat 1), .int 3 (.ofNat 2), .int 3 (.ofNat 3), .int 3 (.ofNat 4)])).push (.cells 0 [.int 3 (.ofNat 5)])).set 11 .dead).push (.cells 0 [.int 3 (.ofNat 0), .int 3 (.ofNat 1), .int 3 (.ofNat 2), .int 3 (.ofNat 3), .int 3 (.ofNat 4), .int 3 (.ofNat 5)])).push (.cells 0 [.int 3 (.ofNat 6)])).set 13 .dead).push (.cells 0 [.int 3 (.ofNat 0), .int 3 (.ofNat 1), .int 3 (.ofNat 2), .int 3 (.ofNat 3), .int 3 (.ofNat 4), .int 3 (.ofNat 5), .int 3 (.ofNat 6)])).push (.cells 0 [.int 3 (.ofNat 7)])).set 15 .dead).push (.cells 0 [.int 3 (.ofNat 0), .int 3 (.ofNat 1), .int 3 (.ofNat 2), .int 3 (.ofNat 3), .int 3 (.ofNat 4), .int 3 (.ofNat 5), .int 3 (.ofNat 6), .int 3 (.ofNat 7)])).push (.cells 0 [.int 3 (.ofNat 8)])).set 17 .dead).push (.cells 0 [.int 3 (.ofNat 0), .int 3 (.ofNat 1), .int 3 (.ofNat 2), .int 3 (.ofNat 3), .int 3 (.ofNat 4), .int 3 (.ofNat 5), .int 3 (.ofNat 6), .int 3 (.ofNat 7), .int 3 (.ofNat 8)])).push (.cells 0 [.int 3 (.ofNat 9)])).set 19 .dead).push (.cells 0 [.int 3 (.ofNat 0), .int 3 (.ofNat 1), .int 3 (.ofNat 2), .int 3 (.ofNat 3), .int 3 (.ofNat 4), .int 3 (.ofNat 5), .int 3 (.ofNat 6), .int 3 (.ofNat 7), .int 3 (.ofNat 8), .int 3 (.ofNat 9)])).push (.cells 0 [.int 3 (.ofNat 10)])).set 21 .dead).push (.cells 0 [.int 3 (.ofNat 0), .int 3 (.ofNat 1), .int 3 (.ofNat 2), .int 3 (.ofNat 3), .int 3 (.ofNat 4), .int 3 (.ofNat 5), .int 3 (.ofNat 6), .int 3 (.ofNat 7), .int 3 (.ofNat 8), .int 3 (.ofNat 9), .int 3 (.ofNat 10)])).push (.cells 0 [.int 3 (.ofNat 11)])).set 23 .dead).push (.cells 0 [.int 3 (.ofNat 0), .int 3 (.ofNat 1), .int 3 (.ofNat 2), .int 3 (.ofNat 3), .int 3 (.ofNat 4), .int 3 (.ofNat 5), .int 3 (.ofNat 6), .int 3 (.ofNat 7), .int 3 (.ofNat 8), .int 3 (.ofNat 9), .int 3 (.ofNat 10), .int 3 (.ofNat 11)]))
theorem all12 (g m : Nat) : c_impl_allLevels (m + 14) g (.int 3 (.ofNat 12)) H0 = loopD (m + 14) (c_impl_allLevels_l1 (m + 14) g) [.leaf (.sl 0 0 0 0), .osl 25 0 12 1, .bool true] mem12 := by kernel_rfl
theorem memb12 : mem12.get 25 = .cells 0 [.int 3 (.ofNat 0), .int 3 (.ofNat 1), .int 3 (.ofNat 2), .int 3 (.ofNat 3), .int 3 (.ofNat 4), .int 3 (.ofNat 5), .int 3 (.ofNat 6), .int 3 (.ofNat 7), .int 3 (.ofNat 8), .int 3 (.ofNat 9), .int 3 (.ofNat 10), .int 3 (.ofNat 11)] := by kernel_rfl
theorem mema12 : mem12.get 0 = .cells 0 [] := by kernel_rfl
theorem memn12 : 25 < mem12.n := Nat.le_of_ble_eq_true (by kernel_rfl)
theorem memz12 : 0 < mem12.n := Nat.le_of_ble_eq_true (by kernel_rfl)
theorem len12 (F g : Nat) (x : AV) (h0 : H) (e : ∃ a h, c_impl_allLevels F g (.int 3 (.ofNat 12)) H0 = some (.osl a 0 4766 1, h)) : ∃ h, c_impl_LevelsCount F g (.int 3 (.ofNat 12)) H0 = some (.one .tup (.cons (.int 3 (.ofNat 4766)) (.cons (.bool true) (.leaf .nil))), h) := by
  obtain ⟨a, h, e⟩ := e
  refine ⟨h, ?_⟩
  refine (show _ = bindR (c_impl_allLevels F g (.int 3 (.ofNat 12)) H0) (fun x7 h => aLenK 1 x7 h fun x8 h => some (AV.one .tup (AV.cons x8 (AV.cons (AV.bool true) (AV.leaf .nil))), h)) from rfl).trans ?_
  rw [e]; rfl
theorem count12 (g : Nat) {F m : Nat} (hF : F = m + 14) (hm : m = 4977) : ∃ h, c_impl_LevelsCount F g (.int 3 (.ofNat 12)) H0 = some (.one .tup (.cons (.int 3 (.ofNat 4766)) (.cons (.bool true) (.leaf .nil))), h) := by
  subst hF
  apply len12 _ _ (.leaf .nil) H0
  rw [all12]
  obtain ⟨k, hk, hk2⟩ : ∃ k, m + 14 = k + 1 ∧ k = 4990 := ⟨m + 13, rfl, by omega⟩
  have hc := cnt12
  rw [← hk2] at hc
  have := loop_run (m + 14) g k _ 0 _ hc (.leaf (.sl 0 0 0 0)) mem12 25 (.inr ⟨rfl, 0, rfl, memz12, mema12⟩) memb12 memn12 (by omega)
  rw [← hk] at this
  exact this
end
end Go.AI.X
namespace Go.AI.T
open Go Go.RowKit Go.AI
set_option linter.unusedVariables false
set_option linter.unusedSimpArgs false
set_option maxRecDepth 100000
noncomputable section

def numC (n : Nat) : Nat := @List.rec Nat (fun _ => Nat → Nat) (fun _ => 0) (fun a _ f n => @Nat.rec (fun _ => Nat) a (fun n _ => f n) n) [0, 1, 1, 2, 4, 9, 20, 48, 115, 286, 719, 1842, 4766] n
abbrev zeroC : AV := .one .tup (.cons (.int 3 (.ofNat 0)) (.cons (.bool false) (.leaf .nil)))
def ansC (n : Nat) : AV := bc (Nat.ble 1 n) (bc (Nat.ble n 12) (.one .tup (.cons (.int 3 (.ofNat (numC n))) (.cons (.bool true) (.leaf .nil)))) zeroC) zeroC
def c_impl_LevelsCount (F g : Nat) (a0 : AV) (h : H) : Option R := withInt a0 fun k v => bc (Nat.beq k 3) (some (@Int.rec (fun _ => AV) ansC (fun _ => zeroC) v, h)) none
theorem ansC_plain (n : Nat) : (ansC n).plain = true := by unfold ansC; cases Nat.ble 1 n <;> cases Nat.ble n 12 <;> rfl
theorem s_impl_LevelsCount (F g : Nat) : ∀ args h r, u1 (c_impl_LevelsCount F g) args h = some r → Tri Go.Proofs.Try.prog id_impl_LevelsCount args h r := by
  intro args h r e
  obtain ⟨a0, rfl, e1⟩ := u1_some e
  obtain ⟨k, v, rfl, e2⟩ := withInt_some e1
  obtain ⟨hk, e3⟩ := bif_some e2
  have hk := Nat.eq_of_beq_eq_true hk
  subst hk
  cases e3
  have pl : ∀ a ∈ [AV.int 3 v], a.plain = true := fun a hm => by
    cases hm with
    | head => rfl
    | tail _ hm => cases hm
  obtain ⟨m, hm⟩ : ∃ m, m = 4977 := ⟨_, rfl⟩
  obtain ⟨F, hF⟩ : ∃ F, F = m + 14 := ⟨_, rfl⟩
  have fin : ∀ (x : AV), x.plain = true → (∃ h', Go.AI.X.c_impl_LevelsCount F 20 (.int 3 v) H0 = some (x, h')) → Tri Go.Proofs.Try.prog id_impl_LevelsCount [.int 3 v] h (x, h) := fun x hx ⟨h', e⟩ =>
    Tri.forget (Go.AI.X.s_impl_LevelsCount F 20 [.int 3 v] H0 (x, h') e) pl hx h
  cases v with
  | negSucc n => exact fin _ rfl ⟨_, rfl⟩
  | ofNat n =>
    refine fin _ (ansC_plain n) ?_
    by_cases hn : 13 ≤ n
    · obtain ⟨q, rfl⟩ : ∃ q, n = q + 13 := ⟨n - 13, by omega⟩
      exact ⟨H0, rfl⟩
    · match n, hn with
      | 0, _ => exact ⟨H0, rfl⟩
      | 1, _ => exact Go.AI.X.count1 20 hF hm
      | 2, _ => exact Go.AI.X.count2 20 hF hm
      | 3, _ => exact Go.AI.X.count3 20 hF hm
      | 4, _ => exact Go.AI.X.count4 20 hF hm
      | 5, _ => exact Go.AI.X.count5 20 hF hm
      | 6, _ => exact Go.AI.X.count6 20 hF hm
      | 7, _ => exact Go.AI.X.count7 20 hF hm
      | 8, _ => exact Go.AI.X.count8 20 hF hm
      | 9, _ => exact Go.AI.X.count9 20 hF hm
      | 10, _ => exact Go.AI.X.count10 20 hF hm
      | 11, _ => exact Go.AI.X.count11 20 hF hm
      | 12, _ => exact Go.AI.X.count12 20 hF hm
      | n + 13, h => exact absurd (by omega) h
end
end Go.AI.T
