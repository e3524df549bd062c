/- Functions of the library whose contracts are given. -/
import Derived.Test.YtlcmolcajoeagaaDoorRaw
import Derived.Test.YtlcmolcajoeagaaDoorShelf
import Derived.KernelRfl
namespace Go.AI.T
open Go Go.RowKit Go.AI
noncomputable section
set_option linter.unusedVariables false
set_option linter.unusedSimpArgs false

def cmpL : List Nat → List Nat → Int := @List.rec Nat (fun _ => List Nat → Int) (@List.rec Nat (fun _ => Int) (.ofNat 0) (fun _ _ _ => .negSucc 0))
  (fun a _ f => @List.rec Nat (fun _ => Int) (.ofNat 1) (fun b y _ => bc (Nat.ble (Nat.succ a) b) (.negSucc 0) (bc (Nat.ble (Nat.succ b) a) (.ofNat 1) (f y))))
theorem cmpL_cons (a b : Nat) (x y : List Nat) : cmpL (a :: x) (b :: y) = bc (Nat.ble (Nat.succ a) b) (.negSucc 0) (bc (Nat.ble (Nat.succ b) a) (.ofNat 1) (cmpL x y)) := rfl
theorem cmpL_eq : ∀ x y : List UInt8, cmpL (x.map UInt8.toNat) (y.map UInt8.toNat) = Lib.compareBytes x y
  | [], [] => rfl
  | [], _ :: _ => rfl
  | _ :: _, [] => rfl
  | a :: x, b :: y => by
    have e : Lib.compareBytes (a :: x) (b :: y) = if a < b then -1 else if b < a then 1 else Lib.compareBytes x y := by rw [Lib.compareBytes]
    rw [e, List.map_cons, List.map_cons, cmpL_cons, cmpL_eq x y]
    rw [ble_decide, ble_decide, bc_ite, bc_ite]
    simp only [UInt8.lt_iff_toNat_lt, Nat.succ_le_iff]
    rfl
def c_strings_Compare (F g : Nat) (a0 a1 : AV) (h : H) : Option R := withStr a0 fun l _ => withStr a1 fun l' _ => some (.int 3 (cmpL l l'), h)
theorem s_strings_Compare (F g : Nat) : ∀ args h r, u2 (c_strings_Compare F g) args h = some r → Tri Go.Proofs.Tryd.prog 61 args h r := by
  intro args h r e
  obtain ⟨a0, a1, rfl, e1⟩ := u2_some e
  obtain ⟨l, n, rfl, e2⟩ := withStr_some e1
  obtain ⟨l', n', rfl, e3⟩ := withStr_some e2
  cases e3
  refine ⟨⟨_, Go.Proofs.Tryd.func61, by kernel_rfl, by kernel_rfl⟩, fun ι w vs hR hV => ?_⟩
  cases hV with
  | cons h1 hV =>
    cases hV with
    | cons h2 hV =>
      cases hV
      obtain ⟨s, rfl, hl, _⟩ := h1.str
      obtain ⟨t, rfl, hl', _⟩ := h2.str
      refine (Go.Proofs.Tryd.strings_Compare s t w).mono ?_
      rintro e w' ⟨rfl, rfl⟩
      refine ⟨_, ι, rfl, ?_, Ext.refl _ _ _, hR⟩
      rw [← hl, ← hl', cmpL_eq]
      rfl
end
end Go.AI.T
