/- strings.ReplaceAll of a leaf's text by nothing, given by the library's contract. -/
import Derived.Test.YtjnmogmddhichaaDoorRaw
import Derived.Test.YtjnmogmddhichaaDoorShelf
import Derived.KernelRfl
namespace Go.AI.T
open Go Go.RowKit Go.AI
set_option linter.unusedVariables false
set_option linter.unusedSimpArgs false
set_option maxRecDepth 100000
noncomputable section
def stripN : List Nat → List Nat
  | [] => []
  | [a] => [a]
  | a :: b :: t => bc (bc (Nat.beq a 40) (Nat.beq b 41) false) (stripN t) (a :: stripN (b :: t))
def stripU : List UInt8 → List UInt8
  | [] => []
  | [a] => [a]
  | a :: b :: t => if a = 40 ∧ b = 41 then stripU t else a :: stripU (b :: t)
theorem u8_beq (a : UInt8) (k : UInt8) : Nat.beq a.toNat k.toNat = decide (a = k) := by
  by_cases h : a = k
  · subst h; simp [Nat.beq_refl]
  · rw [decide_eq_false h]
    cases hb : Nat.beq a.toNat k.toNat with
    | false => rfl
    | true => exact absurd (UInt8.toNat_inj.1 (Nat.eq_of_beq_eq_true hb)) h
theorem stripN_eq : ∀ l : List UInt8, stripN (l.map UInt8.toNat) = (stripU l).map UInt8.toNat
  | [] => rfl
  | [a] => rfl
  | a :: b :: t => by
    have h1 := stripN_eq t
    have h2 := stripN_eq (b :: t)
    show bc (bc (Nat.beq a.toNat 40) (Nat.beq b.toNat 41) false) (stripN (t.map UInt8.toNat)) (a.toNat :: stripN ((b :: t).map UInt8.toNat)) = (if a = 40 ∧ b = 41 then stripU t else a :: stripU (b :: t)).map UInt8.toNat
    rw [h1, h2, show (40 : Nat) = (40 : UInt8).toNat from rfl, show (41 : Nat) = (41 : UInt8).toNat from rfl, u8_beq, u8_beq]
    by_cases ha : a = 40
    · by_cases hb : b = 41
      · simp [ha, hb, bc_true]
      · simp [ha, hb, bc_true, bc_false]
    · simp [ha, bc_false]
theorem stripU_le : ∀ l : List UInt8, (stripU l).length ≤ l.length
  | [] => Nat.le_refl _
  | [a] => Nat.le_refl _
  | a :: b :: t => by
    have h1 := stripU_le t
    have h2 := stripU_le (b :: t)
    show (if a = 40 ∧ b = 41 then stripU t else a :: stripU (b :: t)).length ≤ t.length + 1 + 1
    split
    · omega
    · simp only [List.length_cons] at h2 ⊢; omega
theorem stripU_index : ∀ s : List UInt8, (Lib.index s [40, 41] = -1 → stripU s = s) ∧ ∀ i : Nat, Lib.index s [40, 41] = i → stripU s = s.take i ++ stripU (s.drop (i + 2))
  | [] => ⟨fun _ => rfl, fun i h => by have h : (-1 : Int) = i := h; omega⟩
  | b :: l => by
    have ih := stripU_index l
    have e : Lib.index (b :: l) [40, 41] = if List.isPrefixOf [40, 41] (b :: l) then 0 else if Lib.index l [40, 41] == -1 then -1 else Lib.index l [40, 41] + 1 := rfl
    cases hp : List.isPrefixOf [40, 41] (b :: l) with
    | true =>
      rw [hp, if_pos rfl] at e
      cases l with
      | nil => simp [List.isPrefixOf] at hp
      | cons c t =>
        have hb : b = 40 ∧ c = 41 := by
          simp only [List.isPrefixOf, Bool.and_eq_true, beq_iff_eq] at hp
          exact ⟨hp.1.symm, hp.2.1.symm⟩
        refine ⟨fun h => by omega, fun i h => ?_⟩
        obtain rfl : i = 0 := by omega
        show (if b = 40 ∧ c = 41 then stripU t else b :: stripU (c :: t)) = stripU t
        rw [if_pos hb]
    | false =>
      rw [hp, if_neg (by simp)] at e
      have hs : stripU (b :: l) = b :: stripU l := by
        cases l with
        | nil => rfl
        | cons c t =>
          show (if b = 40 ∧ c = 41 then stripU t else b :: stripU (c :: t)) = b :: stripU (c :: t)
          rw [if_neg]
          rintro ⟨rfl, rfl⟩
          simp [List.isPrefixOf] at hp
      have hge := Lib.index_ge l [40, 41]
      refine ⟨fun h => ?_, fun i h => ?_⟩
      · by_cases hm : Lib.index l [40, 41] = -1
        · rw [hs, ih.1 hm]
        · rw [if_neg (by simpa using hm)] at e; omega
      · by_cases hm : Lib.index l [40, 41] = -1
        · rw [if_pos (by simpa using hm)] at e; omega
        · rw [if_neg (by simpa using hm)] at e
          obtain ⟨j, rfl⟩ : ∃ j, i = j + 1 := ⟨i - 1, by omega⟩
          have hj : Lib.index l [40, 41] = (j : Int) := by omega
          rw [hs, ih.2 j hj]
          rfl
theorem replaceK_strip : ∀ (f : Nat) (s : List UInt8), s.length < f → Lib.replaceK [40, 41] [] (Lib.countFrom [40, 41] f s) s = stripU s
  | 0, s, h => by omega
  | f + 1, s, h => by
    have e : Lib.countFrom [40, 41] (f + 1) s = if Lib.index s [40, 41] == -1 then 0 else 1 + Lib.countFrom [40, 41] f (s.drop ((Lib.index s [40, 41]).toNat + 2)) := rfl
    by_cases hm : Lib.index s [40, 41] = -1
    · rw [e, if_pos (by simpa using hm), (stripU_index s).1 hm]; rfl
    · have hge := Lib.index_ge s [40, 41]
      obtain ⟨i, hi⟩ : ∃ i : Nat, Lib.index s [40, 41] = i := ⟨(Lib.index s [40, 41]).toNat, by omega⟩
      rw [e, if_neg (by simpa using hm), Nat.add_comm, Lib.replaceK_hit _ _ _ _ i hi, (stripU_index s).2 i hi, hi]
      show s.take i ++ [] ++ Lib.replaceK [40, 41] [] (Lib.countFrom [40, 41] f (s.drop (i + 2))) (s.drop (i + 2)) = _
      have hroom := Lib.index_room s [40, 41] (by omega)
      have hl : s.length ≥ i + 2 := by rw [hi] at hroom; simp at hroom; omega
      rw [replaceK_strip f _ (by rw [List.length_drop]; omega), List.append_nil]
theorem replaceAll_strip (s : List UInt8) : Lib.replaceAll s [40, 41] [] = stripU s := by
  unfold Lib.replaceAll Lib.replace
  rw [if_neg (by simp)]
  unfold Lib.replaceNum
  rw [if_pos (.inl (by omega))]
  exact replaceK_strip _ s (Nat.lt_succ_self _)
theorem map_u8_inj : ∀ {x y : List UInt8}, x.map UInt8.toNat = y.map UInt8.toNat → x = y
  | [], [], _ => rfl
  | [], _ :: _, h => by cases h
  | _ :: _, [], h => by cases h
  | a :: x, b :: y, h => by
    rw [List.map_cons, List.map_cons] at h
    injection h with h1 h2
    rw [UInt8.toNat_inj.1 h1, map_u8_inj h2]
theorem eqL_to : ∀ {x y : List Nat}, eqL x y = true → x = y
  | [], [], _ => rfl
  | [], _ :: _, h => by cases h
  | _ :: _, [], h => by cases h
  | a :: x, b :: y, h => by
    rw [eqL_cons] at h
    cases h1 : Nat.beq a b with
    | false => rw [h1] at h; cases h
    | true => rw [h1, bc_true] at h; rw [Nat.eq_of_beq_eq_true h1, eqL_to h]
/-- bytealg.MaxLen's cell is known to hold a number. -/
def maxOk (h : H) : Bool := @Blk.rec (fun _ => Bool) false (fun fl _ => Nat.beq fl 131075) (fun _ _ => false) (h.get 0)
theorem maxOk_spec {h : H} (e : maxOk h = true) : (h.get 0).pins 1 65535 := by
  unfold maxOk at e
  generalize h.get 0 = x at e ⊢
  cases x with
  | dead => cases e
  | map _ _ => cases e
  | cells fl l => have := Nat.eq_of_beq_eq_true e; subst this; exact ⟨by decide, l, rfl⟩
def c_strings_ReplaceAll (F g : Nat) (a0 a1 a2 : AV) (h : H) : Option R := bc (maxOk h) (withStr a0 fun l n => withStr a1 fun l1 _ => withStr a2 fun l2 _ => bc (Nat.ble n 1048576) (bc (eqL l1 [40, 41]) (bc (eqL l2 []) (some (.str (stripN l) (lenL (stripN l)), h)) none) none) none) none
theorem s_strings_ReplaceAll (F g : Nat) : ∀ args h r, u3 (c_strings_ReplaceAll F g) args h = some r → Tri Go.Proofs.Tryd.prog 29 args h r := by
  intro args h r e
  obtain ⟨a0, a1, a2, rfl, e1⟩ := u3_some e
  obtain ⟨hp, e1⟩ := bif_some e1
  obtain ⟨l, n, rfl, e2⟩ := withStr_some e1
  obtain ⟨l1, n1, rfl, e3⟩ := withStr_some e2
  obtain ⟨l2, n2, rfl, e4⟩ := withStr_some e3
  obtain ⟨hn, e5⟩ := bif_some e4
  obtain ⟨h1, e6⟩ := bif_some e5
  obtain ⟨h2, e7⟩ := bif_some e6
  cases e7
  have hn := Nat.le_of_ble_eq_true hn
  have h1 := eqL_to h1
  have h2 := eqL_to h2
  subst h1; subst h2
  refine ⟨⟨_, Go.Proofs.Tryd.func29, by kernel_rfl, by kernel_rfl⟩, fun ι w vs hR hV => ?_⟩
  obtain ⟨_, hm0⟩ := hR.pin 0 _ _ (maxOk_spec hp)
  obtain ⟨m, hm⟩ : ∃ m, w.cell? ⟨1, 0, none⟩ = some (.int .i64 m) := by simpa [PinR, pinAt] using hm0
  cases hV with
  | cons v0 hV =>
    cases hV with
    | cons v1 hV =>
      cases hV with
      | cons v2 hV =>
        cases hV
        obtain ⟨s, rfl, q1, q2, q3⟩ := v0.str
        obtain ⟨old, rfl, o1, o2, _⟩ := v1.str
        obtain ⟨new, rfl, p1, p2, _⟩ := v2.str
        have ho : old.data.toList = [40, 41] := map_u8_inj (by rw [o1]; rfl)
        have hw : new.data.toList = [] := map_u8_inj (by rw [p1]; rfl)
        have hos : old.size = 2 := by show old.data.size = 2; rw [← Array.length_toList, ho]; rfl
        have hws : new.size = 0 := by show new.data.size = 0; rw [← Array.length_toList, hw]; rfl
        refine (Go.Proofs.Tryd.strings_ReplaceAll s old new m w (by omega) hm (by omega) (by rw [hws]; omega)).mono ?_
        rintro e w' ⟨rfl, hb⟩
        rw [ho, hw, replaceAll_strip]
        have hsl : s.data.toList.length = n := by rw [← q2]; rfl
        have hle := stripU_le s.data.toList
        refine ⟨_, ι, rfl, ⟨_, rfl, ?_, ?_, ?_⟩, Ext.grow hR hb, hR.grow hb⟩
        · show (stripU s.data.toList).toArray.toList.map UInt8.toNat = _
          rw [← q1, stripN_eq]
        · show (stripU s.data.toList).toArray.size = _
          rw [← q1, stripN_eq, lenL_eq, List.length_map, List.size_toArray]
        · have := strMax_eq
          rw [← q1, stripN_eq, lenL_eq, List.length_map]; omega
end
end Go.AI.T
