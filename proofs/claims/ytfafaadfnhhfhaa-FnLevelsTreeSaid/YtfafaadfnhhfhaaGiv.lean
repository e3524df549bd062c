/- Functions of the library whose contracts are given. -/
import Derived.Test.YtfafaadfnhhfhaaRaw
import Derived.Test.YtfafaadfnhhfhaaShelf
import Derived.KernelRfl
namespace Go.AI.T
open Go Go.RowKit Go.AI
noncomputable section
set_option linter.unusedVariables false
set_option linter.unusedSimpArgs false

def cmpL : List Nat → List Nat → Int := @List.rec Nat (fun _ => List Nat → Int) (@List.rec Nat (fun _ => Int) (.ofNat 0) (fun _ _ _ => .negSucc 0))
  (fun a _ f => @List.rec Nat (fun _ => Int) (.ofNat 1) (fun b y _ => bc (Nat.ble (Nat.succ a) b) (.negSucc 0) (bc (Nat.ble (Nat.succ b) a) (.ofNat 1) (f y))))
theorem cmpL_cons (a b : Nat) (x y : List Nat) : cmpL (a :: x) (b :: y) = bc (Nat.ble (Nat.succ a) b) (.negSucc 0) (bc (Nat.ble (Nat.succ b) a) (.ofNat 1) (cmpL x y)) := rfl
theorem cmpL_eq : ∀ x y : List UInt8, cmpL (x.map UInt8.toNat) (y.map UInt8.toNat) = Lib.compareBytes x y
  | [], [] => rfl
  | [], _ :: _ => rfl
  | _ :: _, [] => rfl
  | a :: x, b :: y => by
    have e : Lib.compareBytes (a :: x) (b :: y) = if a < b then -1 else if b < a then 1 else Lib.compareBytes x y := by rw [Lib.compareBytes]
    rw [e, List.map_cons, List.map_cons, cmpL_cons, cmpL_eq x y]
    rw [ble_decide, ble_decide, bc_ite, bc_ite]
    simp only [UInt8.lt_iff_toNat_lt, Nat.succ_le_iff]
    rfl
def c_strings_Compare (F g : Nat) (a0 a1 : AV) (h : H) : Option R := withStr a0 fun l _ => withStr a1 fun l' _ => some (.int 3 (cmpL l l'), h)
theorem s_strings_Compare (F g : Nat) : ∀ args h r, u2 (c_strings_Compare F g) args h = some r → Tri Go.Proofs.Try.prog 157 args h r := by
  intro args h r e
  obtain ⟨a0, a1, rfl, e1⟩ := u2_some e
  obtain ⟨l, n, rfl, e2⟩ := withStr_some e1
  obtain ⟨l', n', rfl, e3⟩ := withStr_some e2
  cases e3
  refine ⟨⟨_, Go.Proofs.Try.func157, by kernel_rfl, by kernel_rfl⟩, fun ι w vs hR hV => ?_⟩
  cases hV with
  | cons h1 hV =>
    cases hV with
    | cons h2 hV =>
      cases hV
      obtain ⟨s, rfl, hl, _⟩ := h1.str
      obtain ⟨t, rfl, hl', _⟩ := h2.str
      refine (Go.Proofs.Try.strings_Compare s t w).mono ?_
      rintro e w' ⟨rfl, rfl⟩
      refine ⟨_, ι, rfl, ?_, Ext.refl _ _ _, hR⟩
      rw [← hl, ← hl', cmpL_eq]
      rfl

def repN (l : List Nat) (c : Nat) : List Nat := @Nat.rec (fun _ => List Nat) [] (fun _ r => appL l r) c
theorem repN_eq (l : List UInt8) : ∀ c, repN (l.map UInt8.toNat) c = (Lib.repeatL l c).map UInt8.toNat
  | 0 => rfl
  | c + 1 => by
    show appL (l.map UInt8.toNat) (repN (l.map UInt8.toNat) c) = _
    rw [appL_eq, repN_eq l c, Nat.add_comm c 1, Lib.repeatL_add, Lib.repeatL_one, List.map_append]
def c_strings_Repeat (F g : Nat) (a0 a1 : AV) (h : H) : Option R := withStr a0 fun l n => withInt a1 fun k c => natI c fun m => bc (Nat.beq k 3) (bc (Nat.ble m 10000) (bc (Nat.ble n 10000) (some (.str (repN l m) (Nat.mul n m), h)) none) none) none
theorem s_strings_Repeat (F g : Nat) : ∀ args h r, u2 (c_strings_Repeat F g) args h = some r → Tri Go.Proofs.Try.prog 143 args h r := by
  intro args h r e
  obtain ⟨a0, a1, rfl, e1⟩ := u2_some e
  obtain ⟨l, n, rfl, e2⟩ := withStr_some e1
  obtain ⟨k, c, rfl, e3⟩ := withInt_some e2
  obtain ⟨m, rfl, e4⟩ := natI_some e3
  obtain ⟨hk, e5⟩ := bif_some e4
  obtain ⟨hm, e6⟩ := bif_some e5
  obtain ⟨hn, e7⟩ := bif_some e6
  have hk := Nat.eq_of_beq_eq_true hk
  have hm := Nat.le_of_ble_eq_true hm
  have hn := Nat.le_of_ble_eq_true hn
  subst hk
  cases e7
  refine ⟨⟨_, Go.Proofs.Try.func143, by kernel_rfl, by kernel_rfl⟩, fun ι w vs hR hV => ?_⟩
  cases hV with
  | cons h1 hV =>
    cases hV with
    | cons h2 hV =>
      cases hV
      obtain ⟨s, rfl, hl, hs, _⟩ := h1.str
      have h2 := h2.int
      rw [kd3] at h2
      subst h2
      have hnm : n * m ≤ 10000 * 10000 := Nat.mul_le_mul hn hm
      refine (Go.Proofs.Try.strings_Repeat s m w (by omega) (by rw [hs]; omega)).mono ?_
      rintro e w' ⟨rfl, hb⟩
      refine ⟨_, ι, rfl, ⟨_, rfl, ?_, ?_, ?_⟩, Ext.of_below hR hb, hR.grow hb⟩
      · show (Lib.repeatL s.data.toList m).toArray.toList.map UInt8.toNat = _
        rw [← hl, repN_eq]
      · show (Lib.repeatL s.data.toList m).toArray.size = n * m
        have hsl : s.data.toList.length = n := by rw [← hs]; rfl
        rw [List.size_toArray, Lib.repeatL_length, hsl, Nat.mul_comm]
      · have := strMax_eq; show n * m ≤ strMax; omega

def catL (xs : List AV) (k : List Nat → Nat → Option R) : Option R := @List.rec AV (fun _ => (List Nat → Nat → Option R) → Option R) (fun k => k [] 0) (fun a _ f k => a.onStr none fun l n => f fun l' n' => k (appL l l') (Nat.add n n')) xs k
theorem catL_some {ι : Inj} : ∀ {us : List AV} {vs : List Value} {k : List Nat → Nat → Option R} {r : R}, catL us k = some r → VL ι us vs → ∃ xs : List ByteArray, vs = xs.map Value.string ∧ k ((xs.map (·.data.toList)).flatten.map UInt8.toNat) (xs.map (·.size)).sum = some r
  | [], _, k, r, h, .nil => ⟨[], rfl, h⟩
  | a :: us, _, k, r, h, .cons hv hl => by
    obtain ⟨l, n, rfl, h9⟩ := withStr_some (show withStr a (fun l n => catL us fun l' n' => k (appL l l') (Nat.add n n')) = some r from h)
    obtain ⟨s, rfl, hl1, hn1, _⟩ := hv.str
    obtain ⟨xs, rfl, h2⟩ := catL_some h9 hl
    refine ⟨s :: xs, rfl, ?_⟩
    rw [appL_eq, ← hl1, ← hn1] at h2
    simpa using h2
theorem join_nil_sep : ∀ xs : List (List UInt8), Lib.join xs [] = xs.flatten
  | [] => rfl
  | x :: r => by rw [Lib.join_cons]; simp [Lib.joinTail]
def joinK (h : H) (l : List Nat) (m : Nat) : Option R := bc (Nat.ble m 1000000) (some (.str l m, h)) none
def c_strings_Join (F g : Nat) (a0 a1 : AV) (h : H) : Option R := withStr a1 fun sl sn => bc (Nat.beq (lenL sl) 0)
  (a0.onSl none (fun l => @Leaf.rec (fun _ => Option R) none none (joinK h [] 0) none none none none (fun _ => none) (fun _ _ _ _ => none) l)
    (fun b o n c => bc (Nat.ble 1 n) (bc (Nat.ble n c) (bc (Nat.ble n 1000000) (withCells h b fun _ l => bc (Nat.beq (lenL (takeL n (dropL o l))) n) (catL (takeL n (dropL o l)) (joinK h)) none) none) none) (bc (Nat.beq n 0) (joinK h [] 0) none))
    (fun b o n _ => bc (Nat.ble 1 n) (bc (Nat.ble n 1000000) (withCells h b fun _ l => bc (Nat.beq (lenL (takeL n (dropL o l))) n) (catL (takeL n (dropL o l)) (joinK h)) none) none) (bc (Nat.beq n 0) (joinK h [] 0) none))) none
theorem bc_some {c : Bool} {x y : Option R} {r : R} (h : bc c x y = some r) : (c = true ∧ x = some r) ∨ (c = false ∧ y = some r) := by
  cases c
  · exact .inr ⟨rfl, h⟩
  · exact .inl ⟨rfl, h⟩
theorem s_strings_Join (F g : Nat) : ∀ args h r, u2 (c_strings_Join F g) args h = some r → Tri Go.Proofs.Try.prog 94 args h r := by
  intro args h r e
  obtain ⟨a0, a1, rfl, e1⟩ := u2_some e
  obtain ⟨sl, sn, rfl, e2⟩ := withStr_some e1
  obtain ⟨hsl, e3⟩ := bif_some e2
  have hsl := Nat.eq_of_beq_eq_true hsl
  rw [lenL_eq] at hsl
  obtain rfl := List.eq_nil_of_length_eq_zero hsl
  refine ⟨⟨_, Go.Proofs.Try.func94, by kernel_rfl, by kernel_rfl⟩, fun ι w vs hR hV => ?_⟩
  cases hV with
  | cons h1 hV =>
    cases hV with
    | cons h2 hV =>
      cases hV
      obtain ⟨sep, rfl, hsep, _⟩ := h2.str
      have hsep : sep.data.toList = [] := by simpa using hsep
      have none0 : ∀ (a : Option Addr) (c : Nat), joinK h [] 0 = some r → Calls Go.Proofs.Try.prog 94 #[.slice a 0 c, .string sep] w fun e w' => ∃ v ι', e = .returned v ∧ VR ι' r.1 v ∧ Ext ι h w ι' r.2 w' ∧ Rel ι' r.2 w' := fun a c hx => by
        cases hx
        refine (Go.Proofs.Try.strings_Join_none a c sep w).mono ?_
        rintro e w' ⟨rfl, rfl⟩
        exact ⟨_, ι, rfl, ⟨_, rfl, rfl, rfl, Nat.zero_le _⟩, Ext.refl _ _ _, hR⟩
      have some0 : ∀ (b o n c : Nat) (B base sz : Nat), ι b = some (B, base, sz) → n ≤ c → n ≤ 1000000 → (withCells h b fun _ l => bc (Nat.beq (lenL (takeL n (dropL o l))) n) (catL (takeL n (dropL o l)) (joinK h)) none) = some r →
          Calls Go.Proofs.Try.prog 94 #[.slice (some ⟨B, base + o, none⟩) n c, .string sep] w fun e w' => ∃ v ι', e = .returned v ∧ VR ι' r.1 v ∧ Ext ι h w ι' r.2 w' ∧ Rel ι' r.2 w' := fun b o n c B base sz ib hc hn hw => by
        obtain ⟨fl, l, hb, e8⟩ := withCells_some hw
        rw [takeL_eq, dropL_eq, lenL_eq] at e8
        obtain ⟨hl8, e9⟩ := bif_some e8
        have hl8 := Nat.eq_of_beq_eq_true hl8
        obtain ⟨cc, ty, lo, hi, hh, _, hcc, _⟩ := hR.cells hb ib
        obtain ⟨us, u1, u2, u3⟩ := hcc.list o n hl8
        obtain ⟨xs, rfl, e10⟩ := catL_some e9 u2
        obtain ⟨hm, e11⟩ := bif_some e10
        have hm := Nat.le_of_ble_eq_true hm
        cases e11
        have hxn : xs.length = n := by simpa using u1
        subst hxn
        have hlen : (xs.map (·.data.toList)).flatten.length = (xs.map (·.size)).sum := by
          rw [List.length_flatten, List.map_map]; rfl
        refine (Go.Proofs.Try.strings_Join B (base + o) c xs sep w (fun j x hj => ?_) (hR.lt _ _ _ _ ib) (by omega) hc ?_).mono ?_
        · have := u3 j (.string x) (by rw [List.getElem?_map, hj]; rfl)
          rw [cell_row hh]; exact this
        · rw [hsep, join_nil_sep, hlen]; omega
        · rintro e w' ⟨rfl, hb⟩
          rw [hsep, join_nil_sep]
          refine ⟨_, ι, rfl, ⟨_, rfl, rfl, ?_, ?_⟩, Ext.of_below hR hb, hR.grow hb⟩
          · show (xs.map (·.data.toList)).flatten.toArray.size = _; rw [List.size_toArray, hlen]
          · have := strMax_eq; omega
      cases a0 using AV.casesE <;> try (cases e3; done)
      case nils =>
        have := h1.nils; subst this
        exact none0 none 0 e3
      case sl b o n c =>
        obtain ⟨B, base, sz, ib, rfl⟩ := h1.sl
        rcases bc_some e3 with ⟨c1, e4⟩ | ⟨c1, e4⟩
        · obtain ⟨c2, e5⟩ := bif_some e4
          obtain ⟨c3, e6⟩ := bif_some e5
          exact some0 b o n c B base sz ib (Nat.le_of_ble_eq_true c2) (Nat.le_of_ble_eq_true c3) e6
        · obtain ⟨c2, e5⟩ := bif_some e4
          have := Nat.eq_of_beq_eq_true c2
          subst this
          exact none0 _ c e5
      case osl b o n es =>
        rcases bc_some e3 with ⟨c1, e4⟩ | ⟨c1, e4⟩
        · obtain ⟨c3, e6⟩ := bif_some e4
          obtain ⟨B, base, sz, c, ib, rfl, hnc, _⟩ := h1.osl1 (Nat.le_of_ble_eq_true c1)
          exact some0 b o n c B base sz ib hnc (Nat.le_of_ble_eq_true c3) e6
        · obtain ⟨c2, e5⟩ := bif_some e4
          have := Nat.eq_of_beq_eq_true c2
          subst this
          obtain ⟨A, c, rfl, _⟩ := h1.osl
          exact none0 _ c e5
end
end Go.AI.T
