/- strings.Split at a newline, strings.Cut at a space, strconv.Itoa of small numbers, given by the library's contracts. -/
import Derived.Test.YtemkgndnmabcaaaGreatDoorGiv
import Derived.Test.YtemkgndnmabcaaaGreatDoorShelf
import Derived.Lib.Split
import Derived.Lib.ItoaNum
import Derived.Lib.LaidTab
import Derived.KernelRfl
set_option linter.unusedVariables false
set_option linter.unusedSimpArgs false
set_option maxRecDepth 100000
namespace Go.AI
open Go Go.RowKit
noncomputable section
set_option linter.unusedVariables false
def splU (k : UInt8) : List UInt8 → List (List UInt8)
  | [] => [[]]
  | c :: r => if c = k then [] :: splU k r else match splU k r with
    | x :: t => (c :: x) :: t
    | [] => [[c]]
def fstU (k : UInt8) : List UInt8 → List UInt8
  | [] => []
  | c :: r => if c = k then [] else c :: fstU k r
def sndU (k : UInt8) : List UInt8 → List UInt8
  | [] => []
  | c :: r => if c = k then r else sndU k r
def hasU (k : UInt8) : List UInt8 → Bool
  | [] => false
  | c :: r => if c = k then true else hasU k r
theorem index_cons (k b : UInt8) (l : List UInt8) : Lib.index (b :: l) [k] = if b = k then 0 else if Lib.index l [k] == -1 then -1 else Lib.index l [k] + 1 := by
  have e : Lib.index (b :: l) [k] = if List.isPrefixOf [k] (b :: l) then 0 else if Lib.index l [k] == -1 then -1 else Lib.index l [k] + 1 := rfl
  rw [e]
  by_cases h : b = k
  · subst h; simp [List.isPrefixOf]
  · rw [if_neg h, if_neg]
    simp only [List.isPrefixOf, Bool.and_true, beq_iff_eq]
    exact fun e => h e.symm
theorem at_index (k : UInt8) : ∀ s : List UInt8, (Lib.index s [k] = -1 → splU k s = [s] ∧ fstU k s = s ∧ sndU k s = [] ∧ hasU k s = false) ∧
    ∀ i : Nat, Lib.index s [k] = i → splU k s = s.take i :: splU k (s.drop (i + 1)) ∧ fstU k s = s.take i ∧ sndU k s = s.drop (i + 1) ∧ hasU k s = true
  | [] => ⟨fun _ => ⟨rfl, rfl, rfl, rfl⟩, fun i h => by have h : (-1 : Int) = i := h; omega⟩
  | b :: l => by
    have ih := at_index k l
    have e := index_cons k b l
    have hge := Lib.index_ge l [k]
    by_cases hb : b = k
    · rw [if_pos hb] at e
      refine ⟨fun h => by omega, fun i h => ?_⟩
      obtain rfl : i = 0 := by omega
      simp [splU, fstU, sndU, hasU, hb]
    · rw [if_neg hb] at e
      by_cases hm : Lib.index l [k] = -1
      · obtain ⟨h1, h2, h3, h4⟩ := ih.1 hm
        rw [if_pos (by simpa using hm)] at e
        refine ⟨fun _ => by simp [splU, fstU, sndU, hasU, hb, h1, h2, h3, h4], fun i h => by omega⟩
      · rw [if_neg (by simpa using hm)] at e
        refine ⟨fun h => by omega, fun i h => ?_⟩
        obtain ⟨j, rfl⟩ : ∃ j, i = j + 1 := ⟨i - 1, by omega⟩
        obtain ⟨h1, h2, h3, h4⟩ := ih.2 j (by omega)
        simp [splU, fstU, sndU, hasU, hb, h1, h2, h3, h4]
theorem splitK_splU (k : UInt8) : ∀ (f : Nat) (s : List UInt8), s.length < f → Lib.splitK [k] 0 (Lib.countFrom [k] f s) s = splU k s
  | 0, s, h => by omega
  | f + 1, s, h => by
    have e : Lib.countFrom [k] (f + 1) s = if Lib.index s [k] == -1 then 0 else 1 + Lib.countFrom [k] f (s.drop ((Lib.index s [k]).toNat + 1)) := rfl
    by_cases hm : Lib.index s [k] = -1
    · rw [e, if_pos (by simpa using hm), ((at_index k s).1 hm).1]; rfl
    · have hge := Lib.index_ge s [k]
      obtain ⟨i, hi⟩ : ∃ i : Nat, Lib.index s [k] = i := ⟨(Lib.index s [k]).toNat, by omega⟩
      have hroom := Lib.index_room s [k] (by omega)
      have hl : s.length ≥ i + 1 := by rw [hi] at hroom; simp at hroom; omega
      rw [e, if_neg (by simpa using hm), Nat.add_comm, ((at_index k s).2 i hi).1]
      have e2 : ∀ n, Lib.splitK [k] 0 (n + 1) s = if Lib.index s [k] == -1 then [s] else s.take ((Lib.index s [k]).toNat + 0) :: Lib.splitK [k] 0 n (s.drop ((Lib.index s [k]).toNat + 1)) := fun _ => rfl
      rw [e2, if_neg (by simpa using hm), hi]
      show s.take (i + 0) :: Lib.splitK [k] 0 (Lib.countFrom [k] f (s.drop (i + 1))) (s.drop (i + 1)) = _
      rw [splitK_splU k f _ (by rw [List.length_drop]; omega), Nat.add_zero]
theorem cut_U (k : UInt8) (s : List UInt8) : Lib.cut s [k] = (fstU k s, sndU k s, hasU k s) := by
  unfold Lib.cut
  have hge := Lib.index_ge s [k]
  by_cases hm : Lib.index s [k] = -1
  · obtain ⟨_, h2, h3, h4⟩ := (at_index k s).1 hm
    rw [if_neg (by omega), h2, h3, h4]
  · obtain ⟨i, hi⟩ : ∃ i : Nat, Lib.index s [k] = i := ⟨(Lib.index s [k]).toNat, by omega⟩
    obtain ⟨_, h2, h3, h4⟩ := (at_index k s).2 i hi
    rw [if_pos (by omega), h2, h3, h4, hi]
    rfl
/-! ### Over numbers -/
def consH (c : Nat) (L : List (List Nat)) : List (List Nat) := @List.rec (List Nat) (fun _ => List (List Nat)) [[c]] (fun x t _ => (c :: x) :: t) L
def splN (k : Nat) (l : List Nat) : List (List Nat) := @List.rec Nat (fun _ => List (List Nat)) [[]] (fun c _ r => bc (Nat.beq c k) ([] :: r) (consH c r)) l
def fstN (k : Nat) (l : List Nat) : List Nat := @List.rec Nat (fun _ => List Nat) [] (fun c _ r => bc (Nat.beq c k) [] (c :: r)) l
def sndN (k : Nat) (l : List Nat) : List Nat := @List.rec Nat (fun _ => List Nat) [] (fun c t r => bc (Nat.beq c k) t r) l
def hasN (k : Nat) (l : List Nat) : Bool := @List.rec Nat (fun _ => Bool) false (fun c _ r => bc (Nat.beq c k) true r) l
theorem u8_beq (a : UInt8) (k : UInt8) : Nat.beq a.toNat k.toNat = decide (a = k) := by
  by_cases h : a = k
  · subst h; simp [Nat.beq_refl]
  · rw [decide_eq_false h]
    cases hb : Nat.beq a.toNat k.toNat with
    | false => rfl
    | true => exact absurd (UInt8.toNat_inj.1 (Nat.eq_of_beq_eq_true hb)) h
abbrev nat8 (s : List UInt8) : List Nat := s.map UInt8.toNat
theorem splN_eq (k : UInt8) : ∀ s : List UInt8, splN k.toNat (nat8 s) = (splU k s).map nat8
  | [] => rfl
  | c :: r => by
    show bc (Nat.beq c.toNat k.toNat) ([] :: splN k.toNat (nat8 r)) (consH c.toNat (splN k.toNat (nat8 r))) = _
    rw [u8_beq, splN_eq k r]
    by_cases h : c = k
    · simp [splU, h, bc_true]
    · rw [decide_eq_false h, bc_false]
      simp only [splU, if_neg h]
      cases splU k r with
      | nil => rfl
      | cons x t => rfl
theorem fstN_eq (k : UInt8) : ∀ s : List UInt8, fstN k.toNat (nat8 s) = nat8 (fstU k s)
  | [] => rfl
  | c :: r => by
    show bc (Nat.beq c.toNat k.toNat) [] (c.toNat :: fstN k.toNat (nat8 r)) = _
    rw [u8_beq, fstN_eq k r]
    by_cases h : c = k
    · simp [fstU, h, bc_true]
    · simp [fstU, h, bc_false]
theorem sndN_eq (k : UInt8) : ∀ s : List UInt8, sndN k.toNat (nat8 s) = nat8 (sndU k s)
  | [] => rfl
  | c :: r => by
    show bc (Nat.beq c.toNat k.toNat) (nat8 r) (sndN k.toNat (nat8 r)) = _
    rw [u8_beq, sndN_eq k r]
    by_cases h : c = k
    · simp [sndU, h, bc_true]
    · simp [sndU, h, bc_false]
theorem hasN_eq (k : UInt8) : ∀ s : List UInt8, hasN k.toNat (nat8 s) = hasU k s
  | [] => rfl
  | c :: r => by
    show bc (Nat.beq c.toNat k.toNat) true (hasN k.toNat (nat8 r)) = _
    rw [u8_beq, hasN_eq k r]
    by_cases h : c = k
    · simp [hasU, h, bc_true]
    · simp [hasU, h, bc_false]
def digN (f : Nat) : Nat → List Nat := @Nat.rec (fun _ => Nat → List Nat) (fun _ => []) (fun _ r u => bc (Nat.ble (Nat.succ u) 10) [Nat.add 48 u] (appL (r (Nat.div u 10)) [Nat.add 48 (Nat.mod u 10)])) f
theorem toNat_dig {u : Nat} (h : u < 10) : (UInt8.ofNat (48 + u)).toNat = 48 + u := by
  rw [UInt8.toNat_ofNat']; omega
theorem digN_eq : ∀ (f u : Nat), u < 10 ^ (f + 1) → digN (f + 1) u = nat8 (Lib.decDigits u)
  | f, u, h => by
    have e : digN (f + 1) u = bc (Nat.ble (Nat.succ u) 10) [Nat.add 48 u] (appL (digN f (Nat.div u 10)) [Nat.add 48 (Nat.mod u 10)]) := rfl
    rw [e, Lib.decDigits]
    by_cases hu : u < 10
    · rw [ble_true hu, bc_true, dif_pos hu]
      show [48 + u] = [(UInt8.ofNat (48 + u)).toNat]
      rw [toNat_dig hu]
    · rw [ble_false (by omega), bc_false, dif_neg hu]
      cases f with
      | zero => simp at h; omega
      | succ f =>
        have := digN_eq f (u / 10) (by rw [Nat.pow_succ] at h; omega)
        show appL (digN (f + 1) (u / 10)) [48 + u % 10] = _
        rw [this, appL_eq]
        show _ = List.map UInt8.toNat _
        rw [List.map_append]
        show _ ++ [48 + u % 10] = _ ++ [(UInt8.ofNat (48 + u % 10)).toNat]
        rw [toNat_dig (Nat.mod_lt _ (by decide))]
  termination_by f => f
theorem tab_is {P : Program} {w : World} {name : String} {r : Nat} (hn : P.globalNamed name = some r) (h : TabW w.heap[r]?) : Lib.TabIs P w name .u64 Lib.pow10Tab := by
  obtain ⟨el, fr, e⟩ := h
  unfold Lib.TabIs World.var?
  rw [hn]
  show (match w.heap[r]? with | some (.cells cs _ _) => some cs | _ => none) = _
  rw [e]
  show some tabArr = _
  unfold tabArr Lib.pow10Tab
  rw [List.map_map]
  rfl
end
end Go.AI
namespace Go.AI.T
open Go Go.RowKit Go.AI
noncomputable section
theorem map_u8_inj : ∀ {x y : List UInt8}, x.map UInt8.toNat = y.map UInt8.toNat → x = y
  | [], [], _ => rfl
  | [], _ :: _, h => by cases h
  | _ :: _, [], h => by cases h
  | a :: x, b :: y, h => by
    rw [List.map_cons, List.map_cons] at h
    injection h with h1 h2
    rw [UInt8.toNat_inj.1 h1, map_u8_inj h2]
theorem eqL_to : ∀ {x y : List Nat}, eqL x y = true → x = y
  | [], [], _ => rfl
  | [], _ :: _, h => by cases h
  | _ :: _, [], h => by cases h
  | a :: x, b :: y, h => by
    rw [eqL_cons] at h
    cases h1 : Nat.beq a b with
    | false => rw [h1] at h; cases h
    | true => rw [h1, bc_true] at h; rw [Nat.eq_of_beq_eq_true h1, eqL_to h]
def isPin (h : H) (b p : Nat) : Bool := @Blk.rec (fun _ => Bool) false (fun fl _ => Nat.beq fl p) (fun _ _ => false) (h.get b)
theorem isPin_spec {h : H} {b r e : Nat} (he : e < 65536) (k : isPin h b (4 + (r * 65536 + e)) = true) : (h.get b).pins r e := by
  unfold isPin at k
  generalize h.get b = x at k ⊢
  cases x with
  | dead => cases k
  | map _ _ => cases k
  | cells fl l => have := Nat.eq_of_beq_eq_true k; subst this; exact ⟨he, l, rfl⟩
theorem maxCell {ι : Inj} {h : H} {w : World} (hR : Rel ι h w) (k : isPin h 0 (4 + (0 * 65536 + 65535)) = true) : ∃ m, w.cell? ⟨0, 0, none⟩ = some (.int .i64 m) := by
  obtain ⟨_, hm⟩ := hR.pin 0 0 65535 (isPin_spec (by omega) k)
  exact hm
theorem tabBlk {ι : Inj} {h : H} {w : World} (hR : Rel ι h w) (k : isPin h 2 (4 + (1 * 65536 + 65534)) = true) : TabW w.heap[1]? := hR.pinW 2 1 (isPin_spec (by omega) k)
theorem one_byte {s : ByteArray} {k : UInt8} {l : List Nat} (o1 : s.data.toList.map UInt8.toNat = l) (e : l = [k.toNat]) : s.data.toList = [k] ∧ s.size = 1 := by
  have ho : s.data.toList = [k] := map_u8_inj (by rw [o1, e]; rfl)
  exact ⟨ho, by show s.data.size = 1; rw [← Array.length_toList, ho]; rfl⟩
theorem str_of {ι : Inj} (l : List UInt8) (hl : l.length ≤ strMax) : VR ι (.str (nat8 l) (lenL (nat8 l))) (.string ⟨l.toArray⟩) := ⟨_, rfl, by simp, by rw [lenL_eq]; simp [ByteArray.size], by rw [lenL_eq]; simpa using hl⟩
theorem fstU_le (k : UInt8) : ∀ s, (fstU k s).length ≤ s.length
  | [] => Nat.le_refl _
  | c :: r => by have := fstU_le k r; unfold fstU; split <;> simp only [List.length_cons, List.length_nil] <;> omega
theorem sndU_le (k : UInt8) : ∀ s, (sndU k s).length ≤ s.length
  | [] => Nat.le_refl _
  | c :: r => by have := sndU_le k r; unfold sndU; split <;> simp only [List.length_cons] <;> omega
theorem splU_le (k : UInt8) : ∀ s, ∀ x ∈ splU k s, x.length ≤ s.length
  | [], x, hx => by
    have : x = [] := by simpa [splU] using hx
    subst this; exact Nat.le_refl _
  | c :: r, x, hx => by
    have ih := splU_le k r
    unfold splU at hx
    simp only [List.length_cons]
    split at hx
    · rcases List.mem_cons.1 hx with rfl | hx
      · simp
      · have := ih x hx; omega
    · split at hx
      · rename_i y t he
        rw [he] at ih
        rcases List.mem_cons.1 hx with rfl | hx
        · have := ih y (List.mem_cons_self ..); simp only [List.length_cons]; omega
        · have := ih x (List.mem_cons_of_mem _ hx); omega
      · rcases List.mem_cons.1 hx with rfl | hx
        · simp
        · cases hx
/-! ### strings.Cut at a space -/
def c_strings_Cut (F g : Nat) (a0 a1 : AV) (h : H) : Option R := bc (isPin h 0 (4 + (0 * 65536 + 65535))) (withStr a0 fun l n => withStr a1 fun l1 _ => bc (Nat.ble n 1048576) (bc (eqL l1 [32]) (some (.one .tup (.cons (.str (fstN 32 l) (lenL (fstN 32 l))) (.cons (.str (sndN 32 l) (lenL (sndN 32 l))) (.cons (.bool (hasN 32 l)) (.leaf .nil)))), h)) none) none) none
theorem s_strings_Cut (F g : Nat) : ∀ args h r, u2 (c_strings_Cut F g) args h = some r → Tri Go.Proofs.Tryz.prog 39 args h r := by
  intro args h r e
  obtain ⟨a0, a1, rfl, e1⟩ := u2_some e
  obtain ⟨hp, e1⟩ := bif_some e1
  obtain ⟨l, n, rfl, e2⟩ := withStr_some e1
  obtain ⟨l1, n1, rfl, e3⟩ := withStr_some e2
  obtain ⟨hn, e4⟩ := bif_some e3
  obtain ⟨h1, e5⟩ := bif_some e4
  cases e5
  have hn := Nat.le_of_ble_eq_true hn
  have h1 := eqL_to h1
  subst h1
  refine ⟨⟨_, Go.Proofs.Tryz.func39, by kernel_rfl, by kernel_rfl⟩, fun ι w vs hR hV => ?_⟩
  obtain ⟨m, hm⟩ := maxCell hR hp
  cases hV with
  | cons v0 hV =>
    cases hV with
    | cons v1 hV =>
      cases hV
      obtain ⟨s, rfl, q1, q2, q3⟩ := v0.str
      obtain ⟨old, rfl, o1, o2, _⟩ := v1.str
      obtain ⟨ho, hos⟩ := one_byte (k := 32) o1 rfl
      refine (Go.Proofs.Tryz.strings_Cut s old m w (by omega) hm).mono ?_
      rintro e w' ⟨rfl, nn, rfl⟩
      have hb : Below w.heap.size w (w.drewN nn) := ⟨rfl, rfl, rfl, Nat.le_refl _, fun _ _ => rfl⟩
      have hsl : s.data.toList.length = n := by rw [← q2]; rfl
      have hmax := strMax_eq
      have x1 := fstN_eq 32 s.data.toList
      have x2 := sndN_eq 32 s.data.toList
      have x3 := hasN_eq 32 s.data.toList
      rw [show nat8 s.data.toList = l from q1] at x1 x2 x3
      have y1 := fstU_le 32 s.data.toList
      have y2 := sndU_le 32 s.data.toList
      rw [ho, cut_U]
      refine ⟨_, ι, rfl, ?_, Ext.grow hR hb, hR.grow hb⟩
      rw [show fstN 32 l = _ from x1, show sndN 32 l = _ from x2, show hasN 32 l = _ from x3]
      have z : VL ι [.str (nat8 (fstU 32 s.data.toList)) (lenL (nat8 (fstU 32 s.data.toList))), .str (nat8 (sndU 32 s.data.toList)) (lenL (nat8 (sndU 32 s.data.toList))), .bool (hasU 32 s.data.toList)] [.string ⟨(fstU 32 s.data.toList).toArray⟩, .string ⟨(sndU 32 s.data.toList).toArray⟩, .bool (hasU 32 s.data.toList)] := .cons (str_of _ (by omega)) (.cons (str_of _ (by omega)) (.cons rfl .nil))
      exact ⟨_, rfl, VX.of_list z⟩
/-! ### strings.Split at a newline -/
def strsOf (L : List (List Nat)) : List AV := @List.rec (List Nat) (fun _ => List AV) [] (fun x _ r => .str x (lenL x) :: r) L
theorem strsOf_eq : ∀ L, strsOf L = L.map fun x => .str x (lenL x)
  | [] => rfl
  | x :: t => by
    show AV.str x (lenL x) :: strsOf t = _
    rw [strsOf_eq t]; rfl
def lenLL (L : List (List Nat)) : Nat := @List.rec (List Nat) (fun _ => Nat) 0 (fun _ _ r => Nat.succ r) L
theorem lenLL_eq : ∀ L, lenLL L = L.length
  | [] => rfl
  | x :: t => by
    show Nat.succ (lenLL t) = _
    rw [lenLL_eq t]; rfl
def c_strings_Split (F g : Nat) (a0 a1 : AV) (h : H) : Option R := bc (isPin h 0 (4 + (0 * 65536 + 65535))) (withStr a0 fun l n => withStr a1 fun l1 _ => bc (Nat.ble n 1048576) (bc (eqL l1 [10]) (some (.leaf (.sl h.n 0 (lenLL (splN 10 l)) (lenLL (splN 10 l))), h.push (.cells 0 (strsOf (splN 10 l))))) none) none) none
theorem s_strings_Split (F g : Nat) : ∀ args h r, u2 (c_strings_Split F g) args h = some r → Tri Go.Proofs.Tryz.prog 17 args h r := by
  intro args h r e
  obtain ⟨a0, a1, rfl, e1⟩ := u2_some e
  obtain ⟨hp, e1⟩ := bif_some e1
  obtain ⟨l, n, rfl, e2⟩ := withStr_some e1
  obtain ⟨l1, n1, rfl, e3⟩ := withStr_some e2
  obtain ⟨hn, e4⟩ := bif_some e3
  obtain ⟨h1, e5⟩ := bif_some e4
  cases e5
  have hn := Nat.le_of_ble_eq_true hn
  have h1 := eqL_to h1
  subst h1
  refine ⟨⟨_, Go.Proofs.Tryz.func17, by kernel_rfl, by kernel_rfl⟩, fun ι w vs hR hV => ?_⟩
  obtain ⟨m, hm⟩ := maxCell hR hp
  cases hV with
  | cons v0 hV =>
    cases hV with
    | cons v1 hV =>
      cases hV
      obtain ⟨s, rfl, q1, q2, q3⟩ := v0.str
      obtain ⟨old, rfl, o1, o2, _⟩ := v1.str
      obtain ⟨ho, hos⟩ := one_byte (k := 10) o1 rfl
      refine (Go.Proofs.Tryz.strings_Split s old m w (by omega) hm (by omega)).mono ?_
      rintro e w' ⟨rfl, rfl⟩
      have hsl : s.data.toList.length = n := by rw [← q2]; rfl
      have hmax := strMax_eq
      generalize hX : Lib.splitB old 0 (Lib.countB s old) s = X
      have hlen : X.length = Lib.countB s old + 1 := by rw [← hX]; exact Lib.splitB_all old (by omega) 0 _ s rfl
      have hdat : X.map (·.data.toList) = splU 10 s.data.toList := by
        rw [← hX, Lib.splitB_data, ho]
        have : Lib.countB s old = Lib.countFrom [10] (s.data.toList.length + 1) s.data.toList := by
          show Lib.count s.data.toList old.data.toList = _
          rw [ho]; rfl
        rw [this]
        exact splitK_splU 10 _ _ (Nat.lt_succ_self _)
      have hsp : splN 10 l = X.map fun x => nat8 x.data.toList := by
        have := splN_eq 10 s.data.toList
        rw [show nat8 s.data.toList = l from q1, ← hdat, List.map_map] at this
        exact this
      have hve : ∀ (Y : List ByteArray), (∀ x ∈ Y, x.size ≤ strMax) → VL ι (strsOf (Y.map fun x => nat8 x.data.toList)) (Y.map Value.string) := by
        intro Y
        induction Y with
        | nil => intro _; exact .nil
        | cons x t ih =>
          intro hY
          exact .cons ⟨x, rfl, rfl, by rw [lenL_eq, List.length_map, Array.length_toList]; rfl, by have := hY x (List.mem_cons_self ..); rw [lenL_eq, List.length_map, Array.length_toList]; exact this⟩ (ih fun y hy => hY y (List.mem_cons_of_mem _ hy))
      have hsz : ∀ x ∈ X, x.size ≤ strMax := fun x hx => by
        have h1 : x.data.toList ∈ splU 10 s.data.toList := by rw [← hdat]; exact List.mem_map.2 ⟨x, hx, rfl⟩
        have h2 := splU_le 10 _ _ h1
        rw [hsl, Array.length_toList] at h2
        show x.data.size ≤ _
        omega
      have hv := hve X hsz
      rw [← hsp] at hv
      have hlv : (X.map Value.string).length = lenLL (splN 10 l) := by rw [List.length_map, lenLL_eq, hsp, List.length_map]
      refine ⟨_, ι.add h.n (w.heap.size, 0, (X.map Value.string).length), rfl, ⟨w.heap.size, 0, (X.map Value.string).length, by simp [Inj.add], ?_⟩, Ext.alloc hR (.cells 0 (strsOf (splN 10 l))) _ (X.map Value.string).length, Rel.newRow hR _ hv⟩
      rw [← hlv, List.length_map, hlen]
/-! ### strconv.Itoa -/
def c_strconv_Itoa (F g : Nat) (a0 : AV) (h : H) : Option R := bc (isPin h 2 (4 + (1 * 65536 + 65534))) (withInt a0 fun k c => natI c fun u => bc (Nat.beq k 3) (bc (Nat.ble (Nat.succ u) 10000) (some (.str (digN 4 u) (lenL (digN 4 u)), h)) none) none) none
theorem s_strconv_Itoa (F g : Nat) : ∀ args h r, u1 (c_strconv_Itoa F g) args h = some r → Tri Go.Proofs.Tryz.prog 19 args h r := by
  intro args h r e
  obtain ⟨a0, rfl, e1⟩ := u1_some e
  obtain ⟨hp, e1⟩ := bif_some e1
  obtain ⟨k, c, rfl, e2⟩ := withInt_some e1
  obtain ⟨u, rfl, e3⟩ := natI_some e2
  obtain ⟨hk, e4⟩ := bif_some e3
  obtain ⟨hu, e5⟩ := bif_some e4
  cases e5
  have hk := Nat.eq_of_beq_eq_true hk
  have hu : u < 10000 := Nat.le_of_ble_eq_true hu
  subst hk
  refine ⟨⟨_, Go.Proofs.Tryz.func19, by kernel_rfl, by kernel_rfl⟩, fun ι w vs hR hV => ?_⟩
  have ht := tab_is (P := Go.Proofs.Tryz.prog) (name := "internal/strconv.uint64pow10") (r := 1) (by kernel_rfl) (tabBlk hR hp)
  cases hV with
  | cons v0 hV =>
    cases hV
    obtain rfl := v0.int
    refine (Go.Proofs.Tryz.strconv_Itoa (.ofNat u) (by show (-9223372036854775808 : Int) ≤ ((u : Nat) : Int); omega) (by show ((u : Nat) : Int) ≤ 9223372036854775807; omega) w ht).mono ?_
    rintro e w' ⟨rfl, q, os, rfl⟩
    have hb : Below w.heap.size w (Go.Sort.grow (w.drewN q) os) := ⟨rfl, rfl, rfl, by simp [Go.Sort.grow], fun j hj => by
      show (w.heap ++ os)[j]? = w.heap[j]?
      rw [Array.getElem?_append_left hj]⟩
    have hi : Lib.itoa (.ofNat u) = Lib.decDigits u := rfl
    have hd := digN_eq 3 u (by omega)
    have hlen : (Lib.decDigits u).length ≤ strMax := by
      have h1 : (digN 4 u).length = (Lib.decDigits u).length := by rw [hd, List.length_map]
      have h2 : ∀ f v, (digN f v).length ≤ f := by
        intro f
        induction f with
        | zero => intro v; exact Nat.le_refl 0
        | succ f ih =>
          intro v
          show (bc (Nat.ble (Nat.succ v) 10) [Nat.add 48 v] (appL (digN f (Nat.div v 10)) [Nat.add 48 (Nat.mod v 10)])).length ≤ _
          cases Nat.ble (Nat.succ v) 10 with
          | true => rw [bc_true]; simp
          | false => rw [bc_false, appL_eq, List.length_append]; have := ih (Nat.div v 10); simp only [List.length_cons, List.length_nil]; omega
      have := h2 4 u
      have hmax := strMax_eq
      omega
    rw [hi]
    refine ⟨_, ι, rfl, ?_, Ext.grow hR hb, hR.grow hb⟩
    rw [show digN 4 u = _ from hd]
    exact str_of _ hlen
end
end Go.AI.T
