/- Rows of texts that come in. -/
import Derived.Test.YtojcncloeikjlabLxRow
namespace Go.AI
open Go Go.RowKit
noncomputable section
set_option linter.unusedVariables false
set_option linter.unusedSimpArgs false
variable {P : Program}
/-- A text as a value. -/
def sv (l : List Nat) : AV := .str l l.length
def bytesOf (s : ByteArray) : List Nat := s.data.toList.map UInt8.toNat
theorem bytesOf_len (s : ByteArray) : (bytesOf s).length = s.size := by unfold bytesOf; rw [List.length_map]; rfl
def svB (s : ByteArray) : AV := sv (bytesOf s)
/-- What a law over a row of texts needs: that it is true whatever the row. -/
def StrLaw (c : AV → H → Option R) : Prop := ∀ (a0 : AV) (n : Nat) (L : List (List Nat)) (B : Blk), ((a0 = .leaf .nils ∧ n = 0) ∨ a0 = .osl 0 0 n 1) → (0 < n → B = .cells 2 (L.map sv)) → n ≤ L.length → n ≤ maxLen → (∀ k ∈ L, k.length ≤ maxLen) → ∃ h', c a0 (hCode B) = some (.bool true, h')
theorem strLaw_walk {f : FuncId} {c : AV → H → Option R} (hs : ∀ args h r, u1 c args h = some r → Tri P f args h r) (hc : StrLaw c) {a : Option Addr} {len cap : Nat} {zs : List ByteArray} {w : World}
    (hw : (a = none ∧ len = 0 ∧ cap = 0 ∧ zs = []) ∨ ∃ x, a = some x ∧ len ≤ cap ∧ cap ≤ maxLen ∧ zs.length = cap ∧ (∀ i, i < zs.length → w.cell? (x.add i) = some (.string (zs.getD i ByteArray.empty))) ∧ ∀ s ∈ zs, s.size ≤ maxLen) :
    Calls P f #[.slice a len cap] w fun e w' => e = .returned (.bool true) ∧ Below w.heap.size w w' := by
  have r0 : Rel (fun _ => none) (hCode .dead) w := {
    fresh := fun _ _ e => by cases e
    lt := fun _ _ _ _ e => by cases e
    inj := fun b c B o s o' s' hb => by
      by_cases h0 : b = 0
      · subst h0; exact hb.elim
      · rw [hCode_dead _ b h0] at hb; exact hb.elim
    blk := fun b hb => by
      by_cases h0 : b = 0
      · subst h0; exact absurd rfl hb
      · exact absurd (hCode_dead _ b h0) hb }
  rcases hw with ⟨rfl, rfl, rfl, rfl⟩ | ⟨x, rfl, hlc, hmax, hz, hcell, hwf⟩
  · obtain ⟨h', e⟩ := hc (.leaf .nils) 0 [] .dead (.inl ⟨rfl, rfl⟩) (by omega) (Nat.zero_le _) (Nat.zero_le _) (fun k hk => by cases hk)
    exact code_true (hs [.leaf .nils] _ _ e) (fun h => h) r0 rfl
  by_cases hc0 : cap = 0
  · obtain rfl : len = 0 := by omega
    subst hc0
    obtain ⟨h', e⟩ := hc (.osl 0 0 0 1) 0 [] .dead (.inr rfl) (by omega) (Nat.zero_le _) (Nat.zero_le _) (fun k hk => by cases hk)
    exact code_true (hs [.osl 0 0 0 1] _ _ e) (fun h => h) r0 ⟨x, 0, rfl, Nat.le_refl _, .inl rfl⟩
  -- the row lies in a block
  have hc1 := hcell 0 (by omega)
  obtain ⟨B, off, spot⟩ := x
  have hsp : spot = none := by
    have h1 : w.cell? ⟨B, off, spot⟩ = some (.string (zs.getD 0 ByteArray.empty)) := hc1
    cases spot with
    | none => rfl
    | some s =>
      exfalso
      unfold World.cell? at h1
      split at h1
      · simp at h1
      · cases h1
  subst hsp
  have hcell' : ∀ i, i < zs.length → w.cell? ⟨B, off + i, none⟩ = some (.string (zs.getD i ByteArray.empty)) := fun i hi => by rw [← addr_add]; exact hcell i hi
  obtain ⟨cc, ty, lo, hi, hB⟩ : ∃ cc ty lo hi, w.heap[B]? = some (.cells cc ty (lo, hi)) := by
    have h1 := hcell' 0 (by omega)
    unfold World.cell? at h1
    split at h1
    · rename_i c t fr hh; exact ⟨c, t, fr.1, fr.2, hh⟩
    · cases h1
  have hcc : ∀ i, i < zs.length → cc[off + i]? = some (.string (zs.getD i ByteArray.empty)) := fun i hi => by rw [← cell_row hB]; exact hcell' i hi
  have hsz : off + cap ≤ cc.size := by
    have := (Array.getElem?_eq_some_iff.1 (hcc (cap - 1) (by omega))).1
    omega
  obtain ⟨h', e⟩ := hc (.osl 0 0 len 1) len (zs.map bytesOf) (.cells 2 (zs.map svB)) (.inr rfl) (fun _ => by rw [List.map_map]; rfl) (by rw [List.length_map]; omega) (Nat.le_trans hlc hmax) (fun k hk => by obtain ⟨s, hs, rfl⟩ := List.mem_map.1 hk; rw [bytesOf_len]; exact hwf s hs)
  let ι : Inj := fun b => if b = 0 then some (B, off, cc.size) else none
  have hι : ι 0 = some (B, off, cc.size) := rfl
  have hιn : ∀ b, b ≠ 0 → ι b = none := fun b hb => if_neg hb
  have hlt : B < w.heap.size := (Array.getElem?_eq_some_iff.1 hB).1
  have r1 : Rel ι (hCode (.cells 2 (zs.map svB))) w := {
    fresh := fun b y eb => by
      by_cases hb : b = 0
      · subst hb; exact Nat.zero_lt_one
      · rw [hιn b hb] at eb; cases eb
    lt := fun b C o s eb => by
      by_cases hb : b = 0
      · subst hb; rw [hι] at eb; cases eb; exact hlt
      · rw [hιn b hb] at eb; cases eb
    inj := fun b d C o s o' s' hb => by
      exfalso
      by_cases h0 : b = 0
      · subst h0; exact absurd (show 2 < 2 from hb) (by omega)
      · rw [hCode_dead _ b h0] at hb; exact hb
    blk := fun b hb => by
      by_cases h0 : b = 0
      · subst h0
        refine ⟨B, off, cc.size, rfl, cc, ty, lo, hi, hB, rfl, fun i a hi => ?_, fun h => absurd h (by omega), fun h => absurd h (by omega)⟩
        rw [List.getElem?_map] at hi
        cases hz' : zs[i]? with
        | none => rw [hz'] at hi; cases hi
        | some z =>
          rw [hz'] at hi
          cases hi
          have hil := (List.getElem?_eq_some_iff.1 hz').1
          refine ⟨_, hcc i hil, ?_⟩
          have : zs.getD i ByteArray.empty = z := by rw [List.getD_eq_getElem?_getD, hz']; rfl
          rw [this]; have hzm := hwf z (List.mem_of_getElem? hz'); exact ⟨z, rfl, rfl, (bytesOf_len z).symm, by rw [bytesOf_len]; exact Nat.le_trans hzm (by decide)⟩
      · exact absurd (hCode_dead _ b h0) hb }
  exact code_true (hs [.osl 0 0 len 1] _ _ e) (show ¬ (2 < 2) by omega) r1 ⟨⟨B, off, none⟩, cap, rfl, hlc, .inr ⟨B, off, cc.size, hι, by simp, by omega⟩⟩
end
end Go.AI
