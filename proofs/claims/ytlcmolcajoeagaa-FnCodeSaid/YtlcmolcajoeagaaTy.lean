/- The text with a code as given functions. -/
import Derived.Test.YtlcmolcajoeagaaPr4
import Derived.Test.YtlcmolcajoeagaaPr5
import Derived.KernelRfl
namespace Go.AI.T
open Go Go.RowKit Go.AI Go.Proofs
noncomputable section
set_option linter.unusedVariables false
set_option linter.unusedSimpArgs false
set_option maxRecDepth 100000
theorem codT_len {f n : Nat} (h1 : 1 ≤ n) (h5 : n ≤ 5000) (hf : n ≤ f) : (codT f n).length ≤ 2 * n := by
  obtain ⟨e, w', h⟩ := calls_some (codeText_calls f n default h1 h5 hf)
  exact h.1.2
/-- The text of the tree with the code n. -/
def txt (n : Nat) : List Nat := codT 5000 n
theorem txt_len {n : Nat} (h1 : 1 ≤ n) (h5 : n ≤ 5000) : (txt n).length ≤ 10000 := by
  have := codT_len (f := 5000) h1 h5 h5
  show (codT 5000 n).length ≤ 10000
  omega
theorem txt_lt : ∀ (f n : Nat), ∀ c ∈ codT f n, c < 256 := by
  have hp : ∀ (P : List Nat → Prop), P [] → (∀ a t, P a → P t → P (a ++ t)) → ∀ (T : Nat → List Nat), (∀ k, P (T k)) → ∀ (L : List (Nat × Nat)) (n : Nat) (a : List Nat), P a → P (goT T L n a) := by
    intro P h0 happ T hT L
    have hpeel : ∀ (p : Nat) (t : List Nat), P t → ∀ (f n : Nat) (a : List Nat) (k : Nat → List Nat → List Nat), P a → (∀ n a, P a → P (k n a)) → P (peel p t f n a k) := by
      intro p t ht f
      induction f with
      | zero => intro n a k ha hk; exact hk n a ha
      | succ f ih =>
        intro n a k ha hk
        rw [peel_succ]
        cases Nat.beq (n % p) 0 with
        | true => rw [bc_true]; exact ih _ _ _ (happ _ _ ha ht) hk
        | false => rw [bc_false]; exact hk n a ha
    induction L with
    | nil => intro n a ha; exact ha
    | cons x L ih =>
      intro n a ha
      rw [goT_cons]
      refine hpeel _ _ (hT _) _ _ _ _ ha fun n a ha => ?_
      cases Nat.beq n 1 with
      | true => exact ha
      | false => exact ih n a ha
  intro f
  have hin : ∀ f n, ∀ c ∈ inT f n, c < 256 := by
    intro f
    induction f with
    | zero => intro n c hc; cases hc
    | succ f ih =>
      intro n
      rw [inT_succ]
      refine hp (fun l => ∀ c ∈ l, c < 256) (fun c hc => by cases hc) (fun a t h1 h2 c hc => by
        rcases List.mem_append.1 hc with h | h
        · exact h1 c h
        · exact h2 c h) _ (fun k c hc => by
        simp at hc
        rcases hc with rfl | hc | rfl
        · omega
        · exact ih k c hc
        · omega) _ n [] (fun c hc => by cases hc)
  intro n c hc
  simp [codT] at hc
  rcases hc with rfl | hc | rfl
  · omega
  · exact hin f n c hc
  · omega
def inN (n : Nat) (x : Option R) : Option R := bc (Nat.ble 1 n) (bc (Nat.ble n 5000) x none) none
theorem inN_some {n : Nat} {x : Option R} {r : R} (e : inN n x = some r) : 1 ≤ n ∧ n ≤ 5000 ∧ x = some r := by
  obtain ⟨h1, e1⟩ := bif_some e
  obtain ⟨h2, e2⟩ := bif_some e1
  exact ⟨Nat.le_of_ble_eq_true h1, Nat.le_of_ble_eq_true h2, e2⟩
theorem inN_eq {n : Nat} {x : Option R} (h1 : 1 ≤ n) (h5 : n ≤ 5000) : inN n x = x := by
  show bc (Nat.ble 1 n) (bc (Nat.ble n 5000) x none) none = x
  rw [ble_true h1, ble_true h5]; rfl
theorem bytes_val {l : List Nat} (hl : ∀ c ∈ l, c < 256) (hm : l.length ≤ 10000) {ι : Inj} : VR ι (.str l (lenL l)) (.string (bytesOf l)) := by
  refine ⟨bytesOf l, rfl, ?_, ?_, ?_⟩
  · show ((l.map UInt8.ofNat).toArray.toList).map UInt8.toNat = l
    rw [List.toList_toArray, List.map_map]
    conv => rhs; rw [← List.map_id l]
    apply List.map_congr_left
    intro c hc
    have := hl c hc
    simp; omega
  · rw [lenL_eq, bytesOf_size]
  · rw [lenL_eq, strMax_eq]; omega
def c_impl_codeText (F g : Nat) (a0 : AV) (h : H) : Option R := onI a0 (fun n => inN n (some (.str (txt n) (lenL (txt n)), h))) none
theorem s_impl_codeText (F g : Nat) : ∀ args h r, u1 (c_impl_codeText F g) args h = some r → Tri Try.prog 71 args h r := by
  intro args h r e
  obtain ⟨a0, rfl, e1⟩ := u1_some e
  have hc : Callable Try.prog 71 := ⟨_, Try.func71, rfl, rfl⟩
  rcases onI_some e1 with ⟨n, rfl, e2⟩ | ⟨n, rfl, e2⟩
  · obtain ⟨h1, h5, e3⟩ := inN_some e2
    cases e3
    refine Tri.of_calls hc (fun w vs hV => ?_) (fun a ha => by cases ha with | head => rfl | tail _ ha => cases ha) rfl
    cases hV with | cons k1 k2 => cases k2; cases k1; exact (codeText_calls 5000 n w h1 h5 h5).mono fun e w' ⟨he, hb⟩ => ⟨_, he.1, bytes_val (txt_lt 5000 n) (txt_len h1 h5), hb⟩
  · cases e2
theorem quiet2 {P : Program} {f : FuncId} {args : List AV} {h : H} {r : R} (T : Tri P f args h.mark r) (hp : r.1.plain = true) (hlo : h.n ≤ r.2.lo) : Tri P f args h (r.1, h) :=
  ⟨T.can, fun ι w vs hR hV => (T.run ι w vs hR.mark hV).mono fun e w' ⟨x, ι', he, hx, hE, _⟩ => by
    have hb := Ext.quiet hR hE hlo
    exact ⟨x, ι, he, plain_mono hp hx, Ext.of_below hR hb, hR.grow hb⟩⟩
end
end Go.AI.T
