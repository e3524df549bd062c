/- Codes of trees as given functions. -/
import Derived.Test.YtlcmolcajoeagaaCtEv
import Derived.KernelRfl
namespace Go.AI.V
open Go Go.RowKit Go.AI
set_option linter.unusedVariables false
set_option linter.unusedSimpArgs false
set_option maxRecDepth 100000
noncomputable section
theorem okS_all : allR okS 17 1 1 (fun l => 40 :: l) = true := by kernel_rfl
theorem srt_ok {l : List Nat} (ht : isTree l = true) (hl : l.length ≤ 12) : (∃ h', c_impl_TreeSorted 20000 20 (.str l (lenL l)) H0 = some (.one .tup (.cons (.str (srt l) (lenL (srt l))) (.cons (.bool true) (.leaf .nil))), h')) ∧ codeT (srt l) = codeT l := by
  have hm := isTree_mem ht
  obtain ⟨r, hr, he⟩ := List.mem_map.1 hm
  have h1 := allR_mem okS 17 1 1 (fun l => 40 :: l) okS_all r hr
  rw [show (40 :: r) = _ from he] at h1
  unfold okS at h1
  rw [lenL_eq, ble_true hl, bc_true] at h1
  obtain ⟨h2, h3⟩ := bc_and h1
  obtain ⟨h', e⟩ := isSrt_eq h2
  exact ⟨⟨h', by rw [lenL_eq l]; exact e⟩, Nat.eq_of_beq_eq_true h3⟩
theorem ok_all (es : List (AV × AV × Nat)) (c : Nat) {l : List Nat} (ht : isTree l = true) (hl : l.length ≤ 12) : (∃ h', c_spec_CodeOf 20000 20 (.str l (lenL l)) H0 = some (toldN (codeT l), h')) ∧ ∃ h' es' c', c_impl_codeBook_ask 20000 20 (.leaf (.map 0)) (.str l (lenL l)) (hM es c) = some (toldN (codeT l), h') ∧ h'.get 0 = .map es' c' ∧ plainE es' = true := by
  have hm := isTree_mem ht
  obtain ⟨r, hr, he⟩ := List.mem_map.1 hm
  have h1 := allR_mem (okC es c) 17 1 1 (fun l => 40 :: l) (evCt_all es c) r hr
  rw [show (40 :: r) = _ from he] at h1
  unfold okC at h1
  rw [lenL_eq, ble_true hl, bc_true] at h1
  obtain ⟨h2, h3⟩ := bc_and h1
  rw [lenL_eq]
  exact ⟨isTold_eq h2, askTold_eq h3⟩
/-- What may be asked of. -/
def may (l : List Nat) (n : Nat) : Bool := bc (Nat.beq (lenL l) n) (bc (Nat.ble n 1048576) (bc (isTree l) (Nat.ble n 12) true) false) false
theorem may_eq {l : List Nat} {n : Nat} (h : may l n = true) : lenL l = n ∧ n ≤ 1048576 ∧ (isTree l = true → l.length ≤ 12) := by
  obtain ⟨h1, h2⟩ := bc_and h
  obtain ⟨h3, h4⟩ := bc_and h2
  have h1 := Nat.eq_of_beq_eq_true h1
  refine ⟨h1, Nat.le_of_ble_eq_true h3, fun ht => ?_⟩
  rw [ht, bc_true] at h4
  rw [← lenL_eq, h1]; exact Nat.le_of_ble_eq_true h4
theorem may_ok {l : List Nat} {n : Nat} (h1 : lenL l = n) (h2 : n ≤ 1048576) (h3 : isTree l = true → l.length ≤ 12) : may l n = true := by
  unfold may
  rw [h1, Nat.beq_refl, bc_true, ble_true h2, bc_true]
  cases ht : isTree l with
  | false => rfl
  | true => rw [bc_true]; have := h3 ht; rw [← lenL_eq, h1] at this; exact ble_true this
theorem codeOf_tri (l : List Nat) (n : Nat) (hy : may l n = true) (h : H) : Tri Go.Proofs.Try.prog id_spec_CodeOf [.str l n] h (toldN (codeT l), h) := by
  obtain ⟨h1, h2, h3⟩ := may_eq hy
  have hp : ∀ a ∈ [AV.str l n], a.plain = true := fun a ha => by cases ha with | head => rfl | tail _ ha => cases ha
  cases ht : isTree l with
  | true =>
    obtain ⟨⟨h', e⟩, _⟩ := ok_all [] 0 ht (h3 ht)
    rw [h1] at e
    exact Tri.forget (s_spec_CodeOf 20000 20 [.str l n] H0 _ e) hp rfl h
  | false =>
    rw [codeT_bad (by rw [← lenL_eq, h1]; exact h2) ht]
    exact Tri.forget (s_spec_CodeOf 20000 20 [.str l n] H0 _ (codeOf_bad h1 h2 ht H0)) hp rfl h
theorem ask_ex (l : List Nat) (n : Nat) (hy : may l n = true) (es : List (AV × AV × Nat)) (c : Nat) (hp : plainE es = true) : ∃ q : List (AV × AV × Nat) × Nat, plainE q.1 = true ∧ ∀ (h : H) (b : Nat), h.get b = .map es c →
    Tri Go.Proofs.Try.prog id_impl_codeBook_ask [.leaf (.map b), .str l n] h (toldN (codeT l), h.set b (.map q.1 q.2)) := by
  obtain ⟨h1, h2, h3⟩ := may_eq hy
  cases ht : isTree l with
  | true =>
    obtain ⟨_, h', es', c', e, hg, hp'⟩ := ok_all es c ht (h3 ht)
    rw [h1] at e
    exact ⟨(es', c'), hp', fun h b hb => Tri.viewMap (s_impl_codeBook_ask 20000 20 [.leaf (.map 0), .str l n] (hM es c) _ e) rfl rfl hp hg hp' hb⟩
  | false =>
    rw [codeT_bad (by rw [← lenL_eq, h1]; exact h2) ht]
    exact ⟨([], c), rfl, fun h b hb => Tri.viewMap (s_impl_codeBook_ask 20000 20 [.leaf (.map 0), .str l n] (hM es c) _ (ask_bad h1 h2 ht es c)) rfl rfl hp (get_set_eq) rfl hb⟩
open Classical in
def askQ (l : List Nat) (n : Nat) (es : List (AV × AV × Nat)) (c : Nat) : List (AV × AV × Nat) × Nat := if hyp : may l n = true ∧ plainE es = true then Classical.choose (ask_ex l n hyp.1 es c hyp.2) else ([], 0)
theorem askQ_ok {l : List Nat} {n : Nat} (hy : may l n = true) {es : List (AV × AV × Nat)} (c : Nat) (hp : plainE es = true) : plainE (askQ l n es c).1 = true ∧ ∀ (h : H) (b : Nat), h.get b = .map es c →
    Tri Go.Proofs.Try.prog id_impl_codeBook_ask [.leaf (.map b), .str l n] h (toldN (codeT l), h.set b (.map (askQ l n es c).1 (askQ l n es c).2)) := by
  unfold askQ
  rw [dif_pos ⟨hy, hp⟩]
  exact Classical.choose_spec (ask_ex l n hy es c hp)
end
end Go.AI.V
namespace Go.AI.T
open Go Go.RowKit Go.AI
set_option linter.unusedVariables false
set_option linter.unusedSimpArgs false
set_option maxRecDepth 100000
noncomputable section
open Go.AI.V (codeT may askQ)
def c_spec_CodeOf (F g : Nat) (a0 : AV) (h : H) : Option R := withStr a0 fun l n => bc (may l n) (some (toldN (codeT l), h)) none
theorem s_spec_CodeOf (F g : Nat) : ∀ args h r, u1 (c_spec_CodeOf F g) args h = some r → Tri Go.Proofs.Try.prog id_spec_CodeOf args h r := by
  intro args h r e
  obtain ⟨a0, rfl, e1⟩ := u1_some e
  obtain ⟨l, n, rfl, e2⟩ := withStr_some e1
  obtain ⟨hy, e3⟩ := bif_some e2
  cases e3
  exact Go.AI.V.codeOf_tri l n hy h
def onMap (a : AV) (f : Nat → Option R) : Option R := a.onLeaf none fun l => @Leaf.rec (fun _ => Option R) none none none none none none none f (fun _ _ _ _ => none) (fun _ => none) l
theorem onMap_some {a : AV} {f : Nat → Option R} {r : R} (e : onMap a f = some r) : ∃ b, a = .leaf (.map b) ∧ f b = some r := by
  cases a using AV.casesE <;> first | (cases e; done) | exact ⟨_, rfl, e⟩
def c_impl_codeBook_ask (F g : Nat) (a0 a1 : AV) (h : H) : Option R := onMap a0 fun b => withStr a1 fun l n => withMap h b fun es c => bc (may l n) (bc (plainE es) (some (toldN (codeT l), h.set b (.map (askQ l n es c).1 (askQ l n es c).2))) none) none
theorem s_impl_codeBook_ask (F g : Nat) : ∀ args h r, u2 (c_impl_codeBook_ask F g) args h = some r → Tri Go.Proofs.Try.prog id_impl_codeBook_ask args h r := by
  intro args h r e
  obtain ⟨a0, a1, rfl, e1⟩ := u2_some e
  obtain ⟨b, rfl, e2⟩ := onMap_some e1
  obtain ⟨l, n, rfl, e3⟩ := withStr_some e2
  obtain ⟨es, c, hb, e4⟩ := withMap_some e3
  obtain ⟨hy, e5⟩ := bif_some e4
  obtain ⟨hp, e6⟩ := bif_some e5
  cases e6
  exact (Go.AI.V.askQ_ok hy c hp).2 h b hb
theorem codeOf_eq {F g : Nat} {l : List Nat} {n : Nat} (hy : may l n = true) (h : H) : c_spec_CodeOf F g (.str l n) h = some (toldN (codeT l), h) := by
  show bc (may l n) (some (toldN (codeT l), h)) none = _
  rw [hy]; rfl
theorem ask_eq {F g : Nat} {l : List Nat} {n b : Nat} {es : List (AV × AV × Nat)} {c : Nat} (hy : may l n = true) {h : H} (hb : h.get b = .map es c) (hp : plainE es = true) :
    c_impl_codeBook_ask F g (.leaf (.map b)) (.str l n) h = some (toldN (codeT l), h.set b (.map (askQ l n es c).1 (askQ l n es c).2)) := by
  show withMap h b (fun es c => bc (may l n) (bc (plainE es) (some (toldN (codeT l), h.set b (.map (askQ l n es c).1 (askQ l n es c).2))) none) none) = _
  unfold withMap
  rw [hb]
  show bc (may l n) (bc (plainE es) _ none) none = _
  rw [hy, hp]; rfl
end
end Go.AI.T
