/- Calls over the empty memory, as functions over every memory. -/
import Derived.Test.YtfafaadfnhhfhaaRow
namespace Go.AI
open Go Go.RowKit
noncomputable section
set_option linter.unusedVariables false
set_option linter.unusedSimpArgs false
variable {P : Program}
def fgC (c : AV → H → Option R) (a0 : AV) (h : H) : Option R := bc a0.plain (onSome (c a0 H0) fun r => bc r.1.plain (some (r.1, h)) none) none
theorem fgC_sound {f : FuncId} {c : AV → H → Option R} (hs : ∀ args h r, u1 c args h = some r → Tri P f args h r) : ∀ args h r, u1 (fgC c) args h = some r → Tri P f args h r := by
  intro args h r e
  obtain ⟨a0, rfl, e1⟩ := u1_some e
  obtain ⟨h0, e1⟩ := bif_some e1
  obtain ⟨r1, h1, e2⟩ := onSome_some e1
  obtain ⟨h2, e3⟩ := bif_some e2
  cases e3
  exact Tri.forget (hs [a0] H0 r1 h1) (fun a hm => by cases hm with | head => exact h0 | tail _ hm => cases hm) h2 h
def allPl (l : List AV) : Bool := @List.rec AV (fun _ => Bool) true (fun a _ r => bc a.plain r false) l
theorem allPl_spec : ∀ {l : List AV}, allPl l = true → ∀ a ∈ l, a.plain = true
  | [], _, a, h => by cases h
  | x :: l, h, a, ha => by
    have h : bc x.plain (allPl l) false = true := h
    cases hx : x.plain with
    | false => rw [hx] at h; cases h
    | true =>
      rw [hx, bc_true] at h
      rcases List.mem_cons.1 ha with rfl | ha
      · exact hx
      · exact allPl_spec h a ha
theorem sl_val {ι ι' : Inj} {b c o n m : Nat} {v : Value} (e : ι' b = ι c) (hv : VR ι' (.leaf (.sl b o n m)) v) : VR ι (.leaf (.sl c o n m)) v := by
  obtain ⟨B, base, sz, h1, h2⟩ := hv
  exact ⟨B, base, sz, by rw [← e, h1], h2⟩
theorem Tri.forgetRowG {f : FuncId} {args : List AV} {h' : H} {b fl : Nat} {l : List AV} {x : AV} (T : Tri P f args H0 (x, h')) (ha : ∀ a ∈ args, a.plain = true)
    (hg : h'.get b = .cells fl l) (hfl : fl < 2) (hp : ∀ a ∈ l, a.plain = true) (h : H) {x' : AV} (hx' : ∀ (ι ι' : Inj) v, ι' b = ι h.n → VR ι' x v → VR ι x' v) : Tri P f args h (x', h.push (.cells fl l)) :=
  ⟨T.can, fun ι w vs hR hV => (T.run (fun _ => Option.none) w vs (Rel.empty w) (VL.plain ha hV)).mono fun e w' ⟨x, ι', he, hx, hE, hR'⟩ => by
    obtain ⟨B, base, sz, eb, _⟩ := hR'.blk b (by rw [show h'.get b = _ from hg]; intro h; cases h)
    have hB : w.heap.size ≤ B := by
      rcases hE.dom b B base sz eb with ⟨c, q, z, ec⟩ | hB
      · cases ec
      · exact hB
    obtain ⟨hE2, hR2⟩ := row_rel hR hE.below hR' eb hB hg hp hfl
    exact ⟨x, _, he, hx' _ _ _ (by rw [eb]; simp [Inj.add]) hx, hE2, hR2⟩⟩
theorem tup_val {ι ι' : Inj} {y y' ok : AV} (hy : ∀ v, VR ι' y v → VR ι y' v) (hok : ok.plain = true) {v : Value} (hv : VR ι' (.one .tup (.cons y (.cons ok (.leaf .nil)))) v) : VR ι (.one .tup (.cons y' (.cons ok (.leaf .nil)))) v := by
  obtain ⟨cs, h1, x, xs, h2, h3, y, ys, h4, h5, h6⟩ := hv
  exact ⟨cs, h1, x, xs, h2, hy _ h3, y, ys, h4, plain_mono hok h5, h6⟩
def isNilV (e : AV) : Bool := e.onLeaf false fun e => @Leaf.rec (fun _ => Bool) false false false false false false true (fun _ => false) (fun _ _ _ _ => false) (fun _ => false) e
theorem isNilV_eq {e : AV} (h : isNilV e = true) : e = .leaf .nil := by cases e using AV.casesE <;> first | rfl | cases h
theorem pl2 {fl : Nat} {l : List AV} (h : bc (Nat.ble fl 1) (allPl l) false = true) : fl < 2 ∧ allPl l = true := by
  cases h1 : Nat.ble fl 1 with
  | true => rw [h1] at h; exact ⟨Nat.lt_succ_of_le (Nat.le_of_ble_eq_true h1), h⟩
  | false => rw [h1] at h; cases h
/-- A row, and whether there is one. -/
def fgRowOk (r : R) (h : H) : Option R := r.1.onTup none fun x => x.onCons none fun y z => z.onCons none fun ok e => bc (isNilV e) (bc ok.plain
  (y.onSl none (fun l => bc (AV.leaf l).plain (some (.one .tup (.cons (.leaf l) (.cons ok (.leaf .nil))), h)) none)
    (fun b o n m => withCells r.2 b fun fl l => bc (bc (Nat.ble fl 1) (allPl l) false) (some (.one .tup (.cons (.leaf (.sl h.n o n m)) (.cons ok (.leaf .nil))), h.push (.cells fl l))) none)
    (fun b o n es => withCells r.2 b fun fl l => bc (bc (Nat.ble fl 1) (allPl l) false) (some (.one .tup (.cons (.osl h.n o n es) (.cons ok (.leaf .nil))), h.push (.cells fl l))) none)) none) none
def fgRowOkC (c : AV → H → Option R) (a0 : AV) (h : H) : Option R := bc a0.plain (onSome (c a0 H0) fun r => fgRowOk r h) none
theorem onTup_some {α : Type} {x : AV} {f : AV → Option α} {r : α} (e : x.onTup none f = some r) : ∃ a, x = .one .tup a ∧ f a = some r := by
  cases x using AV.casesE <;> first | (cases e; done) | exact ⟨_, rfl, e⟩
theorem onCons_some {α : Type} {x : AV} {f : AV → AV → Option α} {r : α} (e : x.onCons none f = some r) : ∃ a t, x = .cons a t ∧ f a t = some r := by
  cases x using AV.casesE <;> first | (cases e; done) | exact ⟨_, _, rfl, e⟩
theorem onSl_some {α : Type} {x : AV} {l : Leaf → Option α} {g f : Nat → Nat → Nat → Nat → Option α} {r : α} (e : x.onSl none l g f = some r) :
    (∃ b o n m, x = .leaf (.sl b o n m) ∧ g b o n m = some r) ∨ (∃ b o n es, x = .osl b o n es ∧ f b o n es = some r) ∨ (∃ y, x = .leaf y ∧ l y = some r) := by
  cases x using AV.casesE <;> first | (cases e; done) | exact .inl ⟨_, _, _, _, rfl, e⟩ | exact .inr (.inl ⟨_, _, _, _, rfl, e⟩) | exact .inr (.inr ⟨_, rfl, e⟩)
theorem fgRowOk_sound {f : FuncId} {args : List AV} {r1 r : R} {h : H} (T : Tri P f args H0 r1) (ha : ∀ a ∈ args, a.plain = true) (e : fgRowOk r1 h = some r) : Tri P f args h r := by
  obtain ⟨v, h'⟩ := r1
  unfold fgRowOk at e
  obtain ⟨x, hx, e1⟩ := onTup_some e
  obtain ⟨y, z, rfl, e2⟩ := onCons_some e1
  obtain ⟨ok, t, rfl, e3⟩ := onCons_some e2
  obtain ⟨h1, e4⟩ := bif_some e3
  obtain ⟨h2, e5⟩ := bif_some e4
  clear e e1 e2 e3 e4
  obtain rfl := isNilV_eq h1
  have hx : v = _ := hx
  subst hx
  rcases onSl_some e5 with ⟨b, o, n, m, rfl, e6⟩ | ⟨b, o, n, es, rfl, e6⟩ | ⟨y, rfl, e6⟩
  · obtain ⟨fl, l, hb, e7⟩ := withCells_some e6
    obtain ⟨hl, e8⟩ := bif_some e7
    obtain ⟨hf, hl⟩ := pl2 hl
    cases e8
    exact Tri.forgetRowG T ha hb hf (allPl_spec hl) h fun ι ι' v hi hv => tup_val (fun v hv => sl_val hi hv) h2 hv
  · obtain ⟨fl, l, hb, e7⟩ := withCells_some e6
    obtain ⟨hl, e8⟩ := bif_some e7
    obtain ⟨hf, hl⟩ := pl2 hl
    cases e8
    exact Tri.forgetRowG T ha hb hf (allPl_spec hl) h fun ι ι' v hi hv => tup_val (fun v hv => row_val hi hv) h2 hv
  · obtain ⟨h3, e7⟩ := bif_some e6
    cases e7
    refine Tri.forget T ha ?_ h
    show bc (AV.leaf y).plain (bc ok.plain true false) false = true
    rw [h3, h2]; rfl
theorem fgRowOkC_sound {f : FuncId} {c : AV → H → Option R} (hs : ∀ args h r, u1 c args h = some r → Tri P f args h r) : ∀ args h r, u1 (fgRowOkC c) args h = some r → Tri P f args h r := by
  intro args h r e
  obtain ⟨a0, rfl, e1⟩ := u1_some e
  obtain ⟨h0, e1⟩ := bif_some e1
  obtain ⟨r1, h1, e2⟩ := onSome_some e1
  exact fgRowOk_sound (hs [a0] H0 r1 h1) (fun a hm => by cases hm with | head => exact h0 | tail _ hm => cases hm) e2
end
end Go.AI
