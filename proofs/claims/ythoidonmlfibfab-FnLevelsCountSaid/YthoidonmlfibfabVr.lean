/- A memory with one row. -/
import Derived.Test.YthoidonmlfibfabAi2
namespace Go.AI
open Go Go.RowKit
noncomputable section
set_option linter.unusedVariables false
variable {P : Program}

theorem CellsR.plain {ι ι' : Inj} {l : List AV} {c : Array Value} {o : Nat} (hp : ∀ a ∈ l, a.plain = true) (hc : CellsR ι l c o) : CellsR ι' l c o :=
  fun i a hi => let ⟨v, h1, h2⟩ := hc i a hi; ⟨v, h1, plain_mono (hp a (List.mem_of_getElem? hi)) h2⟩

theorem row_rel {ι ι' : Inj} {h h' : H} {w w' : World} (r : Rel ι h w) (hb : Below w.heap.size w w') (r' : Rel ι' h' w') {b B base sz fl : Nat} {l : List AV}
    (eb : ι' b = some (B, base, sz)) (hB : w.heap.size ≤ B) (hg : h'.get b = .cells fl l) (hp : ∀ a ∈ l, a.plain = true) :
    Ext ι h w (ι.add h.n (B, base, sz)) (h.push (.cells fl l)) w' ∧ Rel (ι.add h.n (B, base, sz)) (h.push (.cells fl l)) w' := by
  have hBlt := r'.lt _ _ _ _ eb
  refine ⟨⟨Inj.le_add r.noId, hb.os, hb.tape, hb.output, hb.size, fun C hC _ => hb.block C hC, ?_, Nat.le_succ _, Nat.le_refl _, ?_, ?_, ?_⟩, ⟨?_, ?_, ?_, ?_⟩⟩
  · intro C ⟨c, o', s', e, ho⟩
    unfold Inj.add at e
    rw [H.get_push] at ho
    split at e
    · cases e; exact .inr hB
    · rename_i hn; rw [if_neg hn] at ho; exact .inl ⟨c, o', s', e, ho⟩
  · intro c _ hc; rw [H.get_push, if_neg (by omega)]
  · intro c C o' s' _ _ _ e; exact hb.block _ (r.lt _ _ _ _ e)
  · intro c C o' s' e
    unfold Inj.add at e
    split at e
    · cases e; exact .inr hB
    · exact .inl ⟨c, _, _, e⟩
  · intro c y e
    unfold Inj.add at e; rw [H.n_push]
    split at e
    · omega
    · have := r.fresh _ _ e; omega
  · intro c C o' s' e
    unfold Inj.add at e
    split at e
    · cases e; exact hBlt
    · exact Nat.lt_of_lt_of_le (r.lt _ _ _ _ e) hb.size
  · intro c d C o1 s1 o2 s2 hc hd ec ed
    unfold Inj.add at ec ed
    rw [H.get_push] at hc hd
    split at ec
    · cases ec
      split at ed
      · omega
      · have := r.lt _ _ _ _ ed; omega
    · rename_i hcn
      rw [if_neg hcn] at hc
      split at ed
      · cases ed; have := r.lt _ _ _ _ ec; omega
      · rename_i hdn; rw [if_neg hdn] at hd; exact r.inj c d C o1 s1 o2 s2 hc hd ec ed
  · intro c hc
    rw [H.get_push] at hc ⊢
    by_cases hcn : c = h.n
    · subst hcn
      refine ⟨B, base, sz, by simp [Inj.add], ?_⟩
      rw [if_pos rfl]
      obtain ⟨B1, o1, s1, e1, hR⟩ := r'.blk b (by rw [hg]; intro h; cases h)
      rw [eb] at e1; cases e1
      rw [hg] at hR
      obtain ⟨x, t, lo, hi, h1, h2, h3, h4⟩ := hR
      exact ⟨x, t, lo, hi, h1, h2, h3.plain hp, h4⟩
    · rw [if_neg hcn] at hc ⊢
      obtain ⟨C, o', s', e, hR⟩ := r.blk c hc
      refine ⟨C, o', s', by simp [Inj.add, hcn, e], ?_⟩
      rw [hb.block _ (r.lt _ _ _ _ e)]
      exact hR.mono (Inj.le_add r.noId)

theorem row_val {ι ι' : Inj} {b c o n es : Nat} {v : Value} (e : ι' b = ι c) (hv : VR ι' (.osl b o n es) v) : VR ι (.osl c o n es) v := by
  obtain ⟨A, k, h1, h2, h3⟩ := hv
  exact ⟨A, k, h1, h2, h3.imp id fun ⟨B, base, sz, e1, h'⟩ => ⟨B, base, sz, by rw [← e, e1], h'⟩⟩

theorem row_valOk {ι ι' : Inj} {b c o n es : Nat} {ok : AV} {v : Value} (e : ι' b = ι c) (hok : ok.plain = true) (hv : VR ι' (.one .tup (.cons (.osl b o n es) (.cons ok (.leaf .nil)))) v) :
    VR ι (.one .tup (.cons (.osl c o n es) (.cons ok (.leaf .nil)))) v := by
  obtain ⟨cs, h1, x, xs, h2, h3, y, ys, h4, h5, h6⟩ := hv
  exact ⟨cs, h1, x, xs, h2, row_val e h3, y, ys, h4, plain_mono hok h5, h6⟩

/-- A call that wrote nothing old and tells a new row of plain values. -/
theorem Tri.quietRow {f : FuncId} {args : List AV} {h h' : H} {b o n es fl : Nat} {l : List AV} (T : Tri P f args h.mark (.osl b o n es, h')) (hlo : h.n ≤ h'.lo) (hb : h.n ≤ b)
    (hg : h'.get b = .cells fl l) (hfl : fl < 2) (hp : ∀ a ∈ l, a.plain = true) : Tri P f args h (.osl h.n o n es, h.push (.cells fl l)) :=
  ⟨T.can, fun ι w vs hR hV => (T.run ι w vs hR.mark hV).mono fun e w' ⟨x, ι', he, hx, hE, hR'⟩ => by
    have hbl := Ext.quiet hR hE hlo
    obtain ⟨B, base, sz, eb, _⟩ := hR'.blk b (by rw [show h'.get b = _ from hg]; intro h; cases h)
    have hB : w.heap.size ≤ B := by
      rcases hE.own B ⟨b, base, sz, eb, by rw [show h'.get b = _ from hg]; exact hfl⟩ with ⟨c, q, z, ec, hc⟩ | hB
      · have hcn := hR.fresh _ _ ec
        have hk : h'.get c = h.get c := hE.keep c (Nat.lt_of_lt_of_le hcn hlo) hcn
        have hnd : h.get c ≠ .dead := by intro hd; rw [show h.mark.get c = h.get c from rfl, hd] at hc; exact hc
        have := hR'.inj b c B base sz q z (by rw [show h'.get b = _ from hg]; exact hfl) (by rw [show h'.get c = _ from hk]; exact hnd) eb (hE.le _ _ ec)
        omega
      · exact hB
    obtain ⟨hE2, hR2⟩ := row_rel hR hbl hR' eb hB hg hp
    exact ⟨x, _, he, row_val (by rw [eb]; simp [Inj.add]) hx, hE2, hR2⟩⟩

/-- A call over the empty memory with plain arguments that tells a row of plain values tells it over every memory. -/
theorem Tri.forgetRow {f : FuncId} {args : List AV} {h' : H} {b o n es fl : Nat} {l : List AV} (T : Tri P f args H0 (.osl b o n es, h')) (ha : ∀ a ∈ args, a.plain = true)
    (hg : h'.get b = .cells fl l) (hp : ∀ a ∈ l, a.plain = true) (h : H) : Tri P f args h (.osl h.n o n es, h.push (.cells fl l)) :=
  ⟨T.can, fun ι w vs hR hV => (T.run (fun _ => Option.none) w vs (Rel.empty w) (VL.plain ha hV)).mono fun e w' ⟨x, ι', he, hx, hE, hR'⟩ => by
    obtain ⟨B, base, sz, eb, _⟩ := hR'.blk b (by rw [show h'.get b = _ from hg]; intro h; cases h)
    have hB : w.heap.size ≤ B := by
      rcases hE.dom b B base sz eb with ⟨c, q, z, ec⟩ | hB
      · cases ec
      · exact hB
    obtain ⟨hE2, hR2⟩ := row_rel hR hE.below hR' eb hB hg hp
    exact ⟨x, _, he, row_val (by rw [eb]; simp [Inj.add]) hx, hE2, hR2⟩⟩

/-- A call that tells a row and whether there is one. -/
theorem Tri.forgetRowOk {f : FuncId} {args : List AV} {h' : H} {b o n es fl : Nat} {l : List AV} {ok : AV} (T : Tri P f args H0 (.one .tup (.cons (.osl b o n es) (.cons ok (.leaf .nil))), h')) (ha : ∀ a ∈ args, a.plain = true) (hok : ok.plain = true)
    (hg : h'.get b = .cells fl l) (hp : ∀ a ∈ l, a.plain = true) (h : H) : Tri P f args h (.one .tup (.cons (.osl h.n o n es) (.cons ok (.leaf .nil))), h.push (.cells fl l)) :=
  ⟨T.can, fun ι w vs hR hV => (T.run (fun _ => Option.none) w vs (Rel.empty w) (VL.plain ha hV)).mono fun e w' ⟨x, ι', he, hx, hE, hR'⟩ => by
    obtain ⟨B, base, sz, eb, _⟩ := hR'.blk b (by rw [show h'.get b = _ from hg]; intro h; cases h)
    have hB : w.heap.size ≤ B := by
      rcases hE.dom b B base sz eb with ⟨c, q, z, ec⟩ | hB
      · cases ec
      · exact hB
    obtain ⟨hE2, hR2⟩ := row_rel hR hE.below hR' eb hB hg hp
    exact ⟨x, _, he, row_valOk (by rw [eb]; simp [Inj.add]) hok hx, hE2, hR2⟩⟩
/-- A call that tells a row of plain values: all memory but the row is forgotten. -/
theorem Tri.lastRow {f : FuncId} {args : List AV} {h h' : H} {b o n es fl : Nat} {l : List AV} (T : Tri P f args h (.osl b o n es, h'))
    (hg : h'.get b = .cells fl l) (hp : ∀ a ∈ l, a.plain = true) : Tri P f args h (.osl h.n o n es, (⟨h.n, .e, 0⟩ : H).push (.cells fl l)) :=
  ⟨T.can, fun ι w vs hR hV => (T.run ι w vs hR hV).mono fun e w' ⟨x, ι', he, hx, hE, hR'⟩ => by
    obtain ⟨B, base, sz, eb, hblk⟩ := hR'.blk b (by rw [show h'.get b = _ from hg]; intro h; cases h)
    have hget : ∀ c, ((⟨h.n, .e, 0⟩ : H).push (.cells fl l)).get c = if c = h.n then .cells fl l else .dead := fun c => by
      rw [H.get_push]; rfl
    refine ⟨x, ι.add h.n (B, base, sz), he, row_val (by rw [eb]; simp [Inj.add]) hx,
      ⟨Inj.le_add hR.noId, hE.os, hE.tape, hE.output, hE.size, hE.block, ?_, Nat.le_succ _, Nat.zero_le _, fun c hc => absurd hc (Nat.not_lt_zero _), fun c _ _ _ hc => absurd hc (Nat.not_lt_zero _), ?_⟩, ⟨?_, ?_, ?_, ?_⟩⟩
    · intro C ⟨c, o', s', e, ho⟩
      replace ho : (((⟨h.n, .e, 0⟩ : H).push (.cells fl l)).get c).own := ho
      rw [hget] at ho
      split at ho
      · rename_i hc
        subst hc
        simp only [Inj.add, if_pos] at e
        cases e
        exact hE.own B ⟨b, base, sz, eb, by rw [show h'.get b = _ from hg]; exact ho⟩
      · cases ho
    · intro c C o' s' e
      unfold Inj.add at e
      split at e
      · cases e; exact hE.dom b B base sz eb
      · exact .inl ⟨c, _, _, e⟩
    · intro c y e
      unfold Inj.add at e
      show c < h.n + 1
      split at e
      · omega
      · have := hR.fresh _ _ e; omega
    · intro c C o' s' e
      unfold Inj.add at e
      split at e
      · cases e; exact hR'.lt _ _ _ _ eb
      · exact Nat.lt_of_lt_of_le (hR.lt _ _ _ _ e) hE.size
    · intro c d C o1 s1 o2 s2 hc hd ec ed
      replace hc : (((⟨h.n, .e, 0⟩ : H).push (.cells fl l)).get c).own := hc
      replace hd : ((⟨h.n, .e, 0⟩ : H).push (.cells fl l)).get d ≠ .dead := hd
      rw [hget] at hc hd
      split at hc
      · split at hd
        · omega
        · exact absurd rfl hd
      · cases hc
    · intro c hc
      replace hc : ((⟨h.n, .e, 0⟩ : H).push (.cells fl l)).get c ≠ .dead := hc
      show ∃ B o s, _ ∧ BlkR _ (((⟨h.n, .e, 0⟩ : H).push (.cells fl l)).get c) o s _
      rw [hget] at hc ⊢
      split at hc
      · rename_i hcn
        rw [if_pos hcn]
        subst hcn
        refine ⟨B, base, sz, by simp [Inj.add], ?_⟩
        rw [show h'.get b = _ from hg] at hblk
        obtain ⟨x, t, lo, hi, h1, h2, h3, h4⟩ := hblk
        exact ⟨x, t, lo, hi, h1, h2, h3.plain hp, h4⟩
      · exact absurd rfl hc⟩
end
end Go.AI
namespace Go.AI
open Go Go.RowKit
noncomputable section
set_option linter.unusedVariables false
set_option linter.unusedSimpArgs false
variable {P : Program}
def fgC (c : AV → H → Option R) (a0 : AV) (h : H) : Option R := bc a0.plain (onSome (c a0 H0) fun r => bc r.1.plain (some (r.1, h)) none) none
theorem fgC_sound {f : FuncId} {c : AV → H → Option R} (hs : ∀ args h r, u1 c args h = some r → Tri P f args h r) : ∀ args h r, u1 (fgC c) args h = some r → Tri P f args h r := by
  intro args h r e
  obtain ⟨a0, rfl, e1⟩ := u1_some e
  obtain ⟨h0, e1⟩ := bif_some e1
  obtain ⟨r1, h1, e2⟩ := onSome_some e1
  obtain ⟨h2, e3⟩ := bif_some e2
  cases e3
  exact Tri.forget (hs [a0] H0 r1 h1) (fun a hm => by cases hm with | head => exact h0 | tail _ hm => cases hm) h2 h
def allPl (l : List AV) : Bool := @List.rec AV (fun _ => Bool) true (fun a _ r => bc a.plain r false) l
theorem allPl_spec : ∀ {l : List AV}, allPl l = true → ∀ a ∈ l, a.plain = true
  | [], _, a, h => by cases h
  | x :: l, h, a, ha => by
    have h : bc x.plain (allPl l) false = true := h
    cases hx : x.plain with
    | false => rw [hx] at h; cases h
    | true =>
      rw [hx, bc_true] at h
      rcases List.mem_cons.1 ha with rfl | ha
      · exact hx
      · exact allPl_spec h a ha
theorem sl_val {ι ι' : Inj} {b c o n m : Nat} {v : Value} (e : ι' b = ι c) (hv : VR ι' (.leaf (.sl b o n m)) v) : VR ι (.leaf (.sl c o n m)) v := by
  obtain ⟨B, base, sz, h1, h2⟩ := hv
  exact ⟨B, base, sz, by rw [← e, h1], h2⟩
theorem Tri.forgetRowG {f : FuncId} {args : List AV} {h' : H} {b fl : Nat} {l : List AV} {x : AV} (T : Tri P f args H0 (x, h')) (ha : ∀ a ∈ args, a.plain = true)
    (hg : h'.get b = .cells fl l) (hp : ∀ a ∈ l, a.plain = true) (h : H) {x' : AV} (hx' : ∀ (ι ι' : Inj) v, ι' b = ι h.n → VR ι' x v → VR ι x' v) : Tri P f args h (x', h.push (.cells fl l)) :=
  ⟨T.can, fun ι w vs hR hV => (T.run (fun _ => Option.none) w vs (Rel.empty w) (VL.plain ha hV)).mono fun e w' ⟨x, ι', he, hx, hE, hR'⟩ => by
    obtain ⟨B, base, sz, eb, _⟩ := hR'.blk b (by rw [show h'.get b = _ from hg]; intro h; cases h)
    have hB : w.heap.size ≤ B := by
      rcases hE.dom b B base sz eb with ⟨c, q, z, ec⟩ | hB
      · cases ec
      · exact hB
    obtain ⟨hE2, hR2⟩ := row_rel hR hE.below hR' eb hB hg hp
    exact ⟨x, _, he, hx' _ _ _ (by rw [eb]; simp [Inj.add]) hx, hE2, hR2⟩⟩
theorem tup_val {ι ι' : Inj} {y y' ok : AV} (hy : ∀ v, VR ι' y v → VR ι y' v) (hok : ok.plain = true) {v : Value} (hv : VR ι' (.one .tup (.cons y (.cons ok (.leaf .nil)))) v) : VR ι (.one .tup (.cons y' (.cons ok (.leaf .nil)))) v := by
  obtain ⟨cs, h1, x, xs, h2, h3, y, ys, h4, h5, h6⟩ := hv
  exact ⟨cs, h1, x, xs, h2, hy _ h3, y, ys, h4, plain_mono hok h5, h6⟩
def isNilV (e : AV) : Bool := e.onLeaf false fun e => @Leaf.rec (fun _ => Bool) false false false false false false true (fun _ => false) (fun _ _ _ _ => false) e
theorem isNilV_eq {e : AV} (h : isNilV e = true) : e = .leaf .nil := by cases e using AV.casesE <;> first | rfl | cases h
/-- A row, and whether there is one. -/
def fgRowOk (r : R) (h : H) : Option R := r.1.onTup none fun x => x.onCons none fun y z => z.onCons none fun ok e => bc (isNilV e) (bc ok.plain
  (y.onSl none (fun l => bc (AV.leaf l).plain (some (.one .tup (.cons (.leaf l) (.cons ok (.leaf .nil))), h)) none)
    (fun b o n m => withCells r.2 b fun fl l => bc (allPl l) (some (.one .tup (.cons (.leaf (.sl h.n o n m)) (.cons ok (.leaf .nil))), h.push (.cells fl l))) none)
    (fun b o n es => withCells r.2 b fun fl l => bc (allPl l) (some (.one .tup (.cons (.osl h.n o n es) (.cons ok (.leaf .nil))), h.push (.cells fl l))) none)) none) none
def fgRowOkC (c : AV → H → Option R) (a0 : AV) (h : H) : Option R := bc a0.plain (onSome (c a0 H0) fun r => fgRowOk r h) none
theorem onTup_some {α : Type} {x : AV} {f : AV → Option α} {r : α} (e : x.onTup none f = some r) : ∃ a, x = .one .tup a ∧ f a = some r := by
  cases x using AV.casesE <;> first | (cases e; done) | exact ⟨_, rfl, e⟩
theorem onCons_some {α : Type} {x : AV} {f : AV → AV → Option α} {r : α} (e : x.onCons none f = some r) : ∃ a t, x = .cons a t ∧ f a t = some r := by
  cases x using AV.casesE <;> first | (cases e; done) | exact ⟨_, _, rfl, e⟩
theorem onSl_some {α : Type} {x : AV} {l : Leaf → Option α} {g f : Nat → Nat → Nat → Nat → Option α} {r : α} (e : x.onSl none l g f = some r) :
    (∃ b o n m, x = .leaf (.sl b o n m) ∧ g b o n m = some r) ∨ (∃ b o n es, x = .osl b o n es ∧ f b o n es = some r) ∨ (∃ y, x = .leaf y ∧ l y = some r) := by
  cases x using AV.casesE <;> first | (cases e; done) | exact .inl ⟨_, _, _, _, rfl, e⟩ | exact .inr (.inl ⟨_, _, _, _, rfl, e⟩) | exact .inr (.inr ⟨_, rfl, e⟩)
theorem fgRowOk_sound {f : FuncId} {args : List AV} {r1 r : R} {h : H} (T : Tri P f args H0 r1) (ha : ∀ a ∈ args, a.plain = true) (e : fgRowOk r1 h = some r) : Tri P f args h r := by
  obtain ⟨v, h'⟩ := r1
  unfold fgRowOk at e
  obtain ⟨x, hx, e1⟩ := onTup_some e
  obtain ⟨y, z, rfl, e2⟩ := onCons_some e1
  obtain ⟨ok, t, rfl, e3⟩ := onCons_some e2
  obtain ⟨h1, e4⟩ := bif_some e3
  obtain ⟨h2, e5⟩ := bif_some e4
  clear e e1 e2 e3 e4
  obtain rfl := isNilV_eq h1
  have hx : v = _ := hx
  subst hx
  rcases onSl_some e5 with ⟨b, o, n, m, rfl, e6⟩ | ⟨b, o, n, es, rfl, e6⟩ | ⟨y, rfl, e6⟩
  · obtain ⟨fl, l, hb, e7⟩ := withCells_some e6
    obtain ⟨hl, e8⟩ := bif_some e7
    cases e8
    exact Tri.forgetRowG T ha hb (allPl_spec hl) h fun ι ι' v hi hv => tup_val (fun v hv => sl_val hi hv) h2 hv
  · obtain ⟨fl, l, hb, e7⟩ := withCells_some e6
    obtain ⟨hl, e8⟩ := bif_some e7
    cases e8
    exact Tri.forgetRowG T ha hb (allPl_spec hl) h fun ι ι' v hi hv => tup_val (fun v hv => row_val hi hv) h2 hv
  · obtain ⟨h3, e7⟩ := bif_some e6
    cases e7
    refine Tri.forget T ha ?_ h
    show bc (AV.leaf y).plain (bc ok.plain true false) false = true
    rw [h3, h2]; rfl
theorem fgRowOkC_sound {f : FuncId} {c : AV → H → Option R} (hs : ∀ args h r, u1 c args h = some r → Tri P f args h r) : ∀ args h r, u1 (fgRowOkC c) args h = some r → Tri P f args h r := by
  intro args h r e
  obtain ⟨a0, rfl, e1⟩ := u1_some e
  obtain ⟨h0, e1⟩ := bif_some e1
  obtain ⟨r1, h1, e2⟩ := onSome_some e1
  exact fgRowOk_sound (hs [a0] H0 r1 h1) (fun a hm => by cases hm with | head => exact h0 | tail _ hm => cases hm) e2
end
end Go.AI
namespace Go.AI
open Go Go.RowKit
noncomputable section
set_option linter.unusedVariables false
set_option linter.unusedSimpArgs false
variable {P : Program}
/-- The memory with one row. -/
def hR (fl : Nat) (l : List AV) : H := ⟨1, .n .e (.cells fl l) .e, 0⟩
theorem hR_get (fl : Nat) (l : List AV) : (hR fl l).get 0 = .cells fl l := rfl
theorem hR_dead (fl : Nat) (l : List AV) (b : Nat) (hb : b ≠ 0) : (hR fl l).get b = .dead := by
  obtain ⟨d, rfl⟩ : ∃ d, b = d + 1 := ⟨b - 1, by omega⟩
  show (Tr.n .e (.cells fl l) .e).get (d + 1) = _
  rw [Tr.get_succ]; split <;> rfl
theorem viewRow_run {f : FuncId} {n fl : Nat} {l : List AV} {v : AV} {h' : H} (T : Tri P f [.osl 0 0 n 1] (hR fl l).mark (v, h')) (hp : ∀ a ∈ l, a.plain = true) (hlo : 1 ≤ h'.lo) {h : H} {c : Nat} (hc : h.get c = .cells fl l)
    {ι : Inj} {w : World} {vs : List Value} (hR0 : Rel ι h w) (hV : VL ι [.osl c 0 n 1] vs) : ∃ ι0 : Inj, Rel ι0 (hR fl l) w ∧ VL ι0 [.osl 0 0 n 1] vs := by
  obtain ⟨B, o, s, eb, hblk⟩ := hR0.blk c (by rw [hc]; intro h; cases h)
  rw [hc] at hblk
  let ι0 : Inj := fun a => if a = 0 then some (B, o, s) else none
  have i0 : ι0 0 = some (B, o, s) := rfl
  have in0 : ∀ a, a ≠ 0 → ι0 a = none := fun a ha => if_neg ha
  refine ⟨ι0, {
    fresh := fun a y ea => by
      by_cases ha : a = 0
      · subst ha; exact Nat.zero_lt_one
      · rw [in0 a ha] at ea; cases ea
    lt := fun a C q z ea => by
      by_cases ha : a = 0
      · subst ha; rw [i0] at ea; cases ea; exact hR0.lt _ _ _ _ eb
      · rw [in0 a ha] at ea; cases ea
    inj := fun a d C o1 s1 o2 s2 _ _ ea ed => by
      have h1 : a = 0 := Decidable.byContradiction fun ha => by rw [in0 a ha] at ea; cases ea
      have h2 : d = 0 := Decidable.byContradiction fun ha => by rw [in0 d ha] at ed; cases ed
      omega
    blk := fun a ha => by
      by_cases h0 : a = 0
      · subst h0
        obtain ⟨x, t, lo, hi, h1, h2, h3, h4⟩ := hblk
        exact ⟨B, o, s, rfl, x, t, lo, hi, h1, h2, h3.plain hp, h4⟩
      · exact absurd (hR_dead fl l a h0) ha }, ?_⟩
  cases hV with | cons h1 h2 =>
  cases h2
  exact .cons (row_val (by rw [i0, eb]) h1) .nil
theorem Tri.viewRow {f : FuncId} {n fl fl' b o' n' es' : Nat} {l l' : List AV} {ok : AV} {h' : H} (T : Tri P f [.osl 0 0 n 1] (hR fl l).mark (.one .tup (.cons (.osl b o' n' es') (.cons ok (.leaf .nil))), h')) (hok : ok.plain = true)
    (hp : ∀ a ∈ l, a.plain = true) (hlo : 1 ≤ h'.lo) (hb : 1 ≤ b) (hg : h'.get b = .cells fl' l') (hfl : fl' < 2) (hp' : ∀ a ∈ l', a.plain = true) {h : H} {c : Nat} (hc : h.get c = .cells fl l) :
    Tri P f [.osl c 0 n 1] h (.one .tup (.cons (.osl h.n o' n' es') (.cons ok (.leaf .nil))), h.push (.cells fl' l')) :=
  ⟨T.can, fun ι w vs hR0 hV => by
    obtain ⟨ι0, r0, hV0⟩ := viewRow_run T hp hlo hc hR0 hV
    refine (T.run ι0 w vs r0.mark hV0).mono fun e w' ⟨x, ι', he, hx, hE, hR'⟩ => ?_
    have hbl := Ext.quiet r0 hE hlo
    obtain ⟨B, base, sz, eb, _⟩ := hR'.blk b (by rw [show h'.get b = _ from hg]; intro h; cases h)
    have hB : w.heap.size ≤ B := by
      rcases hE.own B ⟨b, base, sz, eb, by rw [show h'.get b = _ from hg]; exact hfl⟩ with ⟨d, q, z, ec, hd⟩ | hB
      · have hdn : d < 1 := r0.fresh _ _ ec
        have hk : h'.get d = (hR fl l).get d := hE.keep d (Nat.lt_of_lt_of_le hdn hlo) hdn
        have hnd : (hR fl l).get d ≠ .dead := by intro he; rw [show (hR fl l).mark.get d = (hR fl l).get d from rfl, he] at hd; exact hd
        have := hR'.inj b d B base sz q z (by rw [show h'.get b = _ from hg]; exact hfl) (by rw [show h'.get d = _ from hk]; exact hnd) eb (hE.le _ _ ec)
        omega
      · exact hB
    obtain ⟨hE2, hR2⟩ := row_rel hR0 hbl hR' eb hB hg hp'
    exact ⟨x, _, he, row_valOk (by rw [eb]; simp [Inj.add]) hok hx, hE2, hR2⟩⟩
theorem Tri.viewRowP {f : FuncId} {n fl : Nat} {l : List AV} {v : AV} {h' : H} (T : Tri P f [.osl 0 0 n 1] (hR fl l).mark (v, h')) (hv : v.plain = true)
    (hp : ∀ a ∈ l, a.plain = true) (hlo : 1 ≤ h'.lo) {h : H} {c : Nat} (hc : h.get c = .cells fl l) : Tri P f [.osl c 0 n 1] h (v, h) :=
  ⟨T.can, fun ι w vs hR0 hV => by
    obtain ⟨ι0, r0, hV0⟩ := viewRow_run T hp hlo hc hR0 hV
    refine (T.run ι0 w vs r0.mark hV0).mono fun e w' ⟨x, ι', he, hx, hE, hR'⟩ => ?_
    have hbl := Ext.quiet r0 hE hlo
    exact ⟨x, ι, he, plain_mono hv hx, Ext.of_below hR0 hbl, hR0.grow hbl⟩⟩
/-- What the step tells, over another memory. -/
def fgNext (v : AV) (h' h : H) : Option R := v.onTup none fun x => x.onCons none fun y z => z.onCons none fun ok e => bc (isNilV e) (bc ok.plain
  (y.onSl none (fun l => bc (AV.leaf l).plain (some (.one .tup (.cons (.leaf l) (.cons ok (.leaf .nil))), h)) none)
    (fun _ _ _ _ => none)
    (fun b o n es => bc (Nat.ble 1 b) (withCells h' b fun fl l => bc (Nat.ble fl 1) (bc (allPl l) (some (.one .tup (.cons (.osl h.n o n es) (.cons ok (.leaf .nil))), h.push (.cells fl l))) none) none) none)) none) none
def viewC (c : AV → H → Option R) (a0 : AV) (h : H) : Option R := a0.onSl none (fun _ => none) (fun _ _ _ _ => none) fun b o n es =>
  bc (Nat.beq o 0) (bc (Nat.beq es 1) (withCells h b fun fl l => bc (allPl l) (onSome (c (.osl 0 0 n 1) (hR fl l).mark) fun r => bc (Nat.ble 1 r.2.lo) (fgNext r.1 r.2 h) none) none) none) none
theorem viewC_sound {f : FuncId} {c : AV → H → Option R} (hs : ∀ args h r, u1 c args h = some r → Tri P f args h r) : ∀ args h r, u1 (viewC c) args h = some r → Tri P f args h r := by
  intro args h r e
  obtain ⟨a0, rfl, e1⟩ := u1_some e
  unfold viewC at e1
  rcases onSl_some e1 with ⟨_, _, _, _, _, e2⟩ | ⟨d, o, n, es, rfl, e2⟩ | ⟨_, _, e2⟩
  · cases e2
  · obtain ⟨ho, e3⟩ := bif_some e2
    obtain ⟨hes, e4⟩ := bif_some e3
    obtain ⟨fl, l, hc, e5⟩ := withCells_some e4
    obtain ⟨hl, e6⟩ := bif_some e5
    obtain ⟨⟨v, h'⟩, e7, e8⟩ := onSome_some e6
    obtain ⟨hlo1, e9⟩ := bif_some e8
    have ho := Nat.eq_of_beq_eq_true ho
    have hes := Nat.eq_of_beq_eq_true hes
    subst ho hes
    have hlo : 1 ≤ h'.lo := Nat.le_of_ble_eq_true hlo1
    have T : Tri P f [.osl 0 0 n 1] (hR fl l).mark (v, h') := hs [.osl 0 0 n 1] _ _ e7
    clear e e1 e2 e3 e4 e5 e6 e7 e8
    replace e9 : fgNext v h' h = some r := e9
    unfold fgNext at e9
    obtain ⟨x, rfl, f1⟩ := onTup_some e9
    obtain ⟨y, z, rfl, f2⟩ := onCons_some f1
    obtain ⟨ok, t, rfl, f3⟩ := onCons_some f2
    obtain ⟨g1, f4⟩ := bif_some f3
    obtain ⟨hok, f5⟩ := bif_some f4
    obtain rfl := isNilV_eq g1
    clear e9 f1 f2 f3 f4
    rcases onSl_some f5 with ⟨_, _, _, _, _, f6⟩ | ⟨b, q, m, es, rfl, f6⟩ | ⟨y, rfl, f6⟩
    · cases f6
    · obtain ⟨hb, f7⟩ := bif_some f6
      obtain ⟨fl', l', hg, f8⟩ := withCells_some f7
      obtain ⟨hfl, f9⟩ := bif_some f8
      obtain ⟨hl', f10⟩ := bif_some f9
      cases f10
      exact Tri.viewRow T hok (allPl_spec hl) hlo (Nat.le_of_ble_eq_true hb) hg (Nat.lt_succ_of_le (Nat.le_of_ble_eq_true hfl)) (allPl_spec hl') hc
    · obtain ⟨hy, f7⟩ := bif_some f6
      cases f7
      refine Tri.viewRowP T ?_ (allPl_spec hl) hlo hc
      show bc (AV.leaf y).plain (bc ok.plain true false) false = true
      rw [hy, hok]; rfl
  · cases e2
theorem vr_cells {α : Type} {h : H} {b fl : Nat} {l : List AV} (f : Nat → List AV → Option α) (e : h.get b = .cells fl l) : withCells h b f = f fl l := by unfold withCells; rw [e]
theorem vr_bc {α : Type} {c : Bool} (e : c = true) (x y : α) : bc c x y = x := by rw [e]; rfl
theorem vr_take {l : List AV} {k : Nat} (e : lenL l = k) : takeL (Nat.mul k 1) (dropL 0 l) = l := by
  rw [takeL_eq, dropL_eq, show Nat.mul k 1 = k from Nat.mul_one k, List.drop_zero]; exact List.take_of_length_le (by rw [← lenL_eq]; omega)
theorem app_osl {h : H} {a q k fa : Nat} {la : List AV} {x : AV} {kk : AV → H → Option R} (ha : h.get a = .cells fa la) (hq : h.get q = .cells 0 [x]) (hx : x.one1 = true) (hk : lenL la = k) (hf : fa ≤ 1) (hb : k ≤ 1000000) :
    aAppend 1 24 (.osl a 0 k 1) (.leaf (.sl q 0 1 1)) h kk = kk (.osl h.n 0 (k + 1) 1) ((h.set a .dead).push (.cells fa (appA la [x]))) := by
  show withCells h q (fun _ l => bc (Nat.beq (lenL (takeL (Nat.mul 1 1) (dropL 0 l))) (Nat.mul 1 1)) _ none) = _
  rw [vr_cells _ hq]
  show withCells h a _ = _
  rw [vr_cells _ ha, vr_take hk, hk]
  rw [vr_bc (by rw [show Nat.mul k 1 = k from Nat.mul_one k]; exact Nat.beq_refl k), vr_bc (Nat.ble_eq_true_of_le (show (k + 1) * 24 ≤ 140737488355328 by omega) : Nat.ble (Nat.mul (Nat.add k 1) 24) 140737488355328 = true), vr_bc (Nat.ble_eq_true_of_le (show k + 1 ≤ 9223372036854775807 by omega) : Nat.ble (Nat.add k 1) strMax = true), vr_bc (show Nat.beq 1 1 = true from rfl), vr_bc (Nat.ble_eq_true_of_le hf), vr_bc (show allOne (takeL (Nat.mul 1 1) (dropL 0 [x])) = true by show bc (AV.one1 x) true false = true; rw [hx]; rfl)]
  rfl
theorem app_sl {h : H} {a q : Nat} {x : AV} {kk : AV → H → Option R} (ha : h.get a = .cells 0 []) (hq : h.get q = .cells 0 [x]) :
    aAppend 1 24 (.leaf (.sl a 0 0 0)) (.leaf (.sl q 0 1 1)) h kk = kk (.osl h.n 0 1 1) (h.push (.cells 0 [x])) := by
  show withCells h q (fun _ l => bc (Nat.beq (lenL (takeL (Nat.mul 1 1) (dropL 0 l))) (Nat.mul 1 1)) _ none) = _
  rw [vr_cells _ hq]
  show withCells h a _ = _
  rw [vr_cells _ ha]
  rfl
/-- One list's trial: what follows it. -/
def nextK (c : AV → H → Option R) (n : Nat) (l : List AV) (kn : Option Nat) (ks : List AV → Option Nat) : Option Nat := bc (allPl l) (onSome (c (.osl 0 0 n 1) (hR 0 l).mark) fun r => bc (Nat.ble 1 r.2.lo) (r.1.onTup none fun x => x.onCons none fun y z => z.onCons none fun ok e => bc (isNilV e)
  (withBool ok fun t => bc t
    (y.onSl none (fun _ => none) (fun _ _ _ _ => none) fun b o m es => bc (Nat.ble 1 b) (bc (Nat.beq o 0) (bc (Nat.beq m n) (bc (Nat.beq es 1) (withCells r.2 b fun fl l' => bc (Nat.beq fl 0) (bc (allPl l') (ks l') none) none) none) none) none) none)
    (y.onSl none (fun l => @Leaf.rec (fun _ => Option Nat) none none kn none none none none (fun _ => none) (fun _ _ _ _ => none) l) (fun _ _ _ _ => none) (fun _ _ _ _ => none))) none) none) none
theorem nextK_some {f : AV → H → Option R} {n c : Nat} {l : List AV} {kn : Option Nat} {ks : List AV → Option Nat} (e : nextK f n l kn ks = some c) :
    (kn = some c ∧ ∀ (h : H) (b : Nat), h.get b = .cells 0 l → viewC f (.osl b 0 n 1) h = some (.one .tup (.cons (.leaf .nils) (.cons (.bool false) (.leaf .nil))), h)) ∨
    ∃ l', ks l' = some c ∧ ∀ (h : H) (b : Nat), h.get b = .cells 0 l → viewC f (.osl b 0 n 1) h = some (.one .tup (.cons (.osl h.n 0 n 1) (.cons (.bool true) (.leaf .nil))), h.push (.cells 0 l')) := by
  unfold nextK at e
  obtain ⟨hl, e1⟩ := bif_some e
  obtain ⟨⟨v, h'⟩, e2, e3⟩ := onSome_some e1
  obtain ⟨hlo, e4⟩ := bif_some e3
  have un : ∀ (h : H) (b : Nat), h.get b = .cells 0 l → viewC f (.osl b 0 n 1) h = fgNext v h' h := fun h b hb => by
    show withCells h b (fun fl l => bc (allPl l) (onSome (f (.osl 0 0 n 1) (hR fl l).mark) fun r => bc (Nat.ble 1 r.2.lo) (fgNext r.1 r.2 h) none) none) = _
    rw [vr_cells _ hb, vr_bc hl, e2]; exact vr_bc hlo _ _
  clear e e1 e2 e3
  obtain ⟨x, hv, f1⟩ := onTup_some e4
  obtain ⟨y, z, rfl, f2⟩ := onCons_some f1
  obtain ⟨ok, t, rfl, f3⟩ := onCons_some f2
  obtain ⟨g1, f4⟩ := bif_some f3
  obtain rfl := isNilV_eq g1
  obtain ⟨t, rfl, f5⟩ := withBool_some f4
  replace hv : v = _ := hv
  subst hv
  cases t with
  | true =>
    refine .inr ?_
    rw [bc_true] at f5
    rcases onSl_some f5 with ⟨_, _, _, _, _, f6⟩ | ⟨b, q, m, es, rfl, f6⟩ | ⟨y, rfl, f6⟩
    · cases f6
    · obtain ⟨hb, f7⟩ := bif_some f6
      obtain ⟨hq, f8⟩ := bif_some f7
      obtain ⟨hm, f9⟩ := bif_some f8
      obtain ⟨hes, f10⟩ := bif_some f9
      obtain ⟨fl', l', hg, f11⟩ := withCells_some f10
      obtain ⟨hfl, f12⟩ := bif_some f11
      obtain ⟨hl', f13⟩ := bif_some f12
      have hq := Nat.eq_of_beq_eq_true hq
      have hm := Nat.eq_of_beq_eq_true hm
      have hes := Nat.eq_of_beq_eq_true hes
      have hfl := Nat.eq_of_beq_eq_true hfl
      subst hq hm hes hfl
      refine ⟨l', f13, fun h c hc => ?_⟩
      rw [un h c hc]
      show bc (Nat.ble 1 b) (withCells h' b fun fl l => bc (Nat.ble fl 1) (bc (allPl l) (some (AV.one .tup (.cons (.osl h.n 0 _ 1) (.cons (.bool true) (.leaf .nil))), h.push (.cells fl l))) none) none) none = _
      rw [vr_bc hb, vr_cells _ hg, vr_bc (show Nat.ble 0 1 = true from rfl), vr_bc hl']
    · cases f6
  | false =>
    refine .inl ?_
    rw [bc_false] at f5
    rcases onSl_some f5 with ⟨_, _, _, _, _, f6⟩ | ⟨_, _, _, _, _, f6⟩ | ⟨y, rfl, f6⟩
    · cases f6
    · cases f6
    · cases y <;> first | (cases f6; done) | skip
      refine ⟨f6, fun h c hc => ?_⟩
      rw [un h c hc]; rfl
/-- A list of numbers, written out. -/
def forceA : List AV → (List AV → Option Nat) → Option Nat := @List.rec AV (fun _ => (List AV → Option Nat) → Option Nat) (fun k => k []) (fun a _ ih k => a.onInt none fun kd v => ih fun t => k (.int kd v :: t))
theorem forceA_some {c : Nat} (l : List AV) : ∀ {k : List AV → Option Nat}, forceA l k = some c → k l = some c := by
  induction l with
  | nil => exact fun e => e
  | cons a l ih =>
    intro k e
    have e : withInt a (fun kd v => forceA l fun t => k (.int kd v :: t)) = some c := e
    obtain ⟨kd, v, rfl, e1⟩ := withInt_some e
    exact ih (k := fun t => k (.int kd v :: t)) e1
/-- The number of all lists from one on, with those ahead of it. -/
def cntO (c : AV → H → Option R) (n : Nat) : Nat → List AV → Nat → Option Nat := @Nat.rec (fun _ => List AV → Nat → Option Nat) (fun _ _ => none) fun _ ih l acc => bc (Nat.ble acc 5000) (nextK c n l (some acc) fun l' => forceA l' fun l' => ih l' (Nat.succ acc)) none
theorem vr_dead_push {h : H} {a b : Nat} {x : Blk} (hb : b < h.n) (hab : b ≠ a) : ((h.set a .dead).push x).get b = h.get b := by
  rw [H.get_push, H.n_set, if_neg (by omega), H.get_set, if_neg hab]
theorem vr_push_lt {h : H} {b : Nat} {x : Blk} (hb : b < h.n) : (h.push x).get b = h.get b := by rw [H.get_push, if_neg (by omega)]
theorem vr_push_n (h : H) (x : Blk) : (h.push x).get h.n = x := by rw [H.get_push, if_pos rfl]
end
end Go.AI
