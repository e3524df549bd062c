/- Rows that are drawn. -/
import Derived.Test.YtfafaadfnhhfhaaRaw
namespace Go.AI
open Go Go.RowKit
noncomputable section
set_option linter.unusedVariables false
variable {P : Program}

theorem CellsR.plain {ι ι' : Inj} {l : List AV} {c : Array Value} {o : Nat} (hp : ∀ a ∈ l, a.plain = true) (hc : CellsR ι l c o) : CellsR ι' l c o :=
  fun i a hi => let ⟨v, h1, h2⟩ := hc i a hi; ⟨v, h1, plain_mono (hp a (List.mem_of_getElem? hi)) h2⟩

theorem row_rel {ι ι' : Inj} {h h' : H} {w w' : World} (r : Rel ι h w) (hb : Below w.heap.size w w') (r' : Rel ι' h' w') {b B base sz fl : Nat} {l : List AV}
    (eb : ι' b = some (B, base, sz)) (hB : w.heap.size ≤ B) (hg : h'.get b = .cells fl l) (hp : ∀ a ∈ l, a.plain = true) :
    Ext ι h w (ι.add h.n (B, base, sz)) (h.push (.cells fl l)) w' ∧ Rel (ι.add h.n (B, base, sz)) (h.push (.cells fl l)) w' := by
  have hBlt := r'.lt _ _ _ _ eb
  refine ⟨⟨Inj.le_add r.noId, hb.os, hb.tape, hb.output, hb.size, fun C hC _ => hb.block C hC, ?_, Nat.le_succ _, Nat.le_refl _, ?_, ?_, ?_⟩, ⟨?_, ?_, ?_, ?_⟩⟩
  · intro C ⟨c, o', s', e, ho⟩
    unfold Inj.add at e
    rw [H.get_push] at ho
    split at e
    · cases e; exact .inr hB
    · rename_i hn; rw [if_neg hn] at ho; exact .inl ⟨c, o', s', e, ho⟩
  · intro c _ hc; rw [H.get_push, if_neg (by omega)]
  · intro c C o' s' _ _ _ e; exact hb.block _ (r.lt _ _ _ _ e)
  · intro c C o' s' e
    unfold Inj.add at e
    split at e
    · cases e; exact .inr hB
    · exact .inl ⟨c, _, _, e⟩
  · intro c y e
    unfold Inj.add at e; rw [H.n_push]
    split at e
    · omega
    · have := r.fresh _ _ e; omega
  · intro c C o' s' e
    unfold Inj.add at e
    split at e
    · cases e; exact hBlt
    · exact Nat.lt_of_lt_of_le (r.lt _ _ _ _ e) hb.size
  · intro c d C o1 s1 o2 s2 hc hd ec ed
    unfold Inj.add at ec ed
    rw [H.get_push] at hc hd
    split at ec
    · cases ec
      split at ed
      · omega
      · have := r.lt _ _ _ _ ed; omega
    · rename_i hcn
      rw [if_neg hcn] at hc
      split at ed
      · cases ed; have := r.lt _ _ _ _ ec; omega
      · rename_i hdn; rw [if_neg hdn] at hd; exact r.inj c d C o1 s1 o2 s2 hc hd ec ed
  · intro c hc
    rw [H.get_push] at hc ⊢
    by_cases hcn : c = h.n
    · subst hcn
      refine ⟨B, base, sz, by simp [Inj.add], ?_⟩
      rw [if_pos rfl]
      obtain ⟨B1, o1, s1, e1, hR⟩ := r'.blk b (by rw [hg]; intro h; cases h)
      rw [eb] at e1; cases e1
      rw [hg] at hR
      obtain ⟨x, t, lo, hi, h1, h2, h3, h4⟩ := hR
      exact ⟨x, t, lo, hi, h1, h2, h3.plain hp, h4⟩
    · rw [if_neg hcn] at hc ⊢
      obtain ⟨C, o', s', e, hR⟩ := r.blk c hc
      refine ⟨C, o', s', by simp [Inj.add, hcn, e], ?_⟩
      rw [hb.block _ (r.lt _ _ _ _ e)]
      exact hR.mono (Inj.le_add r.noId)

theorem row_val {ι ι' : Inj} {b c o n es : Nat} {v : Value} (e : ι' b = ι c) (hv : VR ι' (.osl b o n es) v) : VR ι (.osl c o n es) v := by
  obtain ⟨A, k, h1, h2, h3⟩ := hv
  exact ⟨A, k, h1, h2, h3.imp id fun ⟨B, base, sz, e1, h'⟩ => ⟨B, base, sz, by rw [← e, e1], h'⟩⟩

theorem row_valOk {ι ι' : Inj} {b c o n es : Nat} {ok : AV} {v : Value} (e : ι' b = ι c) (hok : ok.plain = true) (hv : VR ι' (.one .tup (.cons (.osl b o n es) (.cons ok (.leaf .nil)))) v) :
    VR ι (.one .tup (.cons (.osl c o n es) (.cons ok (.leaf .nil)))) v := by
  obtain ⟨cs, h1, x, xs, h2, h3, y, ys, h4, h5, h6⟩ := hv
  exact ⟨cs, h1, x, xs, h2, row_val e h3, y, ys, h4, plain_mono hok h5, h6⟩

/-- A call that wrote nothing old and tells a new row of plain values. -/
theorem Tri.quietRow {f : FuncId} {args : List AV} {h h' : H} {b o n es fl : Nat} {l : List AV} (T : Tri P f args h.mark (.osl b o n es, h')) (hlo : h.n ≤ h'.lo) (hb : h.n ≤ b)
    (hg : h'.get b = .cells fl l) (hfl : fl < 2) (hp : ∀ a ∈ l, a.plain = true) : Tri P f args h (.osl h.n o n es, h.push (.cells fl l)) :=
  ⟨T.can, fun ι w vs hR hV => (T.run ι w vs hR.mark hV).mono fun e w' ⟨x, ι', he, hx, hE, hR'⟩ => by
    have hbl := Ext.quiet hR hE hlo
    obtain ⟨B, base, sz, eb, _⟩ := hR'.blk b (by rw [show h'.get b = _ from hg]; intro h; cases h)
    have hB : w.heap.size ≤ B := by
      rcases hE.own B ⟨b, base, sz, eb, by rw [show h'.get b = _ from hg]; exact hfl⟩ with ⟨c, q, z, ec, hc⟩ | hB
      · have hcn := hR.fresh _ _ ec
        have hk : h'.get c = h.get c := hE.keep c (Nat.lt_of_lt_of_le hcn hlo) hcn
        have hnd : h.get c ≠ .dead := by intro hd; rw [show h.mark.get c = h.get c from rfl, hd] at hc; exact hc
        have := hR'.inj b c B base sz q z (by rw [show h'.get b = _ from hg]; exact hfl) (by rw [show h'.get c = _ from hk]; exact hnd) eb (hE.le _ _ ec)
        omega
      · exact hB
    obtain ⟨hE2, hR2⟩ := row_rel hR hbl hR' eb hB hg hp
    exact ⟨x, _, he, row_val (by rw [eb]; simp [Inj.add]) hx, hE2, hR2⟩⟩

/-- A call over the empty memory with plain arguments that tells a row of plain values tells it over every memory. -/
theorem Tri.forgetRow {f : FuncId} {args : List AV} {h' : H} {b o n es fl : Nat} {l : List AV} (T : Tri P f args H0 (.osl b o n es, h')) (ha : ∀ a ∈ args, a.plain = true)
    (hg : h'.get b = .cells fl l) (hp : ∀ a ∈ l, a.plain = true) (h : H) : Tri P f args h (.osl h.n o n es, h.push (.cells fl l)) :=
  ⟨T.can, fun ι w vs hR hV => (T.run (fun _ => Option.none) w vs (Rel.empty w) (VL.plain ha hV)).mono fun e w' ⟨x, ι', he, hx, hE, hR'⟩ => by
    obtain ⟨B, base, sz, eb, _⟩ := hR'.blk b (by rw [show h'.get b = _ from hg]; intro h; cases h)
    have hB : w.heap.size ≤ B := by
      rcases hE.dom b B base sz eb with ⟨c, q, z, ec⟩ | hB
      · cases ec
      · exact hB
    obtain ⟨hE2, hR2⟩ := row_rel hR hE.below hR' eb hB hg hp
    exact ⟨x, _, he, row_val (by rw [eb]; simp [Inj.add]) hx, hE2, hR2⟩⟩

/-- A call that tells a row and whether there is one. -/
theorem Tri.forgetRowOk {f : FuncId} {args : List AV} {h' : H} {b o n es fl : Nat} {l : List AV} {ok : AV} (T : Tri P f args H0 (.one .tup (.cons (.osl b o n es) (.cons ok (.leaf .nil))), h')) (ha : ∀ a ∈ args, a.plain = true) (hok : ok.plain = true)
    (hg : h'.get b = .cells fl l) (hp : ∀ a ∈ l, a.plain = true) (h : H) : Tri P f args h (.one .tup (.cons (.osl h.n o n es) (.cons ok (.leaf .nil))), h.push (.cells fl l)) :=
  ⟨T.can, fun ι w vs hR hV => (T.run (fun _ => Option.none) w vs (Rel.empty w) (VL.plain ha hV)).mono fun e w' ⟨x, ι', he, hx, hE, hR'⟩ => by
    obtain ⟨B, base, sz, eb, _⟩ := hR'.blk b (by rw [show h'.get b = _ from hg]; intro h; cases h)
    have hB : w.heap.size ≤ B := by
      rcases hE.dom b B base sz eb with ⟨c, q, z, ec⟩ | hB
      · cases ec
      · exact hB
    obtain ⟨hE2, hR2⟩ := row_rel hR hE.below hR' eb hB hg hp
    exact ⟨x, _, he, row_valOk (by rw [eb]; simp [Inj.add]) hok hx, hE2, hR2⟩⟩
/-- A call that tells a row of plain values: all memory but the row is forgotten. -/
theorem Tri.lastRow {f : FuncId} {args : List AV} {h h' : H} {b o n es fl : Nat} {l : List AV} (T : Tri P f args h (.osl b o n es, h'))
    (hg : h'.get b = .cells fl l) (hp : ∀ a ∈ l, a.plain = true) : Tri P f args h (.osl h.n o n es, (⟨h.n, .e, 0⟩ : H).push (.cells fl l)) :=
  ⟨T.can, fun ι w vs hR hV => (T.run ι w vs hR hV).mono fun e w' ⟨x, ι', he, hx, hE, hR'⟩ => by
    obtain ⟨B, base, sz, eb, hblk⟩ := hR'.blk b (by rw [show h'.get b = _ from hg]; intro h; cases h)
    have hget : ∀ c, ((⟨h.n, .e, 0⟩ : H).push (.cells fl l)).get c = if c = h.n then .cells fl l else .dead := fun c => by
      rw [H.get_push]; rfl
    refine ⟨x, ι.add h.n (B, base, sz), he, row_val (by rw [eb]; simp [Inj.add]) hx,
      ⟨Inj.le_add hR.noId, hE.os, hE.tape, hE.output, hE.size, hE.block, ?_, Nat.le_succ _, Nat.zero_le _, fun c hc => absurd hc (Nat.not_lt_zero _), fun c _ _ _ hc => absurd hc (Nat.not_lt_zero _), ?_⟩, ⟨?_, ?_, ?_, ?_⟩⟩
    · intro C ⟨c, o', s', e, ho⟩
      replace ho : (((⟨h.n, .e, 0⟩ : H).push (.cells fl l)).get c).own := ho
      rw [hget] at ho
      split at ho
      · rename_i hc
        subst hc
        simp only [Inj.add, if_pos] at e
        cases e
        exact hE.own B ⟨b, base, sz, eb, by rw [show h'.get b = _ from hg]; exact ho⟩
      · cases ho
    · intro c C o' s' e
      unfold Inj.add at e
      split at e
      · cases e; exact hE.dom b B base sz eb
      · exact .inl ⟨c, _, _, e⟩
    · intro c y e
      unfold Inj.add at e
      show c < h.n + 1
      split at e
      · omega
      · have := hR.fresh _ _ e; omega
    · intro c C o' s' e
      unfold Inj.add at e
      split at e
      · cases e; exact hR'.lt _ _ _ _ eb
      · exact Nat.lt_of_lt_of_le (hR.lt _ _ _ _ e) hE.size
    · intro c d C o1 s1 o2 s2 hc hd ec ed
      replace hc : (((⟨h.n, .e, 0⟩ : H).push (.cells fl l)).get c).own := hc
      replace hd : ((⟨h.n, .e, 0⟩ : H).push (.cells fl l)).get d ≠ .dead := hd
      rw [hget] at hc hd
      split at hc
      · split at hd
        · omega
        · exact absurd rfl hd
      · cases hc
    · intro c hc
      replace hc : ((⟨h.n, .e, 0⟩ : H).push (.cells fl l)).get c ≠ .dead := hc
      show ∃ B o s, _ ∧ BlkR _ (((⟨h.n, .e, 0⟩ : H).push (.cells fl l)).get c) o s _
      rw [hget] at hc ⊢
      split at hc
      · rename_i hcn
        rw [if_pos hcn]
        subst hcn
        refine ⟨B, base, sz, by simp [Inj.add], ?_⟩
        rw [show h'.get b = _ from hg] at hblk
        obtain ⟨x, t, lo, hi, h1, h2, h3, h4⟩ := hblk
        exact ⟨x, t, lo, hi, h1, h2, h3.plain hp, h4⟩
      · exact absurd rfl hc⟩
end
end Go.AI
namespace Go.AI
open Go Go.RowKit
noncomputable section
set_option linter.unusedVariables false
set_option linter.unusedSimpArgs false
variable {P : Program}
def fgC (c : AV → H → Option R) (a0 : AV) (h : H) : Option R := bc a0.plain (onSome (c a0 H0) fun r => bc r.1.plain (some (r.1, h)) none) none
theorem fgC_sound {f : FuncId} {c : AV → H → Option R} (hs : ∀ args h r, u1 c args h = some r → Tri P f args h r) : ∀ args h r, u1 (fgC c) args h = some r → Tri P f args h r := by
  intro args h r e
  obtain ⟨a0, rfl, e1⟩ := u1_some e
  obtain ⟨h0, e1⟩ := bif_some e1
  obtain ⟨r1, h1, e2⟩ := onSome_some e1
  obtain ⟨h2, e3⟩ := bif_some e2
  cases e3
  exact Tri.forget (hs [a0] H0 r1 h1) (fun a hm => by cases hm with | head => exact h0 | tail _ hm => cases hm) h2 h
def allPl (l : List AV) : Bool := @List.rec AV (fun _ => Bool) true (fun a _ r => bc a.plain r false) l
theorem allPl_spec : ∀ {l : List AV}, allPl l = true → ∀ a ∈ l, a.plain = true
  | [], _, a, h => by cases h
  | x :: l, h, a, ha => by
    have h : bc x.plain (allPl l) false = true := h
    cases hx : x.plain with
    | false => rw [hx] at h; cases h
    | true =>
      rw [hx, bc_true] at h
      rcases List.mem_cons.1 ha with rfl | ha
      · exact hx
      · exact allPl_spec h a ha
theorem sl_val {ι ι' : Inj} {b c o n m : Nat} {v : Value} (e : ι' b = ι c) (hv : VR ι' (.leaf (.sl b o n m)) v) : VR ι (.leaf (.sl c o n m)) v := by
  obtain ⟨B, base, sz, h1, h2⟩ := hv
  exact ⟨B, base, sz, by rw [← e, h1], h2⟩
theorem Tri.forgetRowG {f : FuncId} {args : List AV} {h' : H} {b fl : Nat} {l : List AV} {x : AV} (T : Tri P f args H0 (x, h')) (ha : ∀ a ∈ args, a.plain = true)
    (hg : h'.get b = .cells fl l) (hp : ∀ a ∈ l, a.plain = true) (h : H) {x' : AV} (hx' : ∀ (ι ι' : Inj) v, ι' b = ι h.n → VR ι' x v → VR ι x' v) : Tri P f args h (x', h.push (.cells fl l)) :=
  ⟨T.can, fun ι w vs hR hV => (T.run (fun _ => Option.none) w vs (Rel.empty w) (VL.plain ha hV)).mono fun e w' ⟨x, ι', he, hx, hE, hR'⟩ => by
    obtain ⟨B, base, sz, eb, _⟩ := hR'.blk b (by rw [show h'.get b = _ from hg]; intro h; cases h)
    have hB : w.heap.size ≤ B := by
      rcases hE.dom b B base sz eb with ⟨c, q, z, ec⟩ | hB
      · cases ec
      · exact hB
    obtain ⟨hE2, hR2⟩ := row_rel hR hE.below hR' eb hB hg hp
    exact ⟨x, _, he, hx' _ _ _ (by rw [eb]; simp [Inj.add]) hx, hE2, hR2⟩⟩
theorem tup_val {ι ι' : Inj} {y y' ok : AV} (hy : ∀ v, VR ι' y v → VR ι y' v) (hok : ok.plain = true) {v : Value} (hv : VR ι' (.one .tup (.cons y (.cons ok (.leaf .nil)))) v) : VR ι (.one .tup (.cons y' (.cons ok (.leaf .nil)))) v := by
  obtain ⟨cs, h1, x, xs, h2, h3, y, ys, h4, h5, h6⟩ := hv
  exact ⟨cs, h1, x, xs, h2, hy _ h3, y, ys, h4, plain_mono hok h5, h6⟩
def isNilV (e : AV) : Bool := e.onLeaf false fun e => @Leaf.rec (fun _ => Bool) false false false false false false true (fun _ => false) (fun _ _ _ _ => false) e
theorem isNilV_eq {e : AV} (h : isNilV e = true) : e = .leaf .nil := by cases e using AV.casesE <;> first | rfl | cases h
/-- A row, and whether there is one. -/
def fgRowOk (r : R) (h : H) : Option R := r.1.onTup none fun x => x.onCons none fun y z => z.onCons none fun ok e => bc (isNilV e) (bc ok.plain
  (y.onSl none (fun l => bc (AV.leaf l).plain (some (.one .tup (.cons (.leaf l) (.cons ok (.leaf .nil))), h)) none)
    (fun b o n m => withCells r.2 b fun fl l => bc (allPl l) (some (.one .tup (.cons (.leaf (.sl h.n o n m)) (.cons ok (.leaf .nil))), h.push (.cells fl l))) none)
    (fun b o n es => withCells r.2 b fun fl l => bc (allPl l) (some (.one .tup (.cons (.osl h.n o n es) (.cons ok (.leaf .nil))), h.push (.cells fl l))) none)) none) none
def fgRowOkC (c : AV → H → Option R) (a0 : AV) (h : H) : Option R := bc a0.plain (onSome (c a0 H0) fun r => fgRowOk r h) none
theorem onTup_some {α : Type} {x : AV} {f : AV → Option α} {r : α} (e : x.onTup none f = some r) : ∃ a, x = .one .tup a ∧ f a = some r := by
  cases x using AV.casesE <;> first | (cases e; done) | exact ⟨_, rfl, e⟩
theorem onCons_some {α : Type} {x : AV} {f : AV → AV → Option α} {r : α} (e : x.onCons none f = some r) : ∃ a t, x = .cons a t ∧ f a t = some r := by
  cases x using AV.casesE <;> first | (cases e; done) | exact ⟨_, _, rfl, e⟩
theorem onSl_some {α : Type} {x : AV} {l : Leaf → Option α} {g f : Nat → Nat → Nat → Nat → Option α} {r : α} (e : x.onSl none l g f = some r) :
    (∃ b o n m, x = .leaf (.sl b o n m) ∧ g b o n m = some r) ∨ (∃ b o n es, x = .osl b o n es ∧ f b o n es = some r) ∨ (∃ y, x = .leaf y ∧ l y = some r) := by
  cases x using AV.casesE <;> first | (cases e; done) | exact .inl ⟨_, _, _, _, rfl, e⟩ | exact .inr (.inl ⟨_, _, _, _, rfl, e⟩) | exact .inr (.inr ⟨_, rfl, e⟩)
theorem fgRowOk_sound {f : FuncId} {args : List AV} {r1 r : R} {h : H} (T : Tri P f args H0 r1) (ha : ∀ a ∈ args, a.plain = true) (e : fgRowOk r1 h = some r) : Tri P f args h r := by
  obtain ⟨v, h'⟩ := r1
  unfold fgRowOk at e
  obtain ⟨x, hx, e1⟩ := onTup_some e
  obtain ⟨y, z, rfl, e2⟩ := onCons_some e1
  obtain ⟨ok, t, rfl, e3⟩ := onCons_some e2
  obtain ⟨h1, e4⟩ := bif_some e3
  obtain ⟨h2, e5⟩ := bif_some e4
  clear e e1 e2 e3 e4
  obtain rfl := isNilV_eq h1
  have hx : v = _ := hx
  subst hx
  rcases onSl_some e5 with ⟨b, o, n, m, rfl, e6⟩ | ⟨b, o, n, es, rfl, e6⟩ | ⟨y, rfl, e6⟩
  · obtain ⟨fl, l, hb, e7⟩ := withCells_some e6
    obtain ⟨hl, e8⟩ := bif_some e7
    cases e8
    exact Tri.forgetRowG T ha hb (allPl_spec hl) h fun ι ι' v hi hv => tup_val (fun v hv => sl_val hi hv) h2 hv
  · obtain ⟨fl, l, hb, e7⟩ := withCells_some e6
    obtain ⟨hl, e8⟩ := bif_some e7
    cases e8
    exact Tri.forgetRowG T ha hb (allPl_spec hl) h fun ι ι' v hi hv => tup_val (fun v hv => row_val hi hv) h2 hv
  · obtain ⟨h3, e7⟩ := bif_some e6
    cases e7
    refine Tri.forget T ha ?_ h
    show bc (AV.leaf y).plain (bc ok.plain true false) false = true
    rw [h3, h2]; rfl
theorem fgRowOkC_sound {f : FuncId} {c : AV → H → Option R} (hs : ∀ args h r, u1 c args h = some r → Tri P f args h r) : ∀ args h r, u1 (fgRowOkC c) args h = some r → Tri P f args h r := by
  intro args h r e
  obtain ⟨a0, rfl, e1⟩ := u1_some e
  obtain ⟨h0, e1⟩ := bif_some e1
  obtain ⟨r1, h1, e2⟩ := onSome_some e1
  exact fgRowOk_sound (hs [a0] H0 r1 h1) (fun a hm => by cases hm with | head => exact h0 | tail _ hm => cases hm) e2
end
end Go.AI
namespace Go.AI
open Go Go.RowKit
noncomputable section
set_option linter.unusedVariables false
set_option linter.unusedSimpArgs false
variable {P : Program}
theorem Tri.quietRowG {f : FuncId} {args : List AV} {h h' : H} {b fl : Nat} {l : List AV} {y y' : AV} (T : Tri P f args h.mark (y, h')) (hlo : h.n ≤ h'.lo) (hb : h.n ≤ b)
    (hg : h'.get b = .cells fl l) (hfl : fl < 2) (hp : ∀ a ∈ l, a.plain = true) (hx' : ∀ (ι ι' : Inj) v, ι' b = ι h.n → VR ι' y v → VR ι y' v) : Tri P f args h (y', h.push (.cells fl l)) :=
  ⟨T.can, fun ι w vs hR hV => (T.run ι w vs hR.mark hV).mono fun e w' ⟨x, ι', he, hx, hE, hR'⟩ => by
    have hbl := Ext.quiet hR hE hlo
    obtain ⟨B, base, sz, eb, _⟩ := hR'.blk b (by rw [show h'.get b = _ from hg]; intro h; cases h)
    have hB : w.heap.size ≤ B := by
      rcases hE.own B ⟨b, base, sz, eb, by rw [show h'.get b = _ from hg]; exact hfl⟩ with ⟨c, q, z, ec, hc⟩ | hB
      · have hcn := hR.fresh _ _ ec
        have hk : h'.get c = h.get c := hE.keep c (Nat.lt_of_lt_of_le hcn hlo) hcn
        have hnd : h.get c ≠ .dead := by intro hd; rw [show h.mark.get c = h.get c from rfl, hd] at hc; exact hc
        have := hR'.inj b c B base sz q z (by rw [show h'.get b = _ from hg]; exact hfl) (by rw [show h'.get c = _ from hk]; exact hnd) eb (hE.le _ _ ec)
        omega
      · exact hB
    obtain ⟨hE2, hR2⟩ := row_rel hR hbl hR' eb hB hg hp
    exact ⟨x, _, he, hx' _ _ _ (by rw [eb]; simp [Inj.add]) hx, hE2, hR2⟩⟩
def quietRowC (c : AV → H → Option R) (a0 : AV) (h : H) : Option R := onSome (c a0 h.mark) fun r => bc (Nat.ble h.n r.2.lo) (r.1.onSl none (fun _ => none)
  (fun b o n m => bc (Nat.ble h.n b) (withCells r.2 b fun fl l => bc (Nat.ble fl 1) (bc (allPl l) (some (.leaf (.sl h.n o n m), h.push (.cells fl l))) none) none) none)
  (fun b o n es => bc (Nat.ble h.n b) (withCells r.2 b fun fl l => bc (Nat.ble fl 1) (bc (allPl l) (some (.osl h.n o n es, h.push (.cells fl l))) none) none) none)) none
theorem quietRowC_sound {f : FuncId} {c : AV → H → Option R} (hs : ∀ args h r, u1 c args h = some r → Tri P f args h r) : ∀ args h r, u1 (quietRowC c) args h = some r → Tri P f args h r := by
  intro args h r e
  obtain ⟨a0, rfl, e1⟩ := u1_some e
  unfold quietRowC at e1
  obtain ⟨⟨v, h'⟩, e2, e3⟩ := onSome_some e1
  obtain ⟨hlo, e4⟩ := bif_some e3
  have hlo1 : h.n ≤ h'.lo := Nat.le_of_ble_eq_true hlo
  have T : Tri P f [a0] h.mark (v, h') := hs [a0] _ _ e2
  rcases onSl_some e4 with ⟨b, o, n, m, hv, e5⟩ | ⟨b, o, n, es, hv, e5⟩ | ⟨_, _, e5⟩
  · have hv : v = _ := hv
    subst hv
    obtain ⟨hb, e6⟩ := bif_some e5
    obtain ⟨fl, l, hg, e7⟩ := withCells_some e6
    obtain ⟨hfl, e8⟩ := bif_some e7
    obtain ⟨hl, e9⟩ := bif_some e8
    cases e9
    exact Tri.quietRowG T hlo1 (Nat.le_of_ble_eq_true hb) hg (Nat.lt_succ_of_le (Nat.le_of_ble_eq_true hfl)) (allPl_spec hl) fun ι ι' v hi hv => sl_val hi hv
  · have hv : v = _ := hv
    subst hv
    obtain ⟨hb, e6⟩ := bif_some e5
    obtain ⟨fl, l, hg, e7⟩ := withCells_some e6
    obtain ⟨hfl, e8⟩ := bif_some e7
    obtain ⟨hl, e9⟩ := bif_some e8
    cases e9
    exact Tri.quietRowG T hlo1 (Nat.le_of_ble_eq_true hb) hg (Nat.lt_succ_of_le (Nat.le_of_ble_eq_true hfl)) (allPl_spec hl) fun ι ι' v hi hv => row_val hi hv
  · cases e5
/-- The slice of n cells of a block, all of it. -/
def xOf (b n : Nat) : AV := @Nat.rec (fun _ => AV) (.leaf (.sl b 0 0 0)) (fun n _ => .osl b 0 (Nat.succ n) 1) n
theorem quietRowC_ok {c : AV → H → Option R} {a0 : AV} {h h' : H} {b n : Nat} {l : List AV} (e : c a0 h.mark = some (xOf b n, h')) (hlo : h.n ≤ h'.lo) (hb : h.n ≤ b) (hg : h'.get b = .cells 0 l) (hp : allPl l = true) :
    quietRowC c a0 h = some (xOf h.n n, h.push (.cells 0 l)) := by
  unfold quietRowC
  rw [e]
  have b1 : Nat.ble h.n h'.lo = true := Nat.ble_eq_true_of_le hlo
  have b2 : Nat.ble h.n b = true := Nat.ble_eq_true_of_le hb
  cases n with
  | zero =>
    show bc (Nat.ble h.n h'.lo) (bc (Nat.ble h.n b) (withCells h' b fun fl l => bc (Nat.ble fl 1) (bc (allPl l) (some (AV.leaf (.sl h.n 0 0 0), h.push (.cells fl l))) none) none) none) none = _
    unfold withCells
    rw [b1, b2, hg]
    show bc (allPl l) _ none = _
    rw [hp]; rfl
  | succ n =>
    show bc (Nat.ble h.n h'.lo) (bc (Nat.ble h.n b) (withCells h' b fun fl l => bc (Nat.ble fl 1) (bc (allPl l) (some (AV.osl h.n 0 (n + 1) 1, h.push (.cells fl l))) none) none) none) none = _
    unfold withCells
    rw [b1, b2, hg]
    show bc (allPl l) _ none = _
    rw [hp]; rfl
end
end Go.AI
namespace Go.AI
open Go Go.RowKit
noncomputable section
set_option linter.unusedVariables false
set_option linter.unusedSimpArgs false
def Fr (n0 Q : Nat) (h h' : H) : Prop := h.n ≤ h'.n ∧ ∀ c, c < n0 → c ≠ Q → h'.get c = h.get c
theorem Fr.trans {n0 Q : Nat} {h1 h2 h3 : H} (f1 : Fr n0 Q h1 h2) (f2 : Fr n0 Q h2 h3) : Fr n0 Q h1 h3 := ⟨Nat.le_trans f1.1 f2.1, fun c hc hq => (f2.2 c hc hq).trans (f1.2 c hc hq)⟩
section
variable {F g : Nat} {b : AV} {m : Nat} {L : List AV} {Q p n : Nat} {h : H}
theorem nodes_pushF {n0 : Nat} (r : Rdr b m L Q p h) {x : AV} {D : Nat} {ds : List Nat} (w : Row x D ds h) (hDQ : D ≠ Q) (hD : 1 ≤ D) (hds : ds.length < 100) (h0 : n0 ≤ D) (hn0 : n0 ≤ h.n) {kd : AV} {v : Nat} (kc : List AV → H → Option R) (N : AV) :
    ∃ x' D' h', c_spec_l91Nodes_j1 F g kc [.ptr Q 0, N, x, kd, nI ds.length, nI v] h = kc [.ptr Q 0, N, x', kd, nI (ds.length + 1)] h' ∧ Row x' D' (ds ++ [v]) h' ∧ Rdr b m L Q p h' ∧ D' ≠ Q ∧ 1 ≤ D' ∧ n0 ≤ D' ∧ Fr n0 Q h h' := by
  obtain ⟨h', e, w', g1, g2, g3⟩ := w.push (by omega) v fun y h => aArith iadd (nI ds.length) (nI 1) h fun z h => kc [.ptr Q 0, N, y, kd, z] h
  have hq := r.lt
  have hq0 := r.q0
  refine ⟨_, _, h', ?_, w', r.later (g2 0 (by omega) (by omega)) (g2 Q hq (Ne.symm hDQ)) g1 (g3 hD r.lo), by omega, by omega, by omega, g1, fun c hc hq => g2 c (by omega) (by omega)⟩
  delta c_spec_l91Nodes_j1
  dsimp only [hd_cons, tl_cons]
  rw [show nI ds.length = nI ds.length from rfl]
  refine e.trans ?_
  rw [addN (by omega)]

theorem nodes_stepF {n0 : Nat} (r : Rdr b m L Q p h) (hp : p < 900000) {x : AV} {D : Nat} {ds : List Nat} (w : Row x D ds h) (hDQ : D ≠ Q) (hD : 1 ≤ D) (h1 : 1 ≤ ds.length) (hds : ds.length < 100) (h0 : n0 ≤ D) (hn0 : n0 ≤ h.n) (hb : ∀ (j e : Nat), ds[j]? = some e → e ≤ j) {kd : Nat} (hn : ds.length < n) (kc : List AV → H → Option R) :
    ∃ v x' D' p' h', v ≤ ds.length ∧ p' ≤ p + 2 ∧ c_spec_l91Nodes_l2 F g [.ptr Q 0, nI n, x, nI kd, nI ds.length] h kc = kc [.ptr Q 0, nI n, x', nI kd, nI (ds.length + 1)] h' ∧ Row x' D' (ds ++ [v]) h' ∧ Rdr b m L Q p' h' ∧ D' ≠ Q ∧ 1 ≤ D' ∧ n0 ≤ D' ∧ Fr n0 Q h h' := by
  obtain ⟨e, he⟩ : ∃ e, ds[ds.length - 1]? = some e := ⟨_, List.getElem?_eq_getElem (by omega)⟩
  have hel := hb _ _ he
  have hi : ds.length - 1 < ds.length := by omega
  obtain ⟨v, h2, hv, e2, r2, n2, f2⟩ := r.pick (F := F) (g := g) (n := e + 1) (by omega) (by omega)
  have w2 : Row x D ds h2 := w.of (f2 D hDQ) (by omega)
  by_cases hk : kd = 1
  · subst hk
    obtain ⟨v2, h3, hv2, e3, r3, n3, f3⟩ := r2.pick (F := F) (g := g) (n := min (e + 1) 2) (by omega) (by omega)
    have w3 : Row x D ds h3 := w2.of (f3 D hDQ) (by omega)
    obtain ⟨x', D', h', q1, q2, q3, q4, q5, q6, q7⟩ := nodes_pushF (n0 := n0) (F := F) (g := g) r3 w3 hDQ hD hds h0 (by omega) (kd := nI 1) (v := 1 + e - v2) kc (nI n)
    refine ⟨1 + e - v2, x', D', p + 2, h', by omega, by omega, ?_, q2, q3, q4, q5, q6, Fr.trans ⟨by omega, fun c _ hq => (f3 c hq).trans (f2 c hq)⟩ q7⟩
    rw [← q1]
    delta c_spec_l91Nodes_l2
    dsimp only [hd_cons, tl_cons]
    rw [lssN, withBool_bool, ble_true (show Nat.succ ds.length ≤ n from hn), bc_true, subN h1 (by omega), w.idx hi, w.load he, addN (by omega), e2, bindR_some', addN (by omega), eqlN, withBool_bool]
    have mm : ∀ k : AV → H → Option R, aMM false (nI (e + 1)) (.int 3 (.ofNat 2)) h2 k = k (nI (min (e + 1) 2)) h2 := fun k => by
      show k (.int 3 (bc (Nat.ble (Nat.succ 2) (e + 1)) (.ofNat 2) (.ofNat (e + 1)))) h2 = _
      by_cases h3 : 3 ≤ e + 1
      · rw [ble_true (show Nat.succ 2 ≤ e + 1 from h3), bc_true, show min (e + 1) 2 = 2 by omega]
      · rw [ble_false (show e + 1 < Nat.succ 2 by omega), bc_false, show min (e + 1) 2 = e + 1 by omega]
    rw [show Nat.beq 1 1 = true from rfl, bc_true, w2.watch]
    rw [w2.okW, bc_true, bc_true, subN h1 (by omega), bc_true, w2.idx hi, bc_true, Row.loadW he, addN (by omega), w2.okW, bc_true, bc_true, bc_true, bc_true, subN h1 (by omega), bc_true, w2.idx hi, bc_true, Row.loadW he, addN (by omega), w2.okW, bc_true, mm, bc_true, e3, bindR_some',
      w3.okW, bc_true, subN (by omega) (by omega), bc_true, bc_true]
  · obtain ⟨x', D', h', q1, q2, q3, q4, q5, q6, q7⟩ := nodes_pushF (n0 := n0) (F := F) (g := g) r2 w2 hDQ hD hds h0 (by omega) (kd := nI kd) (v := 1 + v) kc (nI n)
    refine ⟨1 + v, x', D', p + 1, h', by omega, by omega, ?_, q2, q3, q4, q5, q6, Fr.trans ⟨by omega, fun c _ hq => f2 c hq⟩ q7⟩
    rw [← q1]
    delta c_spec_l91Nodes_l2
    dsimp only [hd_cons, tl_cons]
    rw [lssN, withBool_bool, ble_true (show Nat.succ ds.length ≤ n from hn), bc_true, subN h1 (by omega), w.idx hi, w.load he, addN (by omega), e2, bindR_some', addN (by omega), eqlN, withBool_bool]
    rw [show Nat.beq kd 1 = false by rw [beq_decide, decide_eq_false_iff_not]; exact hk, bc_false]

theorem nodes_loopF {n0 : Nat} (hF : 10000 < F) (hn : n ≤ 50) {kd : Nat} : ∀ (N : Nat) (ds : List Nat) (x : AV) (D p : Nat) (h : H), Rdr b m L Q p h → p + 2 * (n - ds.length) < 900000 → Row x D ds h → D ≠ Q → 1 ≤ D → n0 ≤ D → n0 ≤ h.n → 1 ≤ ds.length → ds.length ≤ max n 1 → n - ds.length < N →
    (∀ (j e : Nat), ds[j]? = some e → e ≤ j) →
    ∃ l p' h', (2 ≤ l.length ∧ l.length ≤ 2 * max n 1 ∧ cn 40 l = cn 41 l) ∧ p' ≤ p + 2 * (n - ds.length) ∧ loopD N (c_spec_l91Nodes_l2 F g) [.ptr Q 0, nI n, x, nI kd, nI ds.length] h = some (.str l l.length, h') ∧ Rdr b m L Q p' h' ∧ Fr n0 Q h h'
  | 0, _, _, _, _, _, _, _, _, _, _, _, _, _, _, h0, _ => by omega
  | N + 1, ds, x, D, p, h, r, hp, w, hDQ, hD, z1, z2, h1, hds, hN, hb => by
    rw [loopD_succ]
    by_cases hi : ds.length < n
    · obtain ⟨v, x', D', p', h', q1, q2, q3, q4, q5, q6, q7, q8, q9⟩ := nodes_stepF (n0 := n0) (F := F) (g := g) r (by omega) w hDQ hD h1 (by omega) z1 z2 hb (kd := kd) hi (loopD N (c_spec_l91Nodes_l2 F g))
      have hlen : (ds ++ [v]).length = ds.length + 1 := by simp
      obtain ⟨l, p2, h2, g1, g2, g3, g4, g5⟩ := nodes_loopF hF hn N (ds ++ [v]) x' D' p' h' q5 (by omega) q4 q6 q7 q8 (Nat.le_trans z2 q9.1) (by omega) (by omega) (by omega) fun j e hj => by
        by_cases hj' : j < ds.length
        · rw [List.getElem?_append_left hj'] at hj; exact hb j e hj
        · rw [List.getElem?_append_right (by omega)] at hj
          obtain rfl : j = ds.length := by
            have := (List.getElem?_eq_some_iff.1 hj).1
            simp at this; omega
          simp at hj; omega
      refine ⟨l, p2, h2, g1, by omega, ?_, g4, q9.trans g5⟩
      rw [q3, ← hlen]; exact g3
    · obtain ⟨l, h2, h4, h3⟩ := l3Tree_ok (F := F) (g := g) w hF (by omega)
      refine ⟨l, p, h, ⟨by omega, by omega, h4⟩, by omega, ?_, r, Nat.le_refl _, fun _ _ _ => rfl⟩
      delta c_spec_l91Nodes_l2
      dsimp only [hd_cons, tl_cons]
      rw [lssN, withBool_bool, ble_false (show n < Nat.succ ds.length by omega), bc_false, h3, bindR_some']

theorem nodes_okF (r : Rdr b m L Q p h) (hF : 10000 < F) (hn : n ≤ 50) (hp : p < 100000) : ∃ l p' h', (2 ≤ l.length ∧ l.length ≤ 2 * max n 1 ∧ cn 40 l = cn 41 l) ∧ p' ≤ p + 200 ∧ c_spec_l91Nodes F g (.ptr Q 0) (nI n) h = some (.str l l.length, h') ∧ Rdr b m L Q p' h' ∧ Fr h.n Q h h' := by
  have hq := r.lt
  have hq0 := r.q0
  have r1 : Rdr b m L Q p (h.push (.cells 0 [nI 0])) := r.later (get_push_lt (by omega)) (get_push_lt hq) (Nat.le_succ _) r.lo
  obtain ⟨v, h2, hv, e2, r2, n2, f2⟩ := r1.pick (F := F) (g := g) (n := 3) (by omega) (by omega)
  have hn2 : h2.n = h.n + 1 := n2
  have w : Row (.leaf (.sl h.n 0 1 1)) h.n [0] h2 := ⟨.inl ⟨rfl, rfl⟩, by rw [f2 _ (by omega)]; exact get_push_eq rfl, by omega⟩
  obtain ⟨l, p', h', g1, g2, g3, g4, g5⟩ := nodes_loopF (n0 := h.n) (F := F) (g := g) (n := n) hF hn (kd := v) F [0] _ h.n (p + 1) h2 r2 (by omega) w (by omega) (by omega) (Nat.le_refl _) (by omega) (by simp) (by simp; omega) (by simp; omega) fun j e hj => by
    cases j with
    | zero => simp at hj; omega
    | succ j => simp at hj
  refine ⟨l, p', h', g1, by omega, ?_, g4, Fr.trans ⟨by omega, fun c hc hq' => (f2 c hq').trans (get_push_lt hc)⟩ g5⟩
  delta c_spec_l91Nodes
  rw [show ∀ k : AV → H → Option R, aBuildSlice 1 1 [(0, 1, nI 0)] h k = k (.leaf (.sl h.n 0 1 1)) (h.push (.cells 0 [nI 0])) from fun k => rfl, e2, bindR_some']
  exact g3

theorem of_okF (r : Rdr b m L Q p h) (hp : p < 900000) {D c : Nat} {xs : List AV} (hD : h.get D = .cells 0 xs) (hDQ : D ≠ Q) (hc : xs.length = c) (hc0 : 0 < c) (hc1 : c < 100) (hxs : ∀ a ∈ xs, ∃ l, a = .str l l.length ∧ l.length < 100 ∧ l ≠ []) :
    ∃ l h', (l.length < 100 ∧ l ≠ []) ∧ c_spec_l6Rd_of F g (.ptr Q 0) (.leaf (.sl D 0 c c)) h = some (.str l l.length, h') ∧ Rdr b m L Q (p + 1) h' ∧ ∀ n0, Fr n0 Q h h' := by
  obtain ⟨v, h2, hv, e2, r2, n2, f2⟩ := r.pick (F := F) (g := g) (n := c) (by omega) (by omega)
  have hvc : v < c := by omega
  obtain ⟨l, hl, hll⟩ := hxs _ (List.getElem_mem (show v < xs.length by omega))
  refine ⟨l, h2, hll, ?_, r2, fun n0 => ⟨by omega, fun c _ hq => f2 c hq⟩⟩
  delta c_spec_l6Rd_of
  rw [show ∀ k : AV → H → Option R, aLenK 1 (.leaf (.sl D 0 c c)) h k = k (nI c) h from fun k => rfl, e2, bindR_some']
  rw [show ∀ k : AV → H → Option R, aIdxAddr 1 (.leaf (.sl D 0 c c)) (nI v) h2 k = k (.ptr D (0 + v * 1)) h2 from fun k => by
    show bc (Nat.ble (Nat.succ v) c) (k (.ptr D (Nat.add 0 (Nat.mul v 1))) h2) none = _
    rw [ble_true (show Nat.succ v ≤ c from hvc)]; rfl]
  rw [load_at (fl := 0) (l := xs) (a := .str l l.length) (by rw [f2 D hDQ]; exact hD) (by rw [nthO_eq, Nat.zero_add, Nat.mul_one, List.getElem?_eq_getElem (by omega), hl])]

theorem tree_okF (r : Rdr b m L Q p h) (hF : 10000 < F) (hn : n ≤ 40) (hp : p < 90000) : ∃ l p' h', (l.length ≤ 300 ∧ (isTree l = true → l.length ≤ 2 * max n 1)) ∧ p' ≤ p + 300 ∧ c_spec_l91Tree F g (.ptr Q 0) (nI n) h = some (.str l l.length, h') ∧ Rdr b m L Q p' h' ∧ Fr h.n Q h h' := by
  obtain ⟨v, h1, hv, e1, r1, n1, f1⟩ := r.pick (F := F) (g := g) (n := n) (by omega) (by omega)
  obtain ⟨l, p2, h2, g1, g2, g3, r2, fr2⟩ := nodes_okF (F := F) (g := g) (n := 1 + v) r1 hF (by omega) (by omega)
  obtain ⟨v3, h3, hv3, e3, r3, n3, f3⟩ := r2.pick (F := F) (g := g) (n := 40) (by omega) (by omega)
  have hq := r3.lt
  rw [n1] at fr2
  have fr3 : Fr h.n Q h h3 := ⟨by have := fr2.1; omega, fun c hc hq' => (f3 c hq').trans ((fr2.2 c hc hq').trans (f1 c hq'))⟩
  have hq0 := r3.q0
  by_cases h0 : v3 = 0
  · obtain ⟨h4, hh4⟩ : ∃ h4, h3.push (.cells 0 [.str [40, 41] 2, .str [40] 1, .str [41] 1, .str [120] 1]) = h4 := ⟨_, rfl⟩
    have g4 : h4.get h3.n = .cells 0 [.str [40, 41] 2, .str [40] 1, .str [41] 1, .str [120] 1] := by rw [← hh4]; exact get_push_eq rfl
    have r4 : Rdr b m L Q (p2 + 1) h4 := r3.later (by rw [← hh4]; exact get_push_lt (by omega)) (by rw [← hh4]; exact get_push_lt hq) (by rw [← hh4]; exact Nat.le_succ _) (by rw [← hh4]; exact r3.lo)
    obtain ⟨l', h5, k1, k2, k3, k4⟩ := of_okF (F := F) (g := g) r4 (by omega) g4 (by omega) (c := 4) rfl (by omega) (by omega) fun a ha => by
      simp only [List.mem_cons, List.mem_nil_iff, or_false] at ha
      rcases ha with rfl | rfl | rfl | rfl
      · exact ⟨[40, 41], rfl, by simp, by simp⟩
      · exact ⟨[40], rfl, by simp, by simp⟩
      · exact ⟨[41], rfl, by simp, by simp⟩
      · exact ⟨[120], rfl, by simp, by simp⟩
    refine ⟨l ++ l', p2 + 1 + 1, h5, ⟨by simp; omega, fun hT => ?_⟩, by omega, ?_, k3, fr3.trans (Fr.trans ⟨by rw [← hh4]; exact Nat.le_succ _, fun c hc _ => by rw [← hh4]; exact get_push_lt (by have := fr3.1; omega)⟩ (k4 h.n))⟩
    · rw [no_tree_app (by intro h; rw [h] at g1; simp at g1) g1.2.2 k1.2] at hT; cases hT
    delta c_spec_l91Tree
    rw [e1, bindR_some', addN (by omega), g3, bindR_some', e3, bindR_some', eqlN, withBool_bool, show Nat.beq v3 0 = true by subst h0; rfl, bc_true]
    rw [show ∀ k : AV → H → Option R, aBuildSlice 4 1 [(0, 1, (AV.str [40, 41] 2)), (1, 1, (AV.str [40] 1)), (2, 1, (AV.str [41] 1)), (3, 1, (AV.str [120] 1))] h3 k = k (.leaf (.sl h3.n 0 4 4)) (h3.push (.cells 0 [.str [40, 41] 2, .str [40] 1, .str [41] 1, .str [120] 1])) from fun k => rfl, hh4, k2, bindR_some', sadd _ _ (by omega)]
  · refine ⟨l, p2 + 1, h3, ⟨by omega, fun _ => by omega⟩, by omega, ?_, r3, fr3⟩
    delta c_spec_l91Tree
    rw [e1, bindR_some', addN (by omega), g3, bindR_some', e3, bindR_some', eqlN, withBool_bool, show Nat.beq v3 0 = false by rw [beq_decide, decide_eq_false_iff_not]; exact h0, bc_false]
end
end
end Go.AI
