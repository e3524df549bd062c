/- A call whose result is a row of plain values: everything else that it made is forgotten. -/
import Derived.Test.YtfafaadfnhhfhaaAi2
namespace Go.AI
open Go Go.RowKit
noncomputable section
set_option linter.unusedVariables false
variable {P : Program}

theorem CellsR.plain {ι ι' : Inj} {l : List AV} {c : Array Value} {o : Nat} (hp : ∀ a ∈ l, a.plain = true) (hc : CellsR ι l c o) : CellsR ι' l c o :=
  fun i a hi => let ⟨v, h1, h2⟩ := hc i a hi; ⟨v, h1, plain_mono (hp a (List.mem_of_getElem? hi)) h2⟩

theorem row_rel {ι ι' : Inj} {h h' : H} {w w' : World} (r : Rel ι h w) (hb : Below w.heap.size w w') (r' : Rel ι' h' w') {b B base sz fl : Nat} {l : List AV}
    (eb : ι' b = some (B, base, sz)) (hB : w.heap.size ≤ B) (hg : h'.get b = .cells fl l) (hp : ∀ a ∈ l, a.plain = true) (hfl : fl < 2) :
    Ext ι h w (ι.add h.n (B, base, sz)) (h.push (.cells fl l)) w' ∧ Rel (ι.add h.n (B, base, sz)) (h.push (.cells fl l)) w' := by
  have hBlt := r'.lt _ _ _ _ eb
  refine ⟨⟨Inj.le_add r.noId, hb.os, hb.tape, hb.output, hb.size, fun C hC _ => hb.block C hC, ?_, Nat.le_succ _, Nat.le_refl _, ?_, ?_, ?_⟩, ⟨?_, ?_, ?_, ?_, fun c r' e' hp' => by
    rw [H.get_push] at hp'
    by_cases hcn : c = h.n
    · rw [if_pos hcn] at hp'; exact absurd hp' (Blk.cells_free hfl _ _)
    · rw [if_neg hcn] at hp'
      obtain ⟨⟨s', k1⟩, k2⟩ := r.pin c r' e' hp'
      exact ⟨⟨s', by simp [Inj.add, hcn, k1]⟩, by rw [cell_of_heap (hb.block _ (r.lt _ _ _ _ k1))]; exact k2⟩⟩⟩
  · intro C ⟨c, o', s', e, ho⟩
    unfold Inj.add at e
    rw [H.get_push] at ho
    split at e
    · cases e; exact .inr hB
    · rename_i hn; rw [if_neg hn] at ho; exact .inl ⟨c, o', s', e, ho⟩
  · intro c _ hc; rw [H.get_push, if_neg (by omega)]
  · intro c C o' s' _ _ _ e; exact hb.block _ (r.lt _ _ _ _ e)
  · intro c C o' s' e
    unfold Inj.add at e
    split at e
    · cases e; exact .inr hB
    · exact .inl ⟨c, _, _, e⟩
  · intro c y e
    unfold Inj.add at e; rw [H.n_push]
    split at e
    · omega
    · have := r.fresh _ _ e; omega
  · intro c C o' s' e
    unfold Inj.add at e
    split at e
    · cases e; exact hBlt
    · exact Nat.lt_of_lt_of_le (r.lt _ _ _ _ e) hb.size
  · intro c d C o1 s1 o2 s2 hc hd ec ed
    unfold Inj.add at ec ed
    rw [H.get_push] at hc hd
    split at ec
    · cases ec
      split at ed
      · omega
      · have := r.lt _ _ _ _ ed; omega
    · rename_i hcn
      rw [if_neg hcn] at hc
      split at ed
      · cases ed; have := r.lt _ _ _ _ ec; omega
      · rename_i hdn; rw [if_neg hdn] at hd; exact r.inj c d C o1 s1 o2 s2 hc hd ec ed
  · intro c hc
    rw [H.get_push] at hc ⊢
    by_cases hcn : c = h.n
    · subst hcn
      refine ⟨B, base, sz, by simp [Inj.add], ?_⟩
      rw [if_pos rfl]
      obtain ⟨B1, o1, s1, e1, hR⟩ := r'.blk b (by rw [hg]; intro h; cases h)
      rw [eb] at e1; cases e1
      rw [hg] at hR
      obtain ⟨x, t, lo, hi, h1, h2, h3, h4⟩ := hR
      exact ⟨x, t, lo, hi, h1, h2, h3.plain hp, h4⟩
    · rw [if_neg hcn] at hc ⊢
      obtain ⟨C, o', s', e, hR⟩ := r.blk c hc
      refine ⟨C, o', s', by simp [Inj.add, hcn, e], ?_⟩
      rw [hb.block _ (r.lt _ _ _ _ e)]
      exact hR.mono (Inj.le_add r.noId)

theorem row_val {ι ι' : Inj} {b c o n es : Nat} {v : Value} (e : ι' b = ι c) (hv : VR ι' (.osl b o n es) v) : VR ι (.osl c o n es) v := by
  obtain ⟨A, k, h1, h2, h3⟩ := hv
  exact ⟨A, k, h1, h2, h3.imp id fun ⟨B, base, sz, e1, h'⟩ => ⟨B, base, sz, by rw [← e, e1], h'⟩⟩

theorem row_valOk {ι ι' : Inj} {b c o n es : Nat} {ok : AV} {v : Value} (e : ι' b = ι c) (hok : ok.plain = true) (hv : VR ι' (.one .tup (.cons (.osl b o n es) (.cons ok (.leaf .nil)))) v) :
    VR ι (.one .tup (.cons (.osl c o n es) (.cons ok (.leaf .nil)))) v := by
  obtain ⟨cs, h1, x, xs, h2, h3, y, ys, h4, h5, h6⟩ := hv
  exact ⟨cs, h1, x, xs, h2, row_val e h3, y, ys, h4, plain_mono hok h5, h6⟩

/-- A call that wrote nothing old and tells a new row of plain values. -/
theorem Tri.quietRow {f : FuncId} {args : List AV} {h h' : H} {b o n es fl : Nat} {l : List AV} (T : Tri P f args h.mark (.osl b o n es, h')) (hlo : h.n ≤ h'.lo) (hb : h.n ≤ b)
    (hg : h'.get b = .cells fl l) (hfl : fl < 2) (hp : ∀ a ∈ l, a.plain = true) : Tri P f args h (.osl h.n o n es, h.push (.cells fl l)) :=
  ⟨T.can, fun ι w vs hR hV => (T.run ι w vs hR.mark hV).mono fun e w' ⟨x, ι', he, hx, hE, hR'⟩ => by
    have hbl := Ext.quiet hR hE hlo
    obtain ⟨B, base, sz, eb, _⟩ := hR'.blk b (by rw [show h'.get b = _ from hg]; intro h; cases h)
    have hB : w.heap.size ≤ B := by
      rcases hE.own B ⟨b, base, sz, eb, by rw [show h'.get b = _ from hg]; exact hfl⟩ with ⟨c, q, z, ec, hc⟩ | hB
      · have hcn := hR.fresh _ _ ec
        have hk : h'.get c = h.get c := hE.keep c (Nat.lt_of_lt_of_le hcn hlo) hcn
        have hnd : h.get c ≠ .dead := by intro hd; rw [show h.mark.get c = h.get c from rfl, hd] at hc; exact hc
        have := hR'.inj b c B base sz q z (by rw [show h'.get b = _ from hg]; exact hfl) (by rw [show h'.get c = _ from hk]; exact hnd) eb (hE.le _ _ ec)
        omega
      · exact hB
    obtain ⟨hE2, hR2⟩ := row_rel hR hbl hR' eb hB hg hp hfl
    exact ⟨x, _, he, row_val (by rw [eb]; simp [Inj.add]) hx, hE2, hR2⟩⟩

/-- A call over the empty memory with plain arguments that tells a row of plain values tells it over every memory. -/
theorem Tri.forgetRow {f : FuncId} {args : List AV} {h' : H} {b o n es fl : Nat} {l : List AV} (T : Tri P f args H0 (.osl b o n es, h')) (ha : ∀ a ∈ args, a.plain = true)
    (hg : h'.get b = .cells fl l) (hp : ∀ a ∈ l, a.plain = true) (h : H) (hfl : fl < 2 := by first | decide | assumption | omega) : Tri P f args h (.osl h.n o n es, h.push (.cells fl l)) :=
  ⟨T.can, fun ι w vs hR hV => (T.run (fun _ => Option.none) w vs (Rel.empty w) (VL.plain ha hV)).mono fun e w' ⟨x, ι', he, hx, hE, hR'⟩ => by
    obtain ⟨B, base, sz, eb, _⟩ := hR'.blk b (by rw [show h'.get b = _ from hg]; intro h; cases h)
    have hB : w.heap.size ≤ B := by
      rcases hE.dom b B base sz eb with ⟨c, q, z, ec⟩ | hB
      · cases ec
      · exact hB
    obtain ⟨hE2, hR2⟩ := row_rel hR hE.below hR' eb hB hg hp hfl
    exact ⟨x, _, he, row_val (by rw [eb]; simp [Inj.add]) hx, hE2, hR2⟩⟩

/-- A call that tells a row and whether there is one. -/
theorem Tri.forgetRowOk {f : FuncId} {args : List AV} {h' : H} {b o n es fl : Nat} {l : List AV} {ok : AV} (T : Tri P f args H0 (.one .tup (.cons (.osl b o n es) (.cons ok (.leaf .nil))), h')) (ha : ∀ a ∈ args, a.plain = true) (hok : ok.plain = true)
    (hg : h'.get b = .cells fl l) (hp : ∀ a ∈ l, a.plain = true) (h : H) (hfl : fl < 2 := by first | decide | assumption | omega) : Tri P f args h (.one .tup (.cons (.osl h.n o n es) (.cons ok (.leaf .nil))), h.push (.cells fl l)) :=
  ⟨T.can, fun ι w vs hR hV => (T.run (fun _ => Option.none) w vs (Rel.empty w) (VL.plain ha hV)).mono fun e w' ⟨x, ι', he, hx, hE, hR'⟩ => by
    obtain ⟨B, base, sz, eb, _⟩ := hR'.blk b (by rw [show h'.get b = _ from hg]; intro h; cases h)
    have hB : w.heap.size ≤ B := by
      rcases hE.dom b B base sz eb with ⟨c, q, z, ec⟩ | hB
      · cases ec
      · exact hB
    obtain ⟨hE2, hR2⟩ := row_rel hR hE.below hR' eb hB hg hp hfl
    exact ⟨x, _, he, row_valOk (by rw [eb]; simp [Inj.add]) hok hx, hE2, hR2⟩⟩
/-- A call that tells a row of plain values: all memory but the row is forgotten. -/
theorem Tri.lastRow {f : FuncId} {args : List AV} {h h' : H} {b o n es fl : Nat} {l : List AV} (T : Tri P f args h (.osl b o n es, h'))
    (hg : h'.get b = .cells fl l) (hp : ∀ a ∈ l, a.plain = true) (hfl : fl < 2 := by first | decide | assumption | omega) : Tri P f args h (.osl h.n o n es, (⟨h.n, .e, 0⟩ : H).push (.cells fl l)) :=
  ⟨T.can, fun ι w vs hR hV => (T.run ι w vs hR hV).mono fun e w' ⟨x, ι', he, hx, hE, hR'⟩ => by
    obtain ⟨B, base, sz, eb, hblk⟩ := hR'.blk b (by rw [show h'.get b = _ from hg]; intro h; cases h)
    have hget : ∀ c, ((⟨h.n, .e, 0⟩ : H).push (.cells fl l)).get c = if c = h.n then .cells fl l else .dead := fun c => by
      rw [H.get_push]; rfl
    refine ⟨x, ι.add h.n (B, base, sz), he, row_val (by rw [eb]; simp [Inj.add]) hx,
      ⟨Inj.le_add hR.noId, hE.os, hE.tape, hE.output, hE.size, hE.block, ?_, Nat.le_succ _, Nat.zero_le _, fun c hc => absurd hc (Nat.not_lt_zero _), fun c _ _ _ hc => absurd hc (Nat.not_lt_zero _), ?_⟩, ⟨?_, ?_, ?_, ?_, fun c r' e' hp' => by
      replace hp' : (((⟨h.n, .e, 0⟩ : H).push (.cells fl l)).get c).pins r' e' := hp'
      rw [hget] at hp'
      split at hp'
      · exact absurd hp' (Blk.cells_free hfl _ _)
      · exact absurd hp' (Blk.dead_free _ _)⟩⟩
    · intro C ⟨c, o', s', e, ho⟩
      replace ho : (((⟨h.n, .e, 0⟩ : H).push (.cells fl l)).get c).own := ho
      rw [hget] at ho
      split at ho
      · rename_i hc
        subst hc
        simp only [Inj.add, if_pos] at e
        cases e
        exact hE.own B ⟨b, base, sz, eb, by rw [show h'.get b = _ from hg]; exact ho⟩
      · cases ho
    · intro c C o' s' e
      unfold Inj.add at e
      split at e
      · cases e; exact hE.dom b B base sz eb
      · exact .inl ⟨c, _, _, e⟩
    · intro c y e
      unfold Inj.add at e
      show c < h.n + 1
      split at e
      · omega
      · have := hR.fresh _ _ e; omega
    · intro c C o' s' e
      unfold Inj.add at e
      split at e
      · cases e; exact hR'.lt _ _ _ _ eb
      · exact Nat.lt_of_lt_of_le (hR.lt _ _ _ _ e) hE.size
    · intro c d C o1 s1 o2 s2 hc hd ec ed
      replace hc : (((⟨h.n, .e, 0⟩ : H).push (.cells fl l)).get c).own := hc
      replace hd : ((⟨h.n, .e, 0⟩ : H).push (.cells fl l)).get d ≠ .dead := hd
      rw [hget] at hc hd
      split at hc
      · split at hd
        · omega
        · exact absurd rfl hd
      · cases hc
    · intro c hc
      replace hc : ((⟨h.n, .e, 0⟩ : H).push (.cells fl l)).get c ≠ .dead := hc
      show ∃ B o s, _ ∧ BlkR _ (((⟨h.n, .e, 0⟩ : H).push (.cells fl l)).get c) o s _
      rw [hget] at hc ⊢
      split at hc
      · rename_i hcn
        rw [if_pos hcn]
        subst hcn
        refine ⟨B, base, sz, by simp [Inj.add], ?_⟩
        rw [show h'.get b = _ from hg] at hblk
        obtain ⟨x, t, lo, hi, h1, h2, h3, h4⟩ := hblk
        exact ⟨x, t, lo, hi, h1, h2, h3.plain hp, h4⟩
      · exact absurd rfl hc⟩
end
end Go.AI
