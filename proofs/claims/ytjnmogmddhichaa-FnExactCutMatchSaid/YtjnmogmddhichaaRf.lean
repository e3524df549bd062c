/- Code within a round of a range over a function, as the evaluator reads it. -/
import Derived.Test.YtjnmogmddhichaaRaw
import Derived.RangeFuncOwn
import Derived.RangeFuncCalls
import Derived.KernelRfl
namespace Go.AI
noncomputable section
open Go Go.RowKit
set_option linter.unusedVariables false
set_option linter.unusedSimpArgs false
variable {P : Program}

abbrev FR (l : Nat) : Fence := Fence.wide.inRound l

theorem wpIn_of_good {l : Nat} {o : Oper} {a : Act} {w : World} {n : Act → World → Prop} {Q : Exit → Act → World → Prop} (h : good P o a w n) : o.wpIn (FR l) 0 P a w n Q := by
  refine ⟨fun f hf => trivial, ?_⟩
  have hnd : ∀ c, o.op ≠ .defer c := fun c hc => by
    unfold good execOp at h
    rw [hc] at h
    simp only [Sem.run_bind] at h
    cases hr : (resolve a.eval c o.type).run P w with
    | ok d w' => rw [hr] at h; exact h
    | halt x w' => rw [hr] at h; exact h
  rw [Oper.semAt_eq (FR l).round a.eval o hnd]
  unfold good at h
  generalize (execOp a.eval o).run P w = r at *
  cases r with
  | ok x w' =>
    cases x <;> simp only [goodUpon] at h
    · exact h
    · exact h
    · refine ⟨(fun h => by cases h), (CallsIn.inRound l ((callsIn_wide (n := 0 - 1)).2 h)).mono ?_⟩
      rintro e w'' ⟨v, rfl, hn⟩
      exact hn
  | halt x w' => simp only [goodUpon] at h

section
variable {Γ : Env} {N l : Nat} {ops : Array Oper} {kn : K} {ke : Nat → K} {kr : K} {r : R} {Q : Exit → Act → World → Prop}
theorem runAll_in (hΓ : Sound P Γ) {j d : Nat} {want : Bool} (rest : List Oper) : ∀ (pre : List Oper) (ι : Inj) (st : St) (h : H) (a : Act) (w : World) (kn : K),
    Rel ι h w → StR ι N st a → (∀ o ∈ pre, o.guard = some (j, want) ∧ o.dst ≠ some d) →
    (∀ (o : Oper), o.guard = some (j, want) → ∀ a' : Act, a'.tmps.getD d undef = a.tmps.getD d undef → Region.wanted o (yielded ops a'.tmps) = true) → runAll P Γ N pre st h kn = some r →
    (∀ ι' st' h' a' w', Ext ι h w ι' h' w' → a'.defers = a.defers → Rel ι' h' w' → StR ι' N st' a' → kn st' h' = some r → wpListIn (FR l) 0 P ops Q rest a' w') → wpListIn (FR l) 0 P ops Q (pre ++ rest) a w := by
  intro pre
  induction pre with
  | nil => intro ι st h a w kn hR hS _ _ e hk; exact hk ι st h a w (.refl _ _ _) rfl hR hS e
  | cons o pre ih =>
    intro ι st h a w kn hR hS hg hw e hk
    simp only [List.cons_append, wpListIn]
    obtain ⟨hg1, hd1⟩ := hg o (by simp)
    rw [if_pos (hw o hg1 a rfl)]
    refine wpIn_of_good (dOp_sound hΓ hR hS e _ fun x v w' ι' h' hE' hR' hV hk' => ?_)
    obtain ⟨st', hk2, hput⟩ := putO_some hk'
    refine ih ι' st' h' _ w' kn hR' (hput (hS.mono hE'.le) hV) (fun o ho => hg o (by simp [ho])) (fun o ho a' ha' => hw o ho a' (ha'.trans (put_getD hd1))) hk2 fun ι2 st2 h2 a2 w2 hE2 hd2 hR2 hS2 hk3 => ?_
    exact hk ι2 st2 h2 a2 w2 (hE'.trans hE2) (hd2.trans (put_defers _ _ _)) hR2 hS2 hk3
theorem skipAll_in {j d : Nat} {want : Bool} (rest : List Oper) : ∀ (pre : List Oper) (ι : Inj) (st : St) (a : Act) (w : World) (f : St → Option R),
    StR ι N st a → (∀ o ∈ pre, o.guard = some (j, want) ∧ o.dst ≠ some d) →
    (∀ (o : Oper), o.guard = some (j, want) → ∀ a' : Act, a'.tmps.getD d undef = a.tmps.getD d undef → Region.wanted o (yielded ops a'.tmps) = false) → skipAll N pre st f = some r →
    (∀ st' a', a'.defers = a.defers → StR ι N st' a' → f st' = some r → wpListIn (FR l) 0 P ops Q rest a' w) → wpListIn (FR l) 0 P ops Q (pre ++ rest) a w := by
  intro pre
  induction pre with
  | nil => intro ι st a w f hS _ _ e hk; exact hk st a rfl hS e
  | cons o pre ih =>
    intro ι st a w f hS hg hw e hk
    simp only [List.cons_append, wpListIn]
    obtain ⟨hg1, hd1⟩ := hg o (by simp)
    rw [if_neg (by rw [hw o hg1 a rfl]; simp)]
    obtain ⟨st', hk2, hput⟩ := putO_some e
    refine ⟨fun f hf => trivial, ih ι st' _ w f (hput hS ⟨#[], rfl, rfl⟩) (fun o ho => hg o (by simp [ho])) (fun o ho a' ha' => hw o ho a' (ha'.trans (put_getD hd1))) hk2 fun st2 a2 hd2 hS2 hk3 => ?_⟩
    exact hk st2 a2 (hd2.trans (put_defers _ _ _)) hS2 hk3
theorem dOps_in {all : List Oper} (hΓ : Sound P Γ) (hall : ops.toList = all) :
    ∀ (n : Nat) (an : An) (os : List Oper) (ι0 : Inj) (h0 : H) (a0 : Act) (w0 : World) (ι : Inj) (st : St) (h : H) (a : Act) (w : World), Ext ι0 h0 w0 ι h w → a.defers = a0.defers → Rel ι h w → StR ι N st a →
      dOps P Γ N all n an os st h kn = some r → wpListIn (FR l) 0 P ops (Post ι0 h0 a0 w0 N kn ke kr r) os a w := by
  intro n
  induction n with
  | zero =>
    intro an os ι0 h0 a0 w0 ι st h a w hE hd hR hS e
    cases os with
    | nil => exact ⟨ι, st, h, hE, hR, hS, hd, e⟩
    | cons o rest => cases e
  | succ n ih =>
    intro an os ι0 h0 a0 w0 ι st h a w hE hd hR hS e
    cases os with
    | nil => exact ⟨ι, st, h, hE, hR, hS, hd, e⟩
    | cons o rest =>
      simp only [dOps] at e
      split at e
      · rename_i hg
        simp only [wpListIn]
        rw [if_pos (by simp [Region.wanted, hg])]
        obtain ⟨st2, hS2, e⟩ : ∃ st2, StR ι N st2 a ∧ (dOp P Γ o st2 h fun a h' => putO N o.dst a st2 fun st' => dOps P Γ N all n an.next rest st' h' kn) = some r := by
          cases hc : an.cutK with
          | none => rw [hc] at e; exact ⟨st, hS, e⟩
          | some ks => rw [hc] at e; exact ⟨_, get_map_mkSt hS ks, e⟩
        refine wpIn_of_good (dOp_sound hΓ hR hS2 e _ fun x v w' ι' h' hE' hR' hV hk => ?_)
        obtain ⟨st', hk', hput⟩ := putO_some hk
        exact ih an.next rest ι0 h0 a0 w0 ι' st' h' _ w' (hE.trans hE') ((put_defers _ _ _).trans hd) hR' (hput (hS2.mono hE'.le) hV) hk'
      · rename_i j want hg
        split at e
        · cases e
        rename_i d hdst
        obtain ⟨hall', e1⟩ := bif_some e
        have hj : (ops[j]?).bind (·.dst) = some d := by rw [← hdst]; subst hall; simp
        have hpre : ∀ o' ∈ (o :: rest).takeWhile (sameG j want), o'.guard = some (j, want) ∧ o'.dst ≠ some d := fun o' ho' => by
          refine ⟨sameG_eq (takeWhile_all _ _ _ ho'), fun hd' => ?_⟩
          have := List.all_eq_true.1 hall' o' ho'
          rw [hd'] at this
          simp at this
        rw [← List.takeWhile_append_dropWhile (p := sameG j want) (l := o :: rest)]
        split at e1
        · rcases guardB_some hj hS e1 with ⟨hw, e2⟩ | ⟨hw, e2⟩
          · refine runAll_in hΓ _ _ ι st h a w _ hR hS hpre hw e2 fun ι' st' h' a' w' hE' hd' hR' hS' hk => ?_
            exact ih an.r _ ι0 h0 a0 w0 ι' st' h' a' w' (hE.trans hE') (hd'.trans hd) hR' hS' hk
          · refine skipAll_in _ _ ι st a w _ hS hpre hw e2 fun st' a' hd' hS' hk => ?_
            exact ih an.r _ ι0 h0 a0 w0 ι st' h a' w hE (hd'.trans hd) hR hS' hk
        · rcases guardB_some hj hS e1 with ⟨hw, e2⟩ | ⟨hw, e2⟩
          · refine runAll_in hΓ _ _ ι st h a w _ hR hS hpre hw e2 fun ι' st' h' a' w' hE' hd' hR' hS' hk => ?_
            exact ih an.r _ ι0 h0 a0 w0 ι' _ h' a' w' (hE.trans hE') (hd'.trans hd) hR' (get_map_mkSt hS' _) hk
          · refine skipAll_in _ _ ι st a w _ hS hpre hw e2 fun st' a' hd' hS' hk => ?_
            exact ih an.r _ ι0 h0 a0 w0 ι _ h a' w hE (hd'.trans hd) hR (get_map_mkSt hS' _) hk
end

/-- Code that is followed in a round: no loop, no drawn region. -/
def flatC : Code → Bool
  | .skip => true
  | .region _ _ d => !d
  | .seq a b => flatC a && flatC b
  | .cond _ a b => flatC a && flatC b
  | .block _ a => flatC a
  | .exit _ => true
  | _ => false

theorem den_in {Γ : Env} {N F l : Nat} (hΓ : Sound P Γ) : ∀ (c : Code) (an : An) (st : St) (h : H) (kn : K) (ke : Nat → K) (kr : K) (r : R), flatC c = true → den P Γ N F c an st h kn ke kr = some r →
    ∀ (ι : Inj) (a : Act) (w : World), Rel ι h w → StR ι N st a → c.wpIn (FR l) 0 P (Post ι h a w N kn ke kr r) a w := by
  intro c
  induction c with
  | skip =>
    intro an st h kn ke kr r _ e ι a w hR hS
    exact wpIn_skip ⟨ι, st, h, .refl _ _ _, hR, hS, rfl, e⟩
  | region id ops draw =>
    intro an st h kn ke kr r hf e ι a w hR hS
    cases draw with
    | true => cases hf
    | false => exact wpIn_region_list (dOps_in hΓ rfl _ _ _ _ _ _ _ _ _ _ _ _ (Ext.refl _ _ _) rfl hR hS e)
  | seq x y ihx ihy =>
    intro an st h kn ke kr r hf e ι a w hR hS
    simp only [flatC, Bool.and_eq_true] at hf
    refine wpIn_seq ?_
    simp only [den] at e
    split at e
    · refine wpIn_mono (ihx _ _ _ _ _ _ _ hf.1 e ι a w hR hS) fun ex a1 w1 hp => ?_
      obtain ⟨ι1, st1, h1, hE, hR1, hS1, hd, hk⟩ := hp
      cases ex with
      | normal => exact wpIn_mono (ihy _ _ _ _ _ _ _ hf.2 hk ι1 a1 w1 hR1 hS1) fun ex2 a2 w2 hp2 => Post.trans hE hd hp2
      | exit i => exact ⟨ι1, st1, h1, hE, hR1, hS1, hd, hk⟩
      | ret => exact ⟨ι1, st1, h1, hE, hR1, hS1, hd, hk⟩
      | goto l => exact hk.elim
      | panic c => exact hk.elim
      | outgrown => exact hk.elim
    · refine wpIn_mono (ihx _ _ _ _ _ _ _ hf.1 e ι a w hR hS) fun ex a1 w1 hp => ?_
      obtain ⟨ι1, st1, h1, hE, hR1, hS1, hd, hk⟩ := hp
      cases ex with
      | normal => exact wpIn_mono (ihy _ _ _ _ _ _ _ hf.2 hk ι1 a1 w1 hR1 (get_map_mkSt hS1 _)) fun ex2 a2 w2 hp2 => Post.trans hE hd hp2
      | exit i => exact ⟨ι1, st1, h1, hE, hR1, hS1, hd, hk⟩
      | ret => exact ⟨ι1, st1, h1, hE, hR1, hS1, hd, hk⟩
      | goto l => exact hk.elim
      | panic c => exact hk.elim
      | outgrown => exact hk.elim
  | cond c x y ihx ihy =>
    intro an st h kn ke kr r hf e ι a w hR hS
    simp only [flatC, Bool.and_eq_true] at hf
    obtain ⟨t, ht, e1⟩ := withBool_some e
    have hv := hS.ev c
    rw [ht] at hv
    cases t with
    | true => exact wpIn_cond_true hv.bool (ihx _ _ _ _ _ _ _ hf.1 e1 ι a w hR hS)
    | false => exact wpIn_cond_false hv.bool (ihy _ _ _ _ _ _ _ hf.2 e1 ι a w hR hS)
  | block id x ih =>
    intro an st h kn ke kr r hf e ι a w hR hS
    refine wpIn_block (wpIn_mono (ih _ _ _ _ _ _ _ hf e ι a w hR hS) fun ex a1 w1 hp => ?_)
    obtain ⟨ι1, st1, h1, hE, hR1, hS1, hd, hk⟩ := hp
    cases ex with
    | normal => exact ⟨ι1, st1, h1, hE, hR1, hS1, hd, hk⟩
    | exit i =>
      simp only [Exit.inBlock]
      by_cases hi : i = id
      · subst hi
        rw [if_pos rfl]
        simp only [Nat.beq_refl, bc_true] at hk
        exact ⟨ι1, st1, h1, hE, hR1, hS1, hd, hk⟩
      · rw [if_neg hi]
        have : Nat.beq i id = false := by rw [beq_decide]; simpa using hi
        simp only [this, bc_false] at hk
        exact ⟨ι1, st1, h1, hE, hR1, hS1, hd, hk⟩
    | ret => exact ⟨ι1, st1, h1, hE, hR1, hS1, hd, hk⟩
    | goto l => exact hk.elim
    | panic c => exact hk.elim
    | outgrown => exact hk.elim
  | exit id =>
    intro an st h kn ke kr r _ e ι a w hR hS
    exact wpIn_exit ⟨ι, st, h, .refl _ _ _, hR, hS, rfl, e⟩
  | _ => intro an st h kn ke kr r hf; cases hf
end
end Go.AI
