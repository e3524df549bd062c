/- A memory with one map. -/
import Derived.Test.YtlcmolcajoeagaaAi2
namespace Go.AI
open Go Go.RowKit
noncomputable section
set_option linter.unusedVariables false
set_option linter.unusedSimpArgs false
variable {P : Program}
theorem Rel.change2 {ι h w w'} (r : Rel ι h w) (b B o s : Nat) (x : Blk) (e : ι b = some (B, o, s)) (ho : (h.get b).own) (hx : BlkR ι x o s w'.heap[B]?)
    (hs : w.heap.size ≤ w'.heap.size) (hk : ∀ k, k < w.heap.size → k ≠ B → w'.heap[k]? = w.heap[k]?) (hf : x.free := by first | exact Blk.cells_free (by first | assumption | decide | omega) | exact Blk.map_free) : Rel ι (h.set b x) w' where
  fresh := r.fresh
  lt := fun c B' o' s' e' => Nat.lt_of_lt_of_le (r.lt _ _ _ _ e') hs
  inj := fun c d B' o1 s1 o2 s2 hc hd ec ed => by
    rw [H.get_set] at hc hd
    have hbd : h.get b ≠ .dead := fun e => by rw [e] at ho; exact ho
    by_cases hcb : c = b
    · subst hcb
      by_cases hdc : d = c
      · exact hdc.symm
      · rw [if_neg hdc] at hd; exact r.inj c d B' o1 s1 o2 s2 ho hd ec ed
    · rw [if_neg hcb] at hc
      by_cases hdb : d = b
      · subst hdb; exact r.inj c d B' o1 s1 o2 s2 hc hbd ec ed
      · rw [if_neg hdb] at hd; exact r.inj c d B' o1 s1 o2 s2 hc hd ec ed
  blk := fun c hc => by
    rw [H.get_set] at hc ⊢
    by_cases hcb : c = b
    · subst hcb; exact ⟨B, o, s, e, by simpa using hx⟩
    · rw [if_neg hcb] at hc ⊢
      obtain ⟨B', o', s', e', hR⟩ := r.blk c hc
      refine ⟨B', o', s', e', ?_⟩
      have hne : B' ≠ B := fun hB => by subst hB; exact hcb (r.inj b c B' o s o' s' ho hc e e').symm
      rw [hk _ (r.lt _ _ _ _ e') hne]; exact hR
  pin := fun c r' e' hp => by
    rw [H.get_set] at hp
    by_cases hcb : c = b
    · rw [if_pos hcb] at hp; exact absurd hp (hf _ _)
    · rw [if_neg hcb] at hp
      obtain ⟨⟨s', hb⟩, hc⟩ := r.pin c r' e' hp
      have hne : c ≠ B := fun hB => by
        have : h.get c ≠ .dead := fun e => by obtain ⟨_, l, hl⟩ := hp; rw [e] at hl; cases hl
        exact hcb (r.inj b c B o s 0 s' ho this e (by rw [hb, hB])).symm
      exact ⟨⟨s', hb⟩, by rw [cell_of_heap (hk _ (r.lt _ _ _ _ hb) hne)]; exact hc⟩
theorem Ext.change2 {ι h w w'} (r : Rel ι h w) (b B o s : Nat) (x : Blk) (e : ι b = some (B, o, s)) (ho : (h.get b).own) (hos : w'.os = w.os) (ht : w'.tape = w.tape) (hout : w'.output = w.output)
    (hs : w.heap.size ≤ w'.heap.size) (hk : ∀ k, k < w.heap.size → k ≠ B → w'.heap[k]? = w.heap[k]?) : Ext ι h w ι (h.set b x) w' where
  le := .refl _
  os := hos
  tape := ht
  output := hout
  size := hs
  block := fun k hlt hn => hk k hlt fun hB => hn ⟨b, o, s, by rw [e, hB], ho⟩
  own := fun k ⟨c, o', s', e', hc⟩ => by
    rw [H.get_set] at hc
    by_cases hcb : c = b
    · subst hcb; rw [e] at e'; cases e'; exact .inl ⟨c, o, s, e, ho⟩
    · rw [if_neg hcb] at hc; exact .inl ⟨c, o', s', e', hc⟩
  num := Nat.le_refl _
  lo := (H.lo_set h b x).2
  keep := fun c h1 _ => by
    have := (H.lo_set h b x).1
    rw [H.get_set, if_neg (by omega)]
  keepW := fun c B' o' s' h1 _ h3 h4 => hk B' (r.lt _ _ _ _ h4) fun hB => by
    subst hB
    have h5 := (H.lo_set h b x).1
    have := r.inj c b B' o' s' o s h3 (fun e => by rw [e] at ho; exact ho) h4 e
    omega
  dom := fun c _ _ _ e => .inl ⟨c, _, _, e⟩

/-- Entries that hold no memory. -/
def plainE (es : List (AV × AV × Nat)) : Bool := @List.rec (AV × AV × Nat) (fun _ => Bool) true (fun x _ r => bc x.1.plain (bc x.2.1.plain r false) false) es
theorem EntriesR.plain {ι ι' : Inj} : ∀ {es : List (AV × AV × Nat)} {ms : List MapEntry}, plainE es = true → EntriesR ι es ms → EntriesR ι' es ms
  | [], _, _, h => h
  | (k, v, n) :: t, l, hp, ⟨e, es, h1, h2, h3, h4, h5⟩ => by
    have hp : bc k.plain (bc v.plain (plainE t) false) false = true := hp
    cases hk : k.plain with
    | false => rw [hk] at hp; cases hp
    | true =>
      rw [hk, bc_true] at hp
      cases hv : v.plain with
      | false => rw [hv] at hp; cases hp
      | true =>
        rw [hv, bc_true] at hp
        exact ⟨e, es, h1, plain_mono hk h2, plain_mono hv h3, h4, EntriesR.plain hp h5⟩
/-- The memory with one map. -/
def hM (es : List (AV × AV × Nat)) (c : Nat) : H := ⟨1, .n .e (.map es c) .e, 0⟩
theorem hM_get (es : List (AV × AV × Nat)) (c : Nat) : (hM es c).get 0 = .map es c := rfl
theorem hM_dead (es : List (AV × AV × Nat)) (c b : Nat) (hb : b ≠ 0) : (hM es c).get b = .dead := by
  obtain ⟨d, rfl⟩ : ∃ d, b = d + 1 := ⟨b - 1, by omega⟩
  show (Tr.n .e (.map es c) .e).get (d + 1) = _
  rw [Tr.get_succ]; split <;> rfl
theorem Tri.viewMap {f : FuncId} {x v : AV} {es es' : List (AV × AV × Nat)} {c c' : Nat} {h' : H} (T : Tri P f [.leaf (.map 0), x] (hM es c) (v, h')) (hx : x.plain = true) (hv : v.plain = true) (hp : plainE es = true)
    (hg : h'.get 0 = .map es' c') (hp' : plainE es' = true) {h : H} {b : Nat} (hb : h.get b = .map es c) : Tri P f [.leaf (.map b), x] h (v, h.set b (.map es' c')) :=
  ⟨T.can, fun ι w vs hR hV => by
    obtain ⟨B, o, s, eb, hblk⟩ := hR.blk b (by rw [hb]; intro h; cases h)
    rw [hb] at hblk
    have hown : (h.get b).own := by rw [hb]; trivial
    let ι0 : Inj := fun a => if a = 0 then some (B, o, s) else none
    have i0 : ι0 0 = some (B, o, s) := rfl
    have in0 : ∀ a, a ≠ 0 → ι0 a = none := fun a ha => if_neg ha
    have r0 : Rel ι0 (hM es c) w := {
      fresh := fun a y ea => by
        by_cases ha : a = 0
        · subst ha; exact Nat.zero_lt_one
        · rw [in0 a ha] at ea; cases ea
      lt := fun a C q z ea => by
        by_cases ha : a = 0
        · subst ha; rw [i0] at ea; cases ea; exact hR.lt _ _ _ _ eb
        · rw [in0 a ha] at ea; cases ea
      inj := fun a d C o1 s1 o2 s2 _ _ ea ed => by
        have h1 : a = 0 := Decidable.byContradiction fun ha => by rw [in0 a ha] at ea; cases ea
        have h2 : d = 0 := Decidable.byContradiction fun ha => by rw [in0 d ha] at ed; cases ed
        omega
      blk := fun a ha => by
        by_cases h0 : a = 0
        · subst h0
          obtain ⟨ms, e1, e2⟩ := hblk
          exact ⟨B, o, s, rfl, ms, e1, EntriesR.plain hp e2⟩
        · exact absurd (hM_dead es c a h0) ha
      pin := fun a r' e' hp => by
        by_cases h0 : a = 0
        · subst h0; exact absurd hp (Blk.map_free _ _)
        · rw [hM_dead es c a h0] at hp; exact absurd hp (Blk.dead_free _ _) }
    have hV0 : VL ι0 [.leaf (.map 0), x] vs := by
      cases hV with | cons h1 h2 =>
      cases h2 with | cons h3 h4 =>
      cases h4
      refine .cons ?_ (.cons (plain_mono hx h3) .nil)
      obtain ⟨B1, o1, s1, e1, e2⟩ := h1
      rw [eb] at e1; cases e1
      exact ⟨B, o, s, rfl, e2⟩
    refine (T.run ι0 w vs r0 hV0).mono fun e w' ⟨y, ι', he, hy, hE, hR'⟩ => ?_
    have hkeep : ∀ k, k < w.heap.size → k ≠ B → w'.heap[k]? = w.heap[k]? := fun k hk hkB => hE.block k hk fun ⟨a, q, z, ea, _⟩ => by
      by_cases ha : a = 0
      · subst ha; rw [i0] at ea; cases ea; exact hkB rfl
      · rw [in0 a ha] at ea; cases ea
    obtain ⟨B1, o1, s1, e1, hb1⟩ := hR'.blk 0 (by rw [show h'.get 0 = _ from hg]; intro h; cases h)
    rw [hE.le 0 _ i0] at e1; cases e1
    rw [show h'.get 0 = _ from hg] at hb1
    obtain ⟨ms, e2, e3⟩ := hb1
    exact ⟨y, ι, he, plain_mono hv hy, Ext.change2 hR b B o s _ eb hown hE.os hE.tape hE.output hE.size hkeep, Rel.change2 hR b B o s _ eb hown ⟨ms, e2, EntriesR.plain hp' e3⟩ hE.size hkeep⟩⟩
end
end Go.AI
