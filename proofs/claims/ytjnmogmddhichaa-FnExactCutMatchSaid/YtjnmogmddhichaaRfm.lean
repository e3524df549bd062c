/- A range over slices.Backward, as the evaluator reads it. -/
import Derived.Test.YtjnmogmddhichaaRf
import Derived.Test.YtjnmogmddhichaaBk
import Derived.KernelRfl
namespace Go.AI
noncomputable section
open Go Go.RowKit
set_option linter.unusedVariables false
set_option linter.unusedSimpArgs false

/-- Two worlds that differ in a loop's two blocks alone. -/
structure Oth (D : Nat) (A C : World) : Prop where
  os : C.os = A.os
  tape : C.tape = A.tape
  output : C.output = A.output
  size : A.heap.size ≤ C.heap.size
  block : ∀ k, k ≠ D → k ≠ D + 1 → k < A.heap.size → C.heap[k]? = A.heap[k]?
def Rng (D : Nat) (ι : Inj) : Prop := ∀ b B o s, ι b = some (B, o, s) → B < D ∨ D + 2 ≤ B
theorem Oth.put (D : Nat) (A : World) (k : Nat) (h : k = D ∨ k = D + 1) (o : Obj) : Oth D A (A.putObj k o) :=
  ⟨rfl, rfl, rfl, by simp, fun j h1 h2 _ => World.putObj_heap_other (by rcases h with rfl | rfl <;> omega)⟩
theorem Rel.oth {D : Nat} {ι : Inj} {h : H} {A C : World} (r : Rel ι h A) (g : Rng D ι) (o : Oth D A C) : Rel ι h C where
  fresh := r.fresh
  lt := fun b B o' s e => Nat.lt_of_lt_of_le (r.lt b B o' s e) o.size
  inj := r.inj
  blk := fun b hb => by
    obtain ⟨B, o', s, e, hR⟩ := r.blk b hb
    have := g b B o' s e
    exact ⟨B, o', s, e, by rw [o.block B (by omega) (by omega) (r.lt _ _ _ _ e)]; exact hR⟩
  pin := fun b r' e' hp => by
    obtain ⟨⟨s, e⟩, hc⟩ := r.pin b r' e' hp
    have := g b _ _ s e
    exact ⟨⟨s, e⟩, by rw [cell_of_heap (o.block _ (by omega) (by omega) (r.lt _ _ _ _ e))]; exact hc⟩
theorem Ext.oth {D : Nat} {ι ι' : Inj} {h h' : H} {w A C : World} (hr : Rel ι h w) (hD : w.heap.size ≤ D) (e : Ext ι h w ι' h' A) (o : Oth D A C) : Ext ι h w ι' h' C where
  le := e.le
  os := o.os.trans e.os
  tape := o.tape.trans e.tape
  output := o.output.trans e.output
  size := Nat.le_trans e.size o.size
  block := fun B hB hn => (o.block B (by omega) (by omega) (Nat.lt_of_lt_of_le hB e.size)).trans (e.block B hB hn)
  own := e.own
  num := e.num
  lo := e.lo
  keep := e.keep
  keepW := fun b B o' s h1 h2 h3 h4 => by
    have := hr.lt _ _ _ _ h4
    exact (o.block B (by omega) (by omega) (Nat.lt_of_lt_of_le this e.size)).trans (e.keepW b B o' s h1 h2 h3 h4)
  dom := e.dom

/-- The slice that the iterator goes over is this one. -/
def slEq (b o n : Nat) (x : AV) : Bool := x.onSl false (fun _ => false) (fun b' o' n' c' => bc (Nat.ble n' c') (bc (Nat.beq b b') (bc (Nat.beq o o') (Nat.beq n n') false) false) false) (fun b' o' n' _ => bc (Nat.beq b b') (bc (Nat.beq o o') (Nat.beq n n') false) false)
theorem slEq_val {b o n : Nat} {x : AV} {ι : Inj} {v : Value} (h : slEq b o n x = true) (hv : VR ι x v) : (∃ A c, v = .slice (some A) n c) ∧ (1 ≤ n → ∃ B base sz c, ι b = some (B, base, sz) ∧ v = .slice (some ⟨B, base + o, none⟩) n c ∧ n ≤ c) := by
  have key : ∀ b' o' n' : Nat, bc (Nat.beq b b') (bc (Nat.beq o o') (Nat.beq n n') false) false = true → b = b' ∧ o = o' ∧ n = n' := fun b' o' n' h => by
    cases h1 : Nat.beq b b' with
    | false => rw [h1] at h; cases h
    | true =>
      rw [h1, bc_true] at h
      cases h2 : Nat.beq o o' with
      | false => rw [h2] at h; cases h
      | true => rw [h2, bc_true] at h; exact ⟨Nat.eq_of_beq_eq_true h1, Nat.eq_of_beq_eq_true h2, Nat.eq_of_beq_eq_true h⟩
  cases x using AV.casesE <;> (try (cases h; done))
  case sl b' o' n' c =>
    have h : bc (Nat.ble n' c) (bc (Nat.beq b b') (bc (Nat.beq o o') (Nat.beq n n') false) false) false = true := h
    cases hb : Nat.ble n' c with
    | false => rw [hb] at h; cases h
    | true =>
      rw [hb, bc_true] at h
      have hb := Nat.le_of_ble_eq_true hb
      obtain ⟨rfl, rfl, rfl⟩ := key b' o' n' h
      obtain ⟨B, base, sz, e1, e2⟩ := hv.sl
      exact ⟨⟨_, _, e2⟩, fun _ => ⟨B, base, sz, c, e1, e2, hb⟩⟩
  case osl b' o' n' es =>
    obtain ⟨rfl, rfl, rfl⟩ := key b' o' n' h
    refine ⟨?_, fun hn => ?_⟩
    · obtain ⟨A, c, e, _⟩ := hv.osl
      exact ⟨A, c, e⟩
    · obtain ⟨B, base, sz, c, e1, e2, e3, _⟩ := hv.osl1 hn
      exact ⟨B, base, sz, c, e1, e2, e3⟩

def rfE (P : Program) (Γ : Env) (N F : Nat) (asg bdy : Code) (aA aB : An) (p1 p2 bx b o n : Nat) (st : St) : Nat → H → (H → Option R) → Option R :=
  @Nat.rec (fun _ => H → (H → Option R) → Option R) (fun h k => withCells h bx fun _ lb => onSome (nthO lb 0) fun s => bc (slEq b o n s) (k h) none)
    (fun m rec h k => withCells h bx fun _ lb => onSome (nthO lb 0) fun s => bc (slEq b o n s) (withCells h b fun _ l => onSome (nthO l (Nat.add o m)) fun x =>
      den P Γ N F asg aA ((p2, x) :: (p1, .int 3 (.ofNat m)) :: st) h (fun st1 h1 => den P Γ N F bdy aB st1 h1 (fun _ h2 => rec h2 k) (fun _ _ _ => none) (fun _ _ => none)) (fun _ _ _ => none) (fun _ _ => none)) none)
/-- How a round goes on. -/
def rnd (D : Nat) (I : World → Prop) (W : World) : Exit → Act → World → Prop
  | .normal, _, W' => W.heap.size ≤ W'.heap.size ∧ W'.heap[D]? = W.heap[D]? ∧ W'.heap[D + 1]? = W.heap[D + 1]? ∧ I W'
  | _, _, _ => False

theorem wpIn_range_back {g : Operand} {ps : Array Tmp} {assign body : Code} {Q : Exit → Act → World → Prop} {a : Act} {w : World} {BX OB n : Nat}
    (hg : a.eval g = .func (.func 50) #[] #[.pointer (some ⟨BX, OB, none⟩)]) (hps : ps.size = 2) (hn : n < 1000000)
    (I : Nat → World → Prop) (hI : ∀ i A C, I i A → Oth w.heap.size A C → I i C) (h0 : I 0 w)
    (hbox : ∀ i W, I i W → (∃ A c, W.cell? ⟨BX, OB, none⟩ = some (.slice (some A) n c)))
    (B q : Nat) (hbox1 : 1 ≤ n → ∀ i W, I i W → ∃ c, n ≤ c ∧ W.cell? ⟨BX, OB, none⟩ = some (.slice (some ⟨B, q, none⟩) n c))
    (hround : ∀ (l i : Nat) (W : World), i < n → w.heap.size + 2 ≤ W.heap.size → I i W → ∃ v, W.cell? ⟨B, q + (n - 1 - i), none⟩ = some v ∧ assign.wpIn (FR l) 0 Bk.P0 (Exit.then (fun a1 W1 => W.heap.size ≤ W1.heap.size ∧ W1.heap[w.heap.size]? = W.heap[w.heap.size]? ∧ W1.heap[w.heap.size + 1]? = W.heap[w.heap.size + 1]? ∧ ∀ W2, Oth w.heap.size W1 W2 → body.wpIn (FR l) 0 Bk.P0 (rnd w.heap.size (I (i + 1)) W2) a1 W2) (fun _ _ _ => False))
      { tmps := (ps.zip #[.int .i64 ((n - 1 - i : Nat) : Int), v]).foldl (fun t (p, v) => t.setIfInBounds p v) a.tmps, defers := [] } W)
    (hdone : ∀ (D : Nat) (W : World), w.heap.size = D → D + 2 ≤ W.heap.size → I n W → W.heap[D]? = some (.deferred (some [])) → Q .normal { a with defers := { target := .collected D, args := #[] } :: a.defers } W) :
    (Code.rangeFunc g ps assign body).wpIn Fence.wide 0 Bk.P0 Q a w := by
  apply wpIn_rangeFunc
  intro fn hfn
  generalize hD : w.heap.size = D at *
  let lp : LoopState → Option Code → Obj := fun st pe => .loop { state := st, pending := pe, fn, tmps := a.tmps, params := ps, assign, body, defers := D }
  let dd : Obj := .deferred (some [])
  let W1 : World := (w.alloc dd).alloc (lp .ready none)
  have s1 : W1.heap.size = D + 2 := by show ((w.alloc dd).alloc _).heap.size = _; simp [hD]
  have bW1 : Below D w W1 := ((Below.refl D w).alloc (by omega) _).alloc (by simp; omega) _
  have oW1 : Oth D w W1 := ⟨bW1.os, bW1.tape, bW1.output, bW1.size, fun k h1 h2 h3 => bW1.block k (by omega)⟩
  have atD : W1.heap[D]? = some dd := by
    rw [show W1.heap[D]? = (w.alloc dd).heap[D]? from Below.heap_alloc _ _ _ (by simp [hD]), ← hD]; exact World.alloc_heap_new w dd
  have atL : W1.heap[D + 1]? = some (lp .ready none) := by
    have h := World.alloc_heap_new (w.alloc dd) (lp .ready none)
    rwa [World.size_alloc, hD] at h
  refine ⟨D + 1, [{ target := .collected D, args := #[] }], W1, { target := .fn (.func 50) #[.pointer (some ⟨BX, OB, none⟩)], args := #[.func (.yield (D + 1)) #[] #[]] }, W1, 50, #[.func (.yield (D + 1)) #[] #[], .pointer (some ⟨BX, OB, none⟩)], W1, ?_, ?_, ?_, ?_, ?_, ?_⟩
  · have h := run_enterLoop_outer (P := Bk.P0) (w := w) fn a.tmps ps assign body
    rw [hD] at h; exact h
  · simp only [resolve, hg]; simp [go_sem]
  · intro f' _; trivial
  · have eg := Go.Proofs.enters_of (P := Bk.P0) Go.Proofs.Try.func50 (by kernel_rfl) rfl
    simp [invoke, go_sem, eg]
  · intro h; cases h
  -- the rounds
  have fin : CallsIn Fence.wide 0 Bk.P0 50 #[.func (.yield (D + 1)) #[] #[], .pointer (some ⟨BX, OB, none⟩)] W1 fun e W' => (∃ v, e = .returned v) ∧ (I n W' ∧ D + 2 ≤ W'.heap.size ∧ W'.heap[D + 1]? = some (lp .ready none) ∧ W'.heap[D]? = some dd) := by
    rcases Nat.eq_zero_or_pos n with hz | hpos
    · subst hz
      obtain ⟨A, c, hc⟩ := hbox 0 W1 (hI _ _ _ h0 oW1)
      refine (Bk.back_zero hc).mono ?_
      rintro e W' ⟨hv, rfl⟩
      exact ⟨hv, hI _ _ _ h0 oW1, by omega, atL, atD⟩
    · refine Bk.back_calls (l := D + 1) hn (fun i W => I i W ∧ D + 2 ≤ W.heap.size ∧ W.heap[D + 1]? = some (lp .ready none) ∧ W.heap[D]? = some dd) (fun i W1 h => hbox1 hpos i W1 h.1) ?_ ⟨hI _ _ _ h0 oW1, by omega, atL, atD⟩
      rintro i W hin ⟨h1, hsz, h2, h3⟩
      obtain ⟨v, hv, hr⟩ := hround (D + 1) i W hin hsz h1
      refine ⟨v, hv, ?_⟩
      have hlt : D + 1 < W.heap.size := by omega
      refine ⟨fn, _, assign, body, run_yield h2 (by simp [hps]), roundIn_of_wpIn hfn (wpIn_mono hr ?_)⟩
      rintro e a1 U1 hp
      cases e with
      | normal =>
        obtain ⟨u1, u2, u3, hb⟩ := hp
        have g2 : U1.heap[D + 1]? = some (lp .ready none) := u3.trans h2
        have hlt1 : D + 1 < U1.heap.size := by omega
        refine ⟨U1.putObj (D + 1) (lp .busy none), run_beginRound g2 rfl, wpIn_mono (hb _ (Oth.put D U1 (D + 1) (.inr rfl) _)) ?_⟩
        rintro e a3 W3 hp
        cases e with
        | normal =>
          obtain ⟨k1, k2, k3, k4⟩ := hp
          have e1 : W3.heap[D + 1]? = some (lp .busy none) := k3.trans (World.putObj_heap_same hlt1)
          have e2 : W3.heap[D]? = some dd := k2.trans ((World.putObj_heap_other (by omega)).trans (u2.trans h3))
          have hlt3 : D + 1 < W3.heap.size := (Array.getElem?_eq_some_iff.1 e1).1
          have r1 : (Instr.endRound (D + 1) none).run Bk.P0 W3 = .ok (.bool true) (W3.putObj (D + 1) (lp .ready none)) := run_endRound none e1
          exact ⟨_, _, r1, rfl, hI _ _ _ k4 (Oth.put D W3 (D + 1) (.inr rfl) _), by rw [World.putObj_size]; omega, World.putObj_heap_same hlt3, (World.putObj_heap_other (by omega)).trans e2⟩
        | _ => exact hp.elim
      | _ => exact hp.elim
  refine fin.mono ?_
  rintro e W2 ⟨⟨v, rfl⟩, h1, hsz, h2, h3⟩
  exact ⟨none, _, run_endLoop h2 (by simp), hdone _ _ rfl (by rw [World.putObj_size]; exact hsz) (hI _ _ _ h1 (Oth.put D W2 (D + 1) (.inr rfl) _)) ((World.putObj_heap_other (by omega)).trans h3)⟩
end
end Go.AI
