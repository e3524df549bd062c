/- The iterator primes, CodePrime and CodePlace: what they tell. -/
import Derived.Test.YtlcmolcajoeagaaProg
import Derived.RangeFuncNested
import Derived.RangeFuncBound
import Derived.RangeFuncCalls
import Derived.RangeFuncLeaves
import Derived.Shelf.Abstract
import Derived.Shelf.RegionOpen
import Derived.WalkKit
import Derived.OwnWalkIn
import Derived.TacticsInMore
import Derived.LoopNIn
import Derived.LoopIn
import Derived.Test.YtlcmolcajoeagaaPr1
import Derived.KernelRfl

/- The iterator primes hands out the sieve's list. -/
namespace Go.AI
open Go Go.RowKit Go.AI Go.Shelf Go.Proofs
attribute [local go_sem] Oper.semAt_some
set_option linter.unusedVariables false
set_option linter.unusedSimpArgs false
set_option maxRecDepth 100000
noncomputable section
noncomputable abbrev P0 := Go.Proofs.Try.prog

/-- Block B is the row of marks M. -/
structure Marks (W : World) (B M : Nat) : Prop where
  ex : ∃ c : Array Value, W.heap[B]? = some (.cells c 100 (0, 0)) ∧ ∀ i, i < 5001 → c[i]? = some (.bool (M.testBit i))

theorem Marks.lt {W : World} {B M : Nat} (h : Marks W B M) : B < W.heap.size := by
  obtain ⟨c, e, _⟩ := h.ex; exact (Array.getElem?_eq_some_iff.1 e).1
theorem Marks.of {W W' : World} {B M : Nat} (h : Marks W B M) (e : W'.heap[B]? = W.heap[B]?) : Marks W' B M := by
  obtain ⟨c, e1, e2⟩ := h.ex; exact ⟨c, e.trans e1, e2⟩
theorem Marks.cell {W : World} {B M : Nat} (h : Marks W B M) {i : Nat} (hi : i < 5001) : W.cell? ⟨B, i, none⟩ = some (.bool (M.testBit i)) := by
  obtain ⟨c, e1, e2⟩ := h.ex
  rw [cell_row e1]; exact e2 i hi
theorem Marks.frozen {W : World} {B M : Nat} (h : Marks W B M) (i : Nat) : W.frozen? ⟨B, i, none⟩ = false := by
  obtain ⟨c, e1, e2⟩ := h.ex
  rw [frozen_row e1]; simp
theorem Marks.set {W : World} {B M : Nat} (h : Marks W B M) (k : Nat) : Marks (W.setCell ⟨B, k, none⟩ (.bool true)) B (M ||| (1 <<< k)) := by
  obtain ⟨c, e1, e2⟩ := h.ex
  refine ⟨_, setCell_row e1 k _, fun i hi => ?_⟩
  rw [Array.getElem?_setIfInBounds, testBit_set]
  have := e2 i hi
  have hlt := (Array.getElem?_eq_some_iff.1 this).1
  by_cases hk : k = i
  · subst hk; simp [hlt]
  · rw [if_neg hk, this]; simp [show ¬ i = k from fun e => hk e.symm]

def isF (v : Value) : Bool := match v with | .bool false => true | _ => false
theorem isF_eq {v : Value} (h : isF v = true) : v = .bool false := by
  unfold isF at h; split at h
  · rfl
  · cases h
def allF (l : List Value) : Nat → Bool := @List.rec Value (fun _ => Nat → Bool) (fun n => Nat.beq n 0) (fun v _ ih n => bc (Nat.beq n 0) false (bc (isF v) (ih (Nat.sub n 1)) false)) l
theorem allF_spec : ∀ (l : List Value) (n : Nat), allF l n = true → ∀ i, i < n → l[i]? = some (.bool false)
  | [], n, h, i, hi => by
    have h : Nat.beq n 0 = true := h
    have := Nat.eq_of_beq_eq_true h; omega
  | v :: l, n, h, i, hi => by
    have h : bc (Nat.beq n 0) false (bc (isF v) (allF l (Nat.sub n 1)) false) = true := h
    cases hb : Nat.beq n 0 with
    | true => rw [hb] at h; cases h
    | false =>
      rw [hb, bc_false] at h
      cases hv : isF v with
      | false => rw [hv] at h; cases h
      | true =>
        rw [hv, bc_true] at h
        cases i with
        | zero => simp [isF_eq hv]
        | succ i =>
          have h2 : i < Nat.sub n 1 := by show i < n - 1; omega
          simpa using allF_spec l (Nat.sub n 1) h i h2
noncomputable def zeros : Array Value := match Try.t100.zero with | some (.agg z) => z | _ => #[]
theorem zeros_eq : Try.t100.zero = some (.agg zeros) := rfl
theorem zeros_all : allF zeros.toList 5001 = true := by kernel_rfl
theorem zeros81 : ∃ Z : Array Value, (∀ w, (zeroValue 100).run P0 w = .ok (.agg Z) w) ∧ ∀ i, i < 5001 → Z[i]? = some (.bool (Nat.testBit 0 i)) := by
  refine ⟨zeros, fun w => ?_, fun i hi => ?_⟩
  · have h : P0.info? 100 = some Try.t100 := Try.type100
    simp [zeroValue, typeInfo, h, zeros_eq]
  · rw [Nat.zero_testBit, ← Array.getElem?_toList]; exact allF_spec _ _ zeros_all i hi

theorem wpListIn_alloc {P : Program} {ops : Array Oper} {rest : List Oper} {o : Oper} {a : Act} {w : World} {Q : Exit → Act → World → Prop} {t : TypeId} {Z : Array Value} (ho : o.op = .alloc t) (hg : o.guard = none)
    (hz : ∀ w, (zeroValue t).run P w = .ok (.agg Z) w) (h : wpListIn Fence.wide 0 P ops Q rest (a.put o.dst (.pointer (some ⟨w.heap.size, 0, none⟩))) (w.alloc (.cells Z t (0, 0)))) : wpListIn Fence.wide 0 P ops Q (o :: rest) a w := by
  refine wpListIn_plain hg fun K hK => ⟨fun f hf => trivial, ?_⟩
  have e : (execOp a.eval o).run P w = .ok (.value (.pointer (some ⟨w.heap.size, 0, none⟩))) (w.alloc (.cells Z t (0, 0))) := by
    simp [execOp, ho, Instr.alloc, newVar, newRow, hz, Value.cells]
  show Oper.uponIn Fence.wide 0 P o a K Q ((execOp a.eval o).run P w)
  rw [e]
  exact hK _ _ h

set_option maxHeartbeats 4000000 in
theorem primes_hands : Hands P0 77 (fun x : Nat × Nat => #[.int .i64 (x.1 : Int), .int .i64 (x.2 : Int)]) primesL := by
  intro l J Jx W hJ hJx hY h0
  refine callsIn_of_wp Try.func77 rfl trivial ?_ rfl
  simp only [Try.ntmps77, List.size_toArray, List.length_cons, List.length_nil, Nat.reduceAdd, Nat.reduceSub, Array.replicate_succ, Array.replicate_zero, List.push_toArray, List.append_toArray, List.nil_append, List.cons_append]
  obtain ⟨Z, hZ, hZ2⟩ := zeros81
  refine wpIn_seq (wpIn_region_lit (l := [_]) (wpListIn_alloc rfl rfl hZ ?_))
  obtain ⟨W1, hW1⟩ : ∃ W1, W.alloc (.cells Z 100 (0, 0)) = W1 := ⟨_, rfl⟩
  obtain ⟨B, hB⟩ : ∃ B, W.heap.size = B := ⟨_, rfl⟩
  have m0 : Marks W1 B 0 := ⟨Z, by rw [← hW1, ← hB]; exact World.alloc_heap_new W _, hZ2⟩
  have b0 : J 0 W1 := by rw [← hW1]; exact hJ _ _ _ h0 ((Below.refl _ W).alloc (Nat.le_refl _) _)
  rw [hW1, hB]
  rw [hB] at hJ hJx hY
  clear hW1 hZ hZ2 h0
  gi_wp2
  gi_loopw [3, 4] (fun p n wr => ∃ (pn nn i M : Nat), p = .int .i64 (pn : Int) ∧ n = .int .i64 (nn : Int) ∧ 2 ≤ nn ∧ nn ≤ 5001 ∧ pn ≤ nn ∧ Marks wr B M ∧ J i wr ∧ i ≤ primesL.length ∧ primesL.drop i = sieve (5001 - nn) nn pn M)
    (fun _ n _ => 5001 - (intOf n).toNat)
  case atStart => exact ⟨0, 2, 0, 0, rfl, rfl, by omega, by omega, by omega, m0, b0, Nat.zero_le _, rfl⟩
  case round =>
    obtain ⟨pn, nn, i, M, rfl, rfl, h2, h51, hpn, hM, hJi, hil, hL⟩ := hrel
    have hcell : nn < 5001 → wr.cell? ⟨B, nn, none⟩ = some (.bool (M.testBit nn)) := fun h => hM.cell h
    have hfro := hM.frozen nn
    by_cases h5 : nn < 5001
    · have hc := hcell h5
      rw [show 5001 - nn = (5000 - nn) + 1 by omega, sieve_in _ _ _ _ (by omega)] at hL
      by_cases hbit : M.testBit nn = true
      · rw [if_pos hbit] at hL
        rw [hbit] at hc
        gi_wp2
        exact ⟨⟨pn, nn + 1, i, M, rfl, by simp, by omega, by omega, by omega, hM, hJi, hil, by rw [hL, show 5001 - (nn + 1) = 5000 - nn by omega]⟩, by simp [intOf]; omega⟩
      · rw [if_neg hbit] at hL
        have hbit' : M.testBit nn = false := by simpa using hbit
        rw [hbit'] at hc
        have hx : primesL[i]? = some (pn + 1, nn) := by rw [← List.head?_drop, hL]; rfl
        have hL' : primesL.drop (i + 1) = sieve (5000 - nn) (nn + 1) (pn + 1) (cross nn 5001 (nn * nn) M) := by rw [← List.tail_drop, hL]; rfl
        have hi : i < primesL.length := (List.getElem?_eq_some_iff.1 hx).1
        obtain ⟨fn, tmps, assign, body, hy, hR⟩ := hY i (pn + 1, nn) wr hx hJi
        have hy' : (Instr.yield l #[Value.int .i64 ((pn : Int) + 1), Value.int .i64 (nn : Int)]).run P0 wr = .ok (.round l fn tmps assign body) wr := hy
        clear hy
        gi_wp2
        refine ⟨rfl, hR.mono ?_⟩
        rintro e W' (⟨rfl, hJ3, hk3⟩ | ⟨rfl, hJx3⟩)
        · have hM3 : Marks W' B M := hM.of (hk3.block B (Nat.le_refl _) hM.lt)
          have hb0 : nn * nn ≤ 5001 * 5001 := Nat.mul_le_mul h51 h51
          obtain ⟨q, hq⟩ : ∃ q, nn * nn = q := ⟨_, rfl⟩
          have hqq : (nn : Int) * (nn : Int) = (q : Int) := by rw [← hq]; simp
          rw [hq] at hb0 hL'
          have hmul : IntKind.i64.wrap ((nn : Int) * (nn : Int)) = (q : Int) := by rw [hqq]; exact wrap_i64 _ (by omega) (by omega)
          clear hL hcell hfro hc hJi hM hk3 hR hy' hqq hq
          gi_wp2
          gi_loopw [5] (fun k wr2 => ∃ (kn M2 : Nat), k = .int .i64 (kn : Int) ∧ kn ≤ 30000000 ∧ Marks wr2 B M2 ∧ J (i + 1) wr2 ∧ cross nn (5001 - kn) kn M2 = cross nn 5001 q M)
            (fun k _ => 5001 - (intOf k).toNat)
          case atStart => exact ⟨q, M, rfl, by omega, hM3, hJ3, cross_fuel (by omega) _ _ _ _ (by omega) (by omega)⟩
          case round =>
            obtain ⟨kn, M2, rfl, hkb, hM4, hJ4, hC⟩ := hrel
            have hcell := fun h => hM4.cell (i := kn) h
            have hfro := hM4.frozen kn
            by_cases hk : kn < 5001
            · have hc := hcell hk
              rw [show 5001 - kn = (5000 - kn) + 1 by omega, cross_succ, if_pos (by omega)] at hC
              clear hcell
              gi_wp2
              refine ⟨⟨kn + nn, M2 ||| (1 <<< kn), by simp, by omega, hM4.set kn, hJ _ _ _ hJ4 ((Below.refl _ _).setCell (p := ⟨B, kn, none⟩) (Nat.le_refl _) _), ?_⟩, by simp [intOf]; omega⟩
              rw [← hC]; exact cross_fuel (by omega) _ _ _ _ (by omega) (by omega)
            · rw [cross_over _ _ _ _ (by omega)] at hC
              clear hcell
              gi_wp2
              exact ⟨⟨pn + 1, nn + 1, i + 1, M2, by simp, by simp, by omega, by omega, by omega, hM4, hJ4, hi, by rw [hL', hC, show 5001 - (nn + 1) = 5000 - nn by omega]⟩, by simp [intOf]; omega⟩
        · gi_wp2
          refine bodyPost_ret (results_none rfl _ _ _) rfl ?_
          exact ⟨⟨_, rfl⟩, .inr ⟨i, hi, hJx3⟩⟩
    · gi_wp2
      go_end0
      rw [sieve_over _ _ _ _ (by omega)] at hL
      have : primesL.length ≤ i := List.drop_eq_nil_iff.1 hL
      obtain rfl : i = primesL.length := by omega
      exact ⟨⟨_, rfl⟩, .inl hJi⟩
end
end Go.AI

/- CodePrime and CodePlace: what they tell of every number. -/
namespace Go.AI
open Go Go.RowKit Go.AI Go.Shelf Go.Proofs
attribute [local go_sem] Oper.semAt_some
set_option linter.unusedVariables false
set_option linter.unusedSimpArgs false
set_option maxRecDepth 100000
noncomputable section

/-- A box: a cell of its own that may be written. -/
structure Bx (W : World) (b : Nat) (v : Value) : Prop where
  cell : W.cell? ⟨b, 0, none⟩ = some v
  free : W.frozen? ⟨b, 0, none⟩ = false
theorem Bx.of {W W' : World} {b : Nat} {v : Value} (h : Bx W b v) {B : Nat} (hb : b < B) (k : Below B W W') : Bx W' b v := ⟨(k.cell (p := ⟨b, 0, none⟩) hb).trans h.cell, (k.frozen (p := ⟨b, 0, none⟩) hb).trans h.free⟩
theorem Bx.new (W : World) (v : Value) (t : TypeId) : Bx (W.alloc (.cells #[v] t (0, 0))) W.heap.size v := by
  have h := World.alloc_heap_new W (.cells #[v] t (0, 0))
  exact ⟨by rw [cell_row h]; rfl, by rw [frozen_row h]; rfl⟩
theorem Bx.set {W : World} {b : Nat} {v : Value} (h : Bx W b v) (u : Value) : Bx (W.setCell ⟨b, 0, none⟩ u) b u :=
  ⟨World.cell?_setCell_same' _ _ _ (by rw [h.cell]; rfl), by rw [World.frozen?_setCell]; exact h.free⟩
theorem Bx.other {W : World} {b c : Nat} {v : Value} (h : Bx W b v) (hc : b ≠ c) (u : Value) : Bx (W.setCell ⟨c, 0, none⟩ u) b v := by
  have e : (W.setCell ⟨c, 0, none⟩ u).heap[b]? = W.heap[b]? := Below.heap_setCell W ⟨c, 0, none⟩ u b hc
  exact ⟨(World.cell?_of_block (w := W) (a := ⟨b, 0, none⟩) e).trans h.cell, by rw [World.frozen?_setCell]; exact h.free⟩
theorem Bx.putObj {W : World} {b : Nat} {v : Value} (h : Bx W b v) {D : Nat} (o : Obj) (hD : b ≠ D) : Bx (W.putObj D o) b v := by
  have e : (W.putObj D o).heap[b]? = W.heap[b]? := World.putObj_heap_other hD
  exact ⟨(World.cell?_of_block (w := W) (a := ⟨b, 0, none⟩) e).trans h.cell, (World.frozen?_of_block (w := W) (a := ⟨b, 0, none⟩) e).trans h.free⟩
theorem Bx.alloc {W : World} {b : Nat} {v : Value} (h : Bx W b v) (hb : b < W.heap.size) (o : Obj) : Bx (W.alloc o) b v := h.of hb (((Below.refl _ W).alloc (Nat.le_refl _) o))

/-- What is told of a pair that was looked for. -/
def told (f : Nat × Nat → Nat) (x : Option (Nat × Nat)) : Value := match x with | some x => .tuple #[.int .i64 (f x : Int), .bool true] | none => .tuple #[.int .i64 0, .bool false]

theorem find_at {β : Type} {p : β → Bool} : ∀ {l : List β} {i : Nat} {x : β}, l[i]? = some x → p x = true → (∀ y ∈ l.take i, p y = false) → l.find? p = some x
  | [], i, x, h, _, _ => by simp at h
  | y :: l, 0, x, h, hp, _ => by simp at h; subst h; simp [hp]
  | y :: l, i + 1, x, h, hp, hn => by
    have hy : p y = false := hn y (by simp)
    rw [List.find?_cons, hy]
    exact find_at (by simpa using h) hp (fun z hz => hn z (by simp [hz]))

set_option maxHeartbeats 4000000 in
theorem CodePrime_calls (k : Int) (w : World) : Calls P0 24 #[.int .i64 k] w fun e w' => e = .returned (told (fun x => x.2) (primesL.find? fun x => decide ((x.1 : Int) = k))) ∧ Below w.heap.size w w' := by
  refine (callsIn_wide (n := 0)).1 ?_
  refine callsIn_of_wp_marks Try.func24 rfl trivial ?_ rfl
  simp only [Try.ntmps24, List.size_toArray, List.length_cons, List.length_nil, Nat.reduceAdd, Nat.reduceSub, Array.replicate_succ, Array.replicate_zero, List.push_toArray, List.append_toArray, List.nil_append, List.cons_append]
  gi_wp2
  obtain ⟨n0, hn0⟩ : ∃ n0, w.heap.size = n0 := ⟨_, rfl⟩
  obtain ⟨W0, hW0⟩ : ∃ W0, ((w.alloc (.cells #[.int .i64 k] 3)).alloc (.cells #[.int .i64 0] 3)).alloc (.cells #[.bool false] 4) = W0 := ⟨_, rfl⟩
  have x1 : Bx W0 n0 (.int .i64 k) := by rw [← hW0, ← hn0]; exact ((Bx.new w _ _).alloc (by simp) _).alloc (by simp; omega) _
  have x2 : Bx W0 (n0 + 1) (.int .i64 0) := by
    have := (Bx.new (w.alloc (.cells #[.int .i64 k] 3)) (.int .i64 0) 3).alloc (by simp) (.cells #[.bool false] 4)
    simp only [World.size_alloc, hn0] at this; rw [← hW0]; exact this
  have x3 : Bx W0 (n0 + 2) (.bool false) := by
    have := Bx.new ((w.alloc (.cells #[.int .i64 k] 3)).alloc (.cells #[.int .i64 0] 3)) (.bool false) 4
    simp only [World.size_alloc, hn0] at this; rw [← hW0]; exact this
  have b0 : Below n0 w W0 := by rw [← hW0, ← hn0]; exact (((Below.refl _ w).alloc (Nat.le_refl _) _).alloc (by simp) _).alloc (by simp; omega) _
  have s0 : W0.heap.size = n0 + 3 := by rw [← hW0]; simp [hn0]
  simp only [hn0, hW0]
  refine wpIn_range_list (gf := 77) rfl (enters_of Try.func77 (by kernel_rfl) rfl) primes_hands (fun _ => rfl)
    (fun i W => (∀ y ∈ primesL.take i, decide ((y.1 : Int) = k) = false) ∧ (Bx W n0 (.int .i64 k) ∧ Bx W (n0 + 1) (.int .i64 0) ∧ Bx W (n0 + 2) (.bool false)) ∧ Below n0 w W)
    (fun c i W => c = .ret ∧ (∀ y ∈ primesL.take i, decide ((y.1 : Int) = k) = false) ∧ (∃ x, primesL[i]? = some x ∧ decide ((x.1 : Int) = k) = true ∧ Bx W (n0 + 1) (.int .i64 (x.2 : Int)) ∧ Bx W (n0 + 2) (.bool true)) ∧ Below n0 w W)
    ?_ ?_ ⟨by simp, ⟨x1, x2, x3⟩, b0⟩
    (fun x => { tmps := #[Value.int IntKind.i64 k, Value.pointer (some { block := n0, off := 0 }), Value.pointer (some { block := n0 + 1, off := 0 }), Value.pointer (some { block := n0 + 1 + 1, off := 0 }),
      .int .i64 (x.1 : Int), .int .i64 (x.2 : Int), .int .i64 (x.1 : Int), .int .i64 (x.2 : Int), undef, undef, undef, undef], defers := [] }) ?assign ?body ?done ?stop
  · rintro i A C ⟨h1, ⟨h2, h3, h4⟩, h5⟩ hb
    rw [s0] at hb
    exact ⟨h1, ⟨h2.of (by omega) hb, h3.of (by omega) hb, h4.of (by omega) hb⟩, h5.trans (hb.mono (by omega))⟩
  · rintro c i A C ⟨rfl, h1, ⟨x, h2, h3, h4, h5⟩, h6⟩ hb
    rw [s0] at hb
    exact ⟨rfl, h1, ⟨x, h2, h3, h4.of (by omega) hb, h5.of (by omega) hb⟩, h6.trans (hb.mono (by omega))⟩
  case assign =>
    intro l x W K hK
    gi_wp2
    exact hK
  case body =>
    rintro l i x W hx hsz ⟨h1, ⟨h2, h3, h4⟩, h5⟩
    have c2 := h2.cell
    have c3 := h3.cell
    have c4 := h4.cell
    have f3 := h3.free
    have f4 := h4.free
    have f4' := (h4.other (show n0 + 2 ≠ n0 + 1 by omega) (.int .i64 (x.2 : Int))).free
    gi_wp2
    · rename_i hx2
      refine ⟨(Hi.setCell W (a := ⟨n0 + 1, 0, none⟩) (by show n0 + 1 < W0.heap.size; omega) _).trans (Hi.setCell _ (a := ⟨n0 + 2, 0, none⟩) (by show n0 + 2 < W0.heap.size; omega) _), rfl, h1, ⟨x, hx, by simpa using hx2, (h3.set _).other (by omega) _, (h4.other (by omega) _).set _⟩, ?_⟩
      exact (h5.setCell (p := ⟨n0 + 1, 0, none⟩) (by show n0 ≤ n0 + 1; omega) _).setCell (p := ⟨n0 + 2, 0, none⟩) (by show n0 ≤ n0 + 2; omega) _
    · rename_i hx2
      refine ⟨Hi.refl _ _, fun y hy => ?_, ⟨h2, h3, h4⟩, h5⟩
      rw [List.take_add_one, hx] at hy
      rcases List.mem_append.1 hy with hy | hy
      · exact h1 y hy
      · simp at hy; subst hy; simpa using hx2
  case done =>
    rintro D W hD ⟨h1, ⟨h2, h3, h4⟩, h5⟩ hK
    have c3 := h3.cell
    have c4 := h4.cell
    have f3 := h3.free
    have f4 := h4.free
    gi_wp2
    obtain ⟨W2, hW2⟩ : ∃ W2, ((W.setCell { block := n0 + 1, off := 0 } (Value.int IntKind.i64 0)).setCell { block := n0 + 1 + 1, off := 0 } (Value.bool false)) = W2 := ⟨_, rfl⟩
    have y2 : Bx W2 (n0 + 1) (.int .i64 0) := by rw [← hW2]; exact (h3.set _).other (by omega) _
    have y3 : Bx W2 (n0 + 2) (.bool false) := by rw [← hW2]; exact (h4.other (by omega) _).set _
    have hK2 : W2.heap[D]? = some (Obj.deferred (some [])) := by rw [← hW2]; exact ((KeepsOthers.setCell W _ _).trans (KeepsOthers.setCell _ _ _)).same D _ hK rfl
    have b2 : Below n0 w W2 := by rw [← hW2]; exact (h5.setCell (p := ⟨n0 + 1, 0, none⟩) (by show n0 ≤ n0 + 1; omega) _).setCell (p := ⟨n0 + 2, 0, none⟩) (by show n0 ≤ n0 + 2; omega) _
    rw [hW2]
    refine ⟨by simp, .inl ⟨_, _, rfl, run_takeDeferred hK2, ?_⟩⟩
    have z2 := (y2.putObj (.deferred none) (show n0 + 1 ≠ D by omega)).cell
    have z3 := (y3.putObj (.deferred none) (show n0 + 2 ≠ D by omega)).cell
    refine ⟨.tuple #[.int .i64 0, .bool false], ?_, ?_, ?_⟩
    · simp [results, Try.f24, go_sem, z2, z3]
    · rw [show (primesL.find? fun x => decide ((x.1 : Int) = k)) = none from List.find?_eq_none.2 fun y hy => by rw [h1 y (by rw [List.take_length]; exact hy)]; simp]; rfl
    · exact hn0.symm ▸ b2.trans (below_putObj n0 W2 _ (by omega))
  case stop =>
    rintro D c i W hD hi ⟨rfl, h1, ⟨x, h2, h3, h4, h5⟩, h6⟩ hK
    gi_wp2
    obtain ⟨W2, hW2⟩ : ∃ W2, W = W2 := ⟨_, rfl⟩
    have y2 : Bx W2 (n0 + 1) (.int .i64 (x.2 : Int)) := by rw [← hW2]; exact h4
    have y3 : Bx W2 (n0 + 2) (.bool true) := by rw [← hW2]; exact h5
    have hK2 : W2.heap[D]? = some (Obj.deferred (some [])) := by rw [← hW2]; exact hK
    have b2 : Below n0 w W2 := by rw [← hW2]; exact h6
    rw [hW2]
    refine ⟨by simp, .inl ⟨_, _, rfl, run_takeDeferred hK2, ?_⟩⟩
    have z2 := (y2.putObj (.deferred none) (show n0 + 1 ≠ D by omega)).cell
    have z3 := (y3.putObj (.deferred none) (show n0 + 2 ≠ D by omega)).cell
    refine ⟨.tuple #[.int .i64 (x.2 : Int), .bool true], ?_, ?_, ?_⟩
    · simp [results, Try.f24, go_sem, z2, z3]
    · rw [find_at h2 h3 h1]; rfl
    · exact hn0.symm ▸ b2.trans (below_putObj n0 W2 _ (by omega))
set_option maxHeartbeats 4000000 in
theorem CodePlace_calls (k : Int) (w : World) : Calls P0 26 #[.int .i64 k] w fun e w' => e = .returned (told (fun x => x.1) (primesL.find? fun x => decide ((x.2 : Int) = k))) ∧ Below w.heap.size w w' := by
  refine (callsIn_wide (n := 0)).1 ?_
  refine callsIn_of_wp_marks Try.func26 rfl trivial ?_ rfl
  simp only [Try.ntmps26, List.size_toArray, List.length_cons, List.length_nil, Nat.reduceAdd, Nat.reduceSub, Array.replicate_succ, Array.replicate_zero, List.push_toArray, List.append_toArray, List.nil_append, List.cons_append]
  gi_wp2
  obtain ⟨n0, hn0⟩ : ∃ n0, w.heap.size = n0 := ⟨_, rfl⟩
  obtain ⟨W0, hW0⟩ : ∃ W0, ((w.alloc (.cells #[.int .i64 k] 3)).alloc (.cells #[.int .i64 0] 3)).alloc (.cells #[.bool false] 4) = W0 := ⟨_, rfl⟩
  have x1 : Bx W0 n0 (.int .i64 k) := by rw [← hW0, ← hn0]; exact ((Bx.new w _ _).alloc (by simp) _).alloc (by simp; omega) _
  have x2 : Bx W0 (n0 + 1) (.int .i64 0) := by
    have := (Bx.new (w.alloc (.cells #[.int .i64 k] 3)) (.int .i64 0) 3).alloc (by simp) (.cells #[.bool false] 4)
    simp only [World.size_alloc, hn0] at this; rw [← hW0]; exact this
  have x3 : Bx W0 (n0 + 2) (.bool false) := by
    have := Bx.new ((w.alloc (.cells #[.int .i64 k] 3)).alloc (.cells #[.int .i64 0] 3)) (.bool false) 4
    simp only [World.size_alloc, hn0] at this; rw [← hW0]; exact this
  have b0 : Below n0 w W0 := by rw [← hW0, ← hn0]; exact (((Below.refl _ w).alloc (Nat.le_refl _) _).alloc (by simp) _).alloc (by simp; omega) _
  have s0 : W0.heap.size = n0 + 3 := by rw [← hW0]; simp [hn0]
  simp only [hn0, hW0]
  refine wpIn_range_list (gf := 77) rfl (enters_of Try.func77 (by kernel_rfl) rfl) primes_hands (fun _ => rfl)
    (fun i W => (∀ y ∈ primesL.take i, decide ((y.2 : Int) = k) = false) ∧ (Bx W n0 (.int .i64 k) ∧ Bx W (n0 + 1) (.int .i64 0) ∧ Bx W (n0 + 2) (.bool false)) ∧ Below n0 w W)
    (fun c i W => c = .ret ∧ (∀ y ∈ primesL.take i, decide ((y.2 : Int) = k) = false) ∧ (∃ x, primesL[i]? = some x ∧ decide ((x.2 : Int) = k) = true ∧ Bx W (n0 + 1) (.int .i64 (x.1 : Int)) ∧ Bx W (n0 + 2) (.bool true)) ∧ Below n0 w W)
    ?_ ?_ ⟨by simp, ⟨x1, x2, x3⟩, b0⟩
    (fun x => { tmps := #[Value.int IntKind.i64 k, Value.pointer (some { block := n0, off := 0 }), Value.pointer (some { block := n0 + 1, off := 0 }), Value.pointer (some { block := n0 + 1 + 1, off := 0 }),
      .int .i64 (x.1 : Int), .int .i64 (x.2 : Int), .int .i64 (x.1 : Int), .int .i64 (x.2 : Int), undef, undef, undef, undef], defers := [] }) ?assign ?body ?done ?stop
  · rintro i A C ⟨h1, ⟨h2, h3, h4⟩, h5⟩ hb
    rw [s0] at hb
    exact ⟨h1, ⟨h2.of (by omega) hb, h3.of (by omega) hb, h4.of (by omega) hb⟩, h5.trans (hb.mono (by omega))⟩
  · rintro c i A C ⟨rfl, h1, ⟨x, h2, h3, h4, h5⟩, h6⟩ hb
    rw [s0] at hb
    exact ⟨rfl, h1, ⟨x, h2, h3, h4.of (by omega) hb, h5.of (by omega) hb⟩, h6.trans (hb.mono (by omega))⟩
  case assign =>
    intro l x W K hK
    gi_wp2
    exact hK
  case body =>
    rintro l i x W hx hsz ⟨h1, ⟨h2, h3, h4⟩, h5⟩
    have c2 := h2.cell
    have c3 := h3.cell
    have c4 := h4.cell
    have f3 := h3.free
    have f4 := h4.free
    have f4' := (h4.other (show n0 + 2 ≠ n0 + 1 by omega) (.int .i64 (x.1 : Int))).free
    gi_wp2
    · rename_i hx2
      refine ⟨(Hi.setCell W (a := ⟨n0 + 1, 0, none⟩) (by show n0 + 1 < W0.heap.size; omega) _).trans (Hi.setCell _ (a := ⟨n0 + 2, 0, none⟩) (by show n0 + 2 < W0.heap.size; omega) _), rfl, h1, ⟨x, hx, by simpa using hx2, (h3.set _).other (by omega) _, (h4.other (by omega) _).set _⟩, ?_⟩
      exact (h5.setCell (p := ⟨n0 + 1, 0, none⟩) (by show n0 ≤ n0 + 1; omega) _).setCell (p := ⟨n0 + 2, 0, none⟩) (by show n0 ≤ n0 + 2; omega) _
    · rename_i hx2
      refine ⟨Hi.refl _ _, fun y hy => ?_, ⟨h2, h3, h4⟩, h5⟩
      rw [List.take_add_one, hx] at hy
      rcases List.mem_append.1 hy with hy | hy
      · exact h1 y hy
      · simp at hy; subst hy; simpa using hx2
  case done =>
    rintro D W hD ⟨h1, ⟨h2, h3, h4⟩, h5⟩ hK
    have c3 := h3.cell
    have c4 := h4.cell
    have f3 := h3.free
    have f4 := h4.free
    gi_wp2
    obtain ⟨W2, hW2⟩ : ∃ W2, ((W.setCell { block := n0 + 1, off := 0 } (Value.int IntKind.i64 0)).setCell { block := n0 + 1 + 1, off := 0 } (Value.bool false)) = W2 := ⟨_, rfl⟩
    have y2 : Bx W2 (n0 + 1) (.int .i64 0) := by rw [← hW2]; exact (h3.set _).other (by omega) _
    have y3 : Bx W2 (n0 + 2) (.bool false) := by rw [← hW2]; exact (h4.other (by omega) _).set _
    have hK2 : W2.heap[D]? = some (Obj.deferred (some [])) := by rw [← hW2]; exact ((KeepsOthers.setCell W _ _).trans (KeepsOthers.setCell _ _ _)).same D _ hK rfl
    have b2 : Below n0 w W2 := by rw [← hW2]; exact (h5.setCell (p := ⟨n0 + 1, 0, none⟩) (by show n0 ≤ n0 + 1; omega) _).setCell (p := ⟨n0 + 2, 0, none⟩) (by show n0 ≤ n0 + 2; omega) _
    rw [hW2]
    refine ⟨by simp, .inl ⟨_, _, rfl, run_takeDeferred hK2, ?_⟩⟩
    have z2 := (y2.putObj (.deferred none) (show n0 + 1 ≠ D by omega)).cell
    have z3 := (y3.putObj (.deferred none) (show n0 + 2 ≠ D by omega)).cell
    refine ⟨.tuple #[.int .i64 0, .bool false], ?_, ?_, ?_⟩
    · simp [results, Try.f26, go_sem, z2, z3]
    · rw [show (primesL.find? fun x => decide ((x.2 : Int) = k)) = none from List.find?_eq_none.2 fun y hy => by rw [h1 y (by rw [List.take_length]; exact hy)]; simp]; rfl
    · exact hn0.symm ▸ b2.trans (below_putObj n0 W2 _ (by omega))
  case stop =>
    rintro D c i W hD hi ⟨rfl, h1, ⟨x, h2, h3, h4, h5⟩, h6⟩ hK
    gi_wp2
    obtain ⟨W2, hW2⟩ : ∃ W2, W = W2 := ⟨_, rfl⟩
    have y2 : Bx W2 (n0 + 1) (.int .i64 (x.1 : Int)) := by rw [← hW2]; exact h4
    have y3 : Bx W2 (n0 + 2) (.bool true) := by rw [← hW2]; exact h5
    have hK2 : W2.heap[D]? = some (Obj.deferred (some [])) := by rw [← hW2]; exact hK
    have b2 : Below n0 w W2 := by rw [← hW2]; exact h6
    rw [hW2]
    refine ⟨by simp, .inl ⟨_, _, rfl, run_takeDeferred hK2, ?_⟩⟩
    have z2 := (y2.putObj (.deferred none) (show n0 + 1 ≠ D by omega)).cell
    have z3 := (y3.putObj (.deferred none) (show n0 + 2 ≠ D by omega)).cell
    refine ⟨.tuple #[.int .i64 (x.1 : Int), .bool true], ?_, ?_, ?_⟩
    · simp [results, Try.f26, go_sem, z2, z3]
    · rw [find_at h2 h3 h1]; rfl
    · exact hn0.symm ▸ b2.trans (below_putObj n0 W2 _ (by omega))
end
end Go.AI
