/- codeText: what it tells of a number from 1 to 5000. -/
import Derived.Test.YtlcmolcajoeagaaPr1
import Derived.Test.YtlcmolcajoeagaaProg
import Derived.RangeFuncNested
import Derived.RangeFuncBound
import Derived.RangeFuncCalls
import Derived.RangeFuncLeaves
import Derived.Shelf.Abstract
import Derived.Shelf.RegionOpen
import Derived.WalkKit
import Derived.OwnWalkIn
import Derived.TacticsInMore
import Derived.LoopNIn
import Derived.LoopIn
import Derived.Test.YtlcmolcajoeagaaPr2
import Derived.KernelRfl

/- The text of the tree with a code, as a list of bytes. -/
namespace Go.AI
noncomputable section
set_option linter.unusedVariables false
set_option maxRecDepth 100000

/-- p is taken out of n as often as it goes; t is laid behind each time. -/
def peel {α : Type} (p : Nat) (t : List Nat) (f : Nat) : Nat → List Nat → (Nat → List Nat → α) → α := @Nat.rec (fun _ => Nat → List Nat → (Nat → List Nat → α) → α) (fun n a k => k n a)
  (fun _ r n a k => bc (Nat.beq (Nat.mod n p) 0) (r (Nat.div n p) (a ++ t) k) (k n a)) f
theorem peel_succ {α : Type} (p : Nat) (t : List Nat) (f n : Nat) (a : List Nat) (k : Nat → List Nat → α) : peel p t (f + 1) n a k = bc (Nat.beq (n % p) 0) (peel p t f (n / p) (a ++ t) k) (k n a) := rfl
/-- The primes of a list, one behind the other. -/
def goT (T : Nat → List Nat) (L : List (Nat × Nat)) : Nat → List Nat → List Nat := @List.rec (Nat × Nat) (fun _ => Nat → List Nat → List Nat) (fun _ a => a)
  (fun x _ r n a => peel x.2 (T x.1) 13 n a fun n a => bc (Nat.beq n 1) a (r n a)) L
theorem goT_nil (T : Nat → List Nat) (n : Nat) (a : List Nat) : goT T [] n a = a := rfl
theorem goT_cons (T : Nat → List Nat) (x : Nat × Nat) (L : List (Nat × Nat)) (n : Nat) (a : List Nat) : goT T (x :: L) n a = peel x.2 (T x.1) 13 n a fun n a => bc (Nat.beq n 1) a (goT T L n a) := rfl
/-- The inside of the text. -/
def inT (f : Nat) : Nat → List Nat := @Nat.rec (fun _ => Nat → List Nat) (fun _ => []) (fun _ r n => goT (fun k => 40 :: (r k ++ [41])) primesL n []) f
theorem inT_succ (f n : Nat) : inT (f + 1) n = goT (fun k => 40 :: (inT f k ++ [41])) primesL n [] := rfl
/-- The text. -/
def codT (f n : Nat) : List Nat := 40 :: (inT f n ++ [41])
theorem inT_codT (f n : Nat) : inT (f + 1) n = goT (codT f) primesL n [] := rfl

theorem pl_lt : ∀ (f n p : Nat), p + 1 < n → ∀ x ∈ pl f n p, x.1 < x.2
  | 0, n, p, h, x, hx => by cases hx
  | f + 1, n, p, h, x, hx => by
    rw [pl_succ] at hx
    cases hp : isP n with
    | false => rw [hp, bc_false] at hx; exact pl_lt f (n + 1) p (by omega) x hx
    | true =>
      rw [hp, bc_true] at hx
      rcases List.mem_cons.1 hx with rfl | hx
      · show p + 1 < n; omega
      · exact pl_lt f (n + 1) (p + 1) (by omega) x hx
theorem half_lt {p n f : Nat} (hp : 2 ≤ p) (hn : n < 2 ^ (f + 1)) : n / p < 2 ^ f := by
  have h1 : n / p ≤ n / 2 := Nat.div_le_div_left hp (by omega)
  have h2 : 2 ^ (f + 1) = 2 * 2 ^ f := by rw [Nat.pow_succ, Nat.mul_comm]
  omega
theorem div_pos_of_dvd {p n : Nat} (hp : 2 ≤ p) (hn : 1 ≤ n) (h : n % p = 0) : 1 ≤ n / p ∧ n / p < n ∧ p ≤ n := by
  have hle : p ≤ n := by
    rcases Nat.lt_or_ge n p with h1 | h1
    · rw [Nat.mod_eq_of_lt h1] at h; omega
    · exact h1
  exact ⟨Nat.div_pos hle (by omega), Nat.div_lt_self (by omega) (by omega), hle⟩
end
end Go.AI

/- codeText: what it tells of a number from 1 to 5000. -/
namespace Go.AI
open Go Go.RowKit Go.AI Go.Shelf Go.Proofs
attribute [local go_sem] Oper.semAt_some
set_option linter.unusedVariables false
set_option linter.unusedSimpArgs false
set_option maxRecDepth 100000
noncomputable section
/-- A text of bytes. -/
def bytesOf (l : List Nat) : ByteArray := ⟨(l.map UInt8.ofNat).toArray⟩
theorem bytesOf_append (a b : List Nat) : bytesOf a ++ bytesOf b = bytesOf (a ++ b) := by
  apply ByteArray.ext
  rw [ByteArray.data_append]
  simp [bytesOf]

theorem bytesOf_size (l : List Nat) : (bytesOf l).size = l.length := by
  show (l.map UInt8.ofNat).toArray.size = l.length
  simp
theorem peel_step {p q k la lt n m : Nat} (hp : 2 ≤ p) (hk : k < p) (hm : m = p * q) (hq : 1 ≤ q) (hlt : lt ≤ 2 * k) (h : la + 2 * m ≤ 2 * n) : (la + lt) + 2 * q ≤ 2 * n := by
  obtain ⟨p', rfl⟩ : ∃ p', p = p' + 1 := ⟨p - 1, by omega⟩
  obtain ⟨q', rfl⟩ : ∃ q', q = q' + 1 := ⟨q - 1, by omega⟩
  have e : (p' + 1) * (q' + 1) = p' * q' + p' + q' + 1 := by rw [Nat.add_mul, Nat.mul_add]; omega
  have := Nat.zero_le (p' * q')
  omega
theorem primesL_get {i : Nat} {x : Nat × Nat} (h : primesL[i]? = some x) : 1 ≤ x.1 ∧ x.1 < x.2 ∧ 2 ≤ x.2 ∧ x.2 ≤ 5000 := by
  have hm := List.mem_of_getElem? h
  rw [primesL_eq] at hm
  have h1 := pl_one 4999 2 0 x hm
  have h2 := pl_lt 4999 2 0 (by omega) x hm
  omega

set_option maxHeartbeats 4000000 in
theorem codeText_calls : ∀ (f n : Nat) (w : World), 1 ≤ n → n ≤ 5000 → n ≤ f → Calls P0 71 #[.int .i64 (n : Int)] w fun e w' => (e = .returned (.string (bytesOf (codT f n))) ∧ (codT f n).length ≤ 2 * n) ∧ Below w.heap.size w w'
  | 0, n, w, h1, _, h2 => by omega
  | f + 1, n, w, h1, h5, h2 => by
    have ih := codeText_calls f
    refine (callsIn_wide (n := 0)).1 ?_
    refine callsIn_of_wp_marks Try.func71 rfl trivial ?_ rfl
    simp only [Try.ntmps71, List.size_toArray, List.length_cons, List.length_nil, Nat.reduceAdd, Nat.reduceSub, Array.replicate_succ, Array.replicate_zero, List.push_toArray, List.append_toArray, List.nil_append, List.cons_append]
    gi_wp2
    obtain ⟨n0, hn0⟩ : ∃ n0, w.heap.size = n0 := ⟨_, rfl⟩
    obtain ⟨W0, hW0⟩ : ∃ W0, (w.alloc (.cells #[.int .i64 (n : Int)] 3)).alloc (.cells #[.string { data := #[40] }] 9) = W0 := ⟨_, rfl⟩
    have x1 : Bx W0 n0 (.int .i64 (n : Int)) := by rw [← hW0, ← hn0]; exact (Bx.new w _ _).alloc (by simp) _
    have x2 : Bx W0 (n0 + 1) (.string (bytesOf (40 :: []))) := by
      have := Bx.new (w.alloc (.cells #[.int .i64 (n : Int)] 3)) (.string { data := #[40] }) 9
      simp only [World.size_alloc, hn0] at this; rw [← hW0]; exact this
    have b0 : Below n0 w W0 := by rw [← hW0, ← hn0]; exact ((Below.refl _ w).alloc (Nat.le_refl _) _).alloc (by simp) _
    have s0 : W0.heap.size = n0 + 2 := by rw [← hW0]; simp [hn0]
    simp only [hn0, hW0]
    refine wpIn_range_list (gf := 77) rfl (enters_of Try.func77 (by kernel_rfl) rfl) primes_hands (fun _ => rfl)
      (fun i W => ∃ (m : Nat) (a : List Nat), Bx W n0 (.int .i64 (m : Int)) ∧ Bx W (n0 + 1) (.string (bytesOf (40 :: a))) ∧ 1 ≤ m ∧ (m ≤ n ∧ a.length + 2 * m ≤ 2 * n) ∧ goT (codT f) (primesL.drop i) m a = inT (f + 1) n ∧ Below n0 w W)
      (fun c i W => c = .exit 0 ∧ Bx W (n0 + 1) (.string (bytesOf (40 :: inT (f + 1) n))) ∧ (inT (f + 1) n).length + 2 ≤ 2 * n ∧ Below n0 w W)
      ?_ ?_ ⟨n, [], x1, x2, h1, ⟨Nat.le_refl _, by simp⟩, rfl, b0⟩
      (fun x => { tmps := #[Value.int IntKind.i64 (n : Int), Value.pointer (some { block := n0, off := 0 }), Value.string { data := #[] }, Value.pointer (some { block := n0 + 1, off := 0 }),
        .int .i64 (x.1 : Int), .int .i64 (x.2 : Int), .int .i64 (x.1 : Int), .int .i64 (x.2 : Int), undef, undef, undef, undef, undef, undef, undef, undef, undef, undef, undef, undef, undef, undef, undef], defers := [] }) ?assign ?body ?done ?stop
    · rintro i A C ⟨m, a, g1, g2, g3, g4, g5, g6⟩ hb
      rw [s0] at hb
      exact ⟨m, a, g1.of (by omega) hb, g2.of (by omega) hb, g3, g4, g5, g6.trans (hb.mono (by omega))⟩
    · rintro c i A C ⟨rfl, g1, g3, g2⟩ hb
      rw [s0] at hb
      exact ⟨rfl, g1.of (by omega) hb, g3, g2.trans (hb.mono (by omega))⟩
    case assign =>
      intro l x W K hK
      gi_wp2
      exact hK
    case body =>
      rintro l i x W hx hsz ⟨m, a, g1, g2, g3, g4, g5, g6⟩
      obtain ⟨p1, p2, p3, p4⟩ := primesL_get hx
      have hdrop : primesL.drop i = x :: primesL.drop (i + 1) := List.drop_eq_getElem?_toList_append.trans (by rw [hx]; rfl)
      rw [hdrop, goT_cons] at g5
      have hmx : P0.follows .mixedOrders = true := by kernel_rfl
      gi_wp2
      gi_loopw [] (fun wr => ∃ (m : Nat) (a : List Nat) (g : Nat), Bx wr n0 (.int .i64 (m : Int)) ∧ Bx wr (n0 + 1) (.string (bytesOf (40 :: a))) ∧ 1 ≤ m ∧ (m ≤ n ∧ a.length + 2 * m ≤ 2 * n) ∧ m < 2 ^ g ∧ g ≤ 13 ∧
          peel x.2 (codT f x.1) g m a (fun n a => bc (Nat.beq n 1) a (goT (codT f) (primesL.drop (i + 1)) n a)) = inT (f + 1) n ∧ Below n0 w wr ∧ Hi W0.heap.size W wr)
        (fun wr => match wr.cell? ⟨n0, 0, none⟩ with | some v => (intOf v).toNat | none => 0)
      case atStart => exact ⟨m, a, 13, g1, g2, g3, g4, by have := g4.1; omega, Nat.le_refl _, g5, g6, Hi.refl _ _⟩
      case round =>
        obtain ⟨m', a', g, k1, k2, k3, k4, k5, k6, k7, k8, k9⟩ := hrel
        have c1 := k1.cell
        have c2 := k2.cell
        have f1 := k1.free
        have f2 := k2.free
        have hp0 : ¬ (x.2 : Int) = 0 := by omega
        have hrem : (m' : Int).tmod (x.2 : Int) = ((m' % x.2 : Nat) : Int) := rfl
        by_cases hq : m' % x.2 = 0
        · rw [hq] at hrem
          have hxf : x.1 ≤ f := by have := (div_pos_of_dvd p3 k3 hq).2.2; omega
          have hcell0 : ∀ {A B : World}, Below A.heap.size A B → n0 + 1 < A.heap.size → ∀ v, A.cell? ⟨n0 + 1, 0, none⟩ = some v → A.frozen? ⟨n0 + 1, 0, none⟩ = false → B.cell? ⟨n0 + 1, 0, none⟩ = some v ∧ B.frozen? ⟨n0 + 1, 0, none⟩ = false :=
            fun hb hl v h1 h2 => ⟨(hb.cell (p := ⟨n0 + 1, 0, none⟩) hl).trans h1, (hb.frozen (p := ⟨n0 + 1, 0, none⟩) hl).trans h2⟩
          have hwl : n0 + 1 < wr.heap.size := by have := k9.size; omega
          gi_wp2
          gi_region_with_o (refine ⟨trivial, rfl, ?_⟩; refine (CallsIn.inRound l ((callsIn_wide (n := 0)).2 (ih x.1 _ p1 (by omega) hxf))).mono ?_; rintro e wc ⟨⟨rfl, hlen⟩, hbc⟩; obtain ⟨cc, cf⟩ := hcell0 hbc hwl _ c2 f2; have hlim : ¬ 9223372036854775807 < (bytesOf (40 :: a')).size + (bytesOf (codT f x.1)).size := (by rw [bytesOf_size, bytesOf_size]; simp; omega))
          all_goals
            have hbw : Below wr.heap.size wr wc := ⟨hbc.os, hbc.tape, hbc.output, hbc.size, hbc.block⟩
            obtain ⟨tx, htx⟩ : ∃ tx, bytesOf (40 :: a') ++ bytesOf (codT f x.1) = tx := ⟨_, rfl⟩
            rw [htx]
            have y1 := (k1.of (show n0 < wr.heap.size by omega) hbw).other (show n0 ≠ n0 + 1 by omega) (.string tx)
            have y2 := (k2.of hwl hbw).set (.string tx)
            have d1 := y1.cell
            have e1 := y1.free
            have hx0 : ¬ (x.2 : Int) = 0 := by omega
            have hlow : Below n0 w (wc.setCell ⟨n0 + 1, 0, none⟩ (.string tx)) := (k8.trans (hbw.mono (by omega))).setCell (p := ⟨n0 + 1, 0, none⟩) (by show n0 ≤ n0 + 1; omega) _
            have hhi : Hi W0.heap.size W (wc.setCell ⟨n0 + 1, 0, none⟩ (.string tx)) := (k9.trans (Hi.of_below hbw)).trans (Hi.setCell wc (a := ⟨n0 + 1, 0, none⟩) (by show n0 + 1 < W0.heap.size; omega) _)
            obtain ⟨W9, hW9⟩ : ∃ W9, wc.setCell ⟨n0 + 1, 0, none⟩ (.string tx) = W9 := ⟨_, rfl⟩
            rw [hW9] at y1 y2 d1 e1 hlow hhi ⊢
            clear c1 c2 f1 f2 hlim cc cf hcell0 hbc hbw
            gi_wp2
            obtain ⟨q, hqd⟩ : ∃ q, m' / x.2 = q := ⟨_, rfl⟩
            obtain ⟨q1, q2, q3⟩ := div_pos_of_dvd p3 k3 hq
            rw [hqd] at q1 q2
            have hmq : m' = x.2 * q := by rw [← hqd]; have := Nat.div_add_mod m' x.2; omega
            have hwr : wrap64 ((m' : Int) / (x.2 : Int)) = (q : Int) := by
              have e : (m' : Int) / (x.2 : Int) = (q : Int) := by rw [← hqd]; rfl
              rw [e]; exact IntWalk.wrap64_in (q : Int) ⟨by omega, by have := k4.1; omega⟩
            obtain ⟨g', rfl⟩ : ∃ g', g = g' + 1 := by
              cases g with
              | zero => simp at k5; omega
              | succ g' => exact ⟨g', rfl⟩
            rw [peel_succ, hq, hqd, Nat.beq_refl, bc_true] at k7
            rw [hwr]
            have htx2 : tx = bytesOf (40 :: (a' ++ codT f x.1)) := by rw [← htx, bytesOf_append]; rfl
            subst htx2
            have hg : q < 2 ^ g' := by rw [← hqd]; exact half_lt p3 k5
            have z1 := y1.set (.int .i64 (q : Int))
            have z2 := y2.other (show n0 + 1 ≠ n0 by omega) (.int .i64 (q : Int))
            have z3 := hlow.setCell (p := ⟨n0, 0, none⟩) (Nat.le_refl _) (.int .i64 (q : Int))
            have z4 := hhi.trans (Hi.setCell W9 (a := ⟨n0, 0, none⟩) (show n0 < W0.heap.size by omega) (.int .i64 (q : Int)))
            have z5 : q ≤ n := Nat.le_trans (Nat.le_of_lt q2) k4.1
            have z6 : g' ≤ 13 := Nat.le_of_succ_le k6
            refine ⟨⟨q, a' ++ codT f x.1, g', z1, z2, q1, ⟨z5, ?_⟩, hg, z6, k7, z3, z4⟩, ?_⟩
            · rw [List.length_append]; exact peel_step p3 p2 hmq q1 hlen k4.2
            · rw [z1.cell, k1.cell]; simp [intOf]; omega
        · have hrem2 : ¬ (m' : Int).tmod (x.2 : Int) = 0 := by rw [hrem]; omega
          clear hrem
          obtain ⟨g', rfl⟩ : ∃ g', g = g' + 1 := by
            cases g with
            | zero => simp at k5; omega
            | succ g' => exact ⟨g', rfl⟩
          rw [peel_succ, show Nat.beq (m' % x.2) 0 = false from by rw [beq_decide, decide_eq_false_iff_not]; exact hq, bc_false] at k7
          gi_wp2
          · rename_i hm1
            obtain rfl : m' = 1 := by have := of_decide_eq_true hm1; omega
            have k7' : a' = inT (f + 1) n := k7
            subst k7'
            exact ⟨k9, rfl, k2, k4.2, k8⟩
          · rename_i hm1
            have : m' ≠ 1 := fun e => by subst e; simp at hm1
            rw [show Nat.beq m' 1 = false from by rw [beq_decide, decide_eq_false_iff_not]; exact this, bc_false] at k7
            exact ⟨k9, m', a', k1, k2, k3, k4, k7, k8⟩
    case done =>
      rintro D W hD ⟨m, a, g1, g2, g3, g4, g5, g6⟩ hK
      rw [List.drop_length, goT_nil] at g5
      subst g5
      have c2 := g2.cell
      have hlim : ¬ 9223372036854775807 < (bytesOf (40 :: inT (f + 1) n)).size + 1 := by rw [bytesOf_size]; simp; omega
      gi_wp2
      refine ⟨by simp, .inl ⟨_, _, rfl, run_takeDeferred hK, ?_⟩⟩
      refine ⟨_, results_tmp rfl _ _ _, ⟨?_, ?_⟩, hn0.symm ▸ g6.trans (below_putObj n0 W _ (by omega))⟩
      · show Ending.returned (.string (bytesOf (40 :: inT (f + 1) n) ++ bytesOf [41])) = _
        rw [bytesOf_append]; rfl
      · simp [codT]; omega
    case stop =>
      rintro D c i W hD hi ⟨rfl, g2, g3, g6⟩ hK
      have c2 := g2.cell
      have hlim : ¬ 9223372036854775807 < (bytesOf (40 :: inT (f + 1) n)).size + 1 := by rw [bytesOf_size]; simp; omega
      gi_wp2
      refine ⟨by simp, .inl ⟨_, _, rfl, run_takeDeferred hK, ?_⟩⟩
      refine ⟨_, results_tmp rfl _ _ _, ⟨?_, ?_⟩, hn0.symm ▸ g6.trans (below_putObj n0 W _ (by omega))⟩
      · show Ending.returned (.string (bytesOf (40 :: inT (f + 1) n) ++ bytesOf [41])) = _
        rw [bytesOf_append]; rfl
      · simp [codT]; omega
end
end Go.AI
