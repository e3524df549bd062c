/- slices.Backward's iterator. -/
import Derived.Test.YtjnmogmddhichaaProg
import Derived.RangeFuncNested
import Derived.RangeFuncBound
import Derived.RangeFuncCalls
import Derived.RangeFuncLeaves
import Derived.RangeFuncOwn
import Derived.Shelf.Abstract
import Derived.Shelf.RegionOpen
import Derived.WalkKit
import Derived.OwnWalkIn
import Derived.TacticsInMore
import Derived.LoopNIn
import Derived.LoopIn
import Derived.KernelRfl
namespace Go.AI.Bk
open Go Go.RowKit Go.Shelf Go.Proofs
attribute [local go_sem] Oper.semAt_some
set_option linter.unusedVariables false
set_option linter.unusedSimpArgs false
set_option maxRecDepth 100000
noncomputable section
noncomputable abbrev P0 : Program := Go.Proofs.Try.prog
def intOf : Value → Int
  | .int _ n => n
  | _ => 0
set_option maxHeartbeats 4000000 in
theorem back_calls {l bx ob B q n : Nat} (hn : n < 1000000) (J : Nat → World → Prop) {W : World}
    (hbox : ∀ i W1, J i W1 → ∃ cap, n ≤ cap ∧ W1.cell? ⟨bx, ob, none⟩ = some (.slice (some ⟨B, q, none⟩) n cap))
    (hel : ∀ i W1, i < n → J i W1 → ∃ v, W1.cell? ⟨B, q + (n - 1 - i), none⟩ = some v ∧ YieldAt Fence.wide 0 P0 l #[.int .i64 ((n - 1 - i : Nat) : Int), v] W1 fun e W' => e = .returned (.bool true) ∧ J (i + 1) W')
    (h0 : J 0 W) : CallsIn Fence.wide 0 P0 50 #[.func (.yield l) #[] #[], .pointer (some ⟨bx, ob, none⟩)] W fun e W' => (∃ v, e = .returned v) ∧ J n W' := by
  refine callsIn_of_wp Try.func50 rfl trivial ?_ rfl
  simp only [Try.ntmps50, List.size_toArray, List.length_cons, List.length_nil, Nat.reduceAdd, Nat.reduceSub, Array.replicate_succ, Array.replicate_zero, List.push_toArray, List.append_toArray, List.nil_append, List.cons_append]
  obtain ⟨cap0, hcap0, hb0⟩ := hbox 0 W h0
  gi_wp2
  gi_loopw [3] (fun k wr => ∃ i, i ≤ n ∧ k = .int .i64 ((n : Int) - 1 - (i : Int)) ∧ J i wr) (fun k _ => (intOf k + 1).toNat)
  case atStart => exact ⟨0, Nat.zero_le _, by simp, h0⟩
  case round =>
    obtain ⟨i, hi, rfl, hJ⟩ := hrel
    obtain ⟨cap, hcap, hb⟩ := hbox i wr hJ
    by_cases hin : i < n
    · obtain ⟨v, hv, fn, tmps, assign, body, hy, hR⟩ := hel i wr hin hJ
      have hk : ((n : Int) - 1 - (i : Int)) = ((n - 1 - i : Nat) : Int) := by omega
      rw [hk]
      generalize hm : n - 1 - i = m at *
      have hm2 : m < n := by omega
      have hy' : (Instr.yield l #[Value.int .i64 (m : Int), v]).run P0 wr = .ok (.round l fn tmps assign body) wr := hy
      clear hy
      gi_wp2
      refine ⟨rfl, hR.mono ?_⟩
      rintro e W' ⟨rfl, hJ3⟩
      gi_wp2
      exact ⟨⟨i + 1, by omega, by congr 1 <;> omega, hJ3⟩, by simp [intOf] <;> omega⟩
    · obtain rfl : i = n := by omega
      have hk : ((i : Int) - 1 - (i : Int)) = -1 := by omega
      rw [hk]
      gi_wp2
      go_end0
      exact ⟨⟨_, rfl⟩, hJ⟩
set_option maxHeartbeats 4000000 in
theorem back_zero {l bx ob cap : Nat} {A : Addr} {W : World} (hb : W.cell? ⟨bx, ob, none⟩ = some (.slice (some A) 0 cap)) :
    CallsIn Fence.wide 0 P0 50 #[.func (.yield l) #[] #[], .pointer (some ⟨bx, ob, none⟩)] W fun e W' => (∃ v, e = .returned v) ∧ W' = W := by
  refine callsIn_of_wp Try.func50 rfl trivial ?_ rfl
  simp only [Try.ntmps50, List.size_toArray, List.length_cons, List.length_nil, Nat.reduceAdd, Nat.reduceSub, Array.replicate_succ, Array.replicate_zero, List.push_toArray, List.append_toArray, List.nil_append, List.cons_append]
  gi_wp2
  gi_loopw [3] (fun k wr => k = .int .i64 (-1) ∧ wr = W) (fun k _ => 0)
  case atStart => exact ⟨rfl, rfl⟩
  case round =>
    obtain ⟨rfl, rfl⟩ := hrel
    gi_wp2
    go_end0
    exact ⟨⟨_, rfl⟩, rfl⟩
end
end Go.AI.Bk
