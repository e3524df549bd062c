/- The list of all trees, given. -/
import Derived.Test.YtfafaadfnhhfhaaLAllA
import Derived.Test.YtfafaadfnhhfhaaLAllB
namespace Go.AI.T
open Go Go.RowKit Go.AI
set_option linter.unusedVariables false
set_option linter.unusedSimpArgs false
set_option maxRecDepth 100000
noncomputable section
def tabl (v : Nat) : Option R := bc (Nat.beq v 1) (Go.AI.L.fin 1 Go.AI.L.row1) (bc (Nat.beq v 2) (Go.AI.L.fin 1 Go.AI.L.row2) (bc (Nat.beq v 3) (Go.AI.L.fin 2 Go.AI.L.row3) (bc (Nat.beq v 4) (Go.AI.L.fin 4 Go.AI.L.row4) (bc (Nat.beq v 5) (Go.AI.L.fin 9 Go.AI.L.row5) (bc (Nat.beq v 6) (Go.AI.L.fin 20 Go.AI.L.row6) (bc (Nat.beq v 7) (Go.AI.L.fin 48 Go.AI.L.row7) (bc (Nat.beq v 8) (Go.AI.L.fin 115 Go.AI.L.row8) (none))))))))
theorem tabl_ok {v : Nat} {r : R} (e : tabl v = some r) : Tri Go.Proofs.Try.prog id_spec_l3All [.leaf (.sl 0 0 1 1), .int 3 (.ofNat v), .leaf (.sl 1 0 0 0)] Go.AI.L.MA r := by
  unfold tabl at e
  cases h1 : Nat.beq v 1 with
  | true => rw [h1, bc_true] at e; obtain rfl := Nat.eq_of_beq_eq_true h1; exact Go.AI.L.fin_ok Go.AI.L.all1 e
  | false =>
  rw [h1, bc_false] at e
  cases h2 : Nat.beq v 2 with
  | true => rw [h2, bc_true] at e; obtain rfl := Nat.eq_of_beq_eq_true h2; exact Go.AI.L.fin_ok Go.AI.L.all2 e
  | false =>
  rw [h2, bc_false] at e
  cases h3 : Nat.beq v 3 with
  | true => rw [h3, bc_true] at e; obtain rfl := Nat.eq_of_beq_eq_true h3; exact Go.AI.L.fin_ok Go.AI.L.all3 e
  | false =>
  rw [h3, bc_false] at e
  cases h4 : Nat.beq v 4 with
  | true => rw [h4, bc_true] at e; obtain rfl := Nat.eq_of_beq_eq_true h4; exact Go.AI.L.fin_ok Go.AI.L.all4 e
  | false =>
  rw [h4, bc_false] at e
  cases h5 : Nat.beq v 5 with
  | true => rw [h5, bc_true] at e; obtain rfl := Nat.eq_of_beq_eq_true h5; exact Go.AI.L.fin_ok Go.AI.L.all5 e
  | false =>
  rw [h5, bc_false] at e
  cases h6 : Nat.beq v 6 with
  | true => rw [h6, bc_true] at e; obtain rfl := Nat.eq_of_beq_eq_true h6; exact Go.AI.L.fin_ok Go.AI.L.all6 e
  | false =>
  rw [h6, bc_false] at e
  cases h7 : Nat.beq v 7 with
  | true => rw [h7, bc_true] at e; obtain rfl := Nat.eq_of_beq_eq_true h7; exact Go.AI.L.fin_ok Go.AI.L.all7 e
  | false =>
  rw [h7, bc_false] at e
  cases h8 : Nat.beq v 8 with
  | true => rw [h8, bc_true] at e; obtain rfl := Nat.eq_of_beq_eq_true h8; exact Go.AI.L.fin_ok Go.AI.L.all8 e
  | false =>
  rw [h8, bc_false] at e
  cases e
def c_spec_l3All (F g : Nat) (a0 a1 a2 : AV) (h : H) : Option R := bc (Go.AI.L.isMA h) (bc (Go.AI.L.isSl a0 0 1 1) (bc (Go.AI.L.isSl a2 1 0 0) (a1.onInt none fun k v => bc (Nat.beq k 3) (@Int.rec (fun _ => Option R) (fun v => tabl v) (fun _ => none) v) none) none) none) none
theorem s_spec_l3All (F g : Nat) : ∀ args h r, u3 (c_spec_l3All F g) args h = some r → Tri Go.Proofs.Try.prog id_spec_l3All args h r := by
  intro args h r e
  obtain ⟨a0, a1, a2, rfl, e⟩ := u3_some e
  obtain ⟨h1, e1⟩ := bif_some e
  clear e
  obtain ⟨h2, e2⟩ := bif_some e1
  clear e1
  obtain ⟨h3, e3⟩ := bif_some e2
  clear e2
  cases a1 using AV.casesE <;> first | (cases e3; done) | skip
  rename_i k v
  have e4 : bc (Nat.beq k 3) (@Int.rec (fun _ => Option R) (fun v => tabl v) (fun _ => none) v) none = some r := e3
  clear e3
  obtain ⟨h4, e5⟩ := bif_some e4
  clear e4
  obtain rfl := Go.AI.L.isMA_eq h1
  obtain rfl := Go.AI.L.isSl_eq h2
  obtain rfl := Go.AI.L.isSl_eq h3
  cases v with
  | negSucc v => cases e5
  | ofNat v =>
    obtain rfl := Nat.eq_of_beq_eq_true h4
    exact tabl_ok e5
end
end Go.AI.T
