/- The functions that draw, in company. -/
import Derived.Test.YthheobnfkfdocaaDra
import Derived.Test.YthheobnfkfdocaaCo6
import Derived.KernelRfl
set_option linter.unusedVariables false
set_option linter.unusedSimpArgs false
set_option maxRecDepth 100000
namespace Go.AI
open Go Go.RowKit Go.AI Go.Conc Go.Co Go.Co.Cnt
noncomputable section
theorem co_spec_l6Open {Post : Value → World → Prop} {main : Bool} {fk : Option Fk} (F g : Nat) : ∀ args h r, u1 (c_spec_l6Open F g) args h = some r → CoTri Go.Proofs.Try.prog tW Post main (fk, true) 54 args h r := by
  intro args h r e; obtain ⟨a0, rfl, e1⟩ := u1_some e; exact fn_soundC Go.Proofs.Try.func54 rfl rfl rfl Go.Proofs.Try.ntmps54 (by kernel_rfl) (CoSound.none _ _ _ _ _) ((k_spec_l6Open F g a0 h).trans e1)
theorem wk_spec_l6Open {Post : Value → World → Prop} {main : Bool} (F g : Nat) : ∀ args h r, u1 (c_spec_l6Open F g) args h = some r → CoTri Go.Proofs.Try.prog tW Post main (none, false) 54 args h r := fun args h r e => (co_spec_l6Open F g args h r e).weak
theorem co_spec_l6Rd_pick {Post : Value → World → Prop} {main : Bool} {fk : Option Fk} (F g : Nat) : ∀ args h r, u2 (c_spec_l6Rd_pick F g) args h = some r → CoTri Go.Proofs.Try.prog tW Post main (fk, true) 68 args h r := by
  intro args h r e; obtain ⟨a0, a1, rfl, e1⟩ := u2_some e; exact fn_soundC Go.Proofs.Try.func68 rfl rfl rfl Go.Proofs.Try.ntmps68 (by kernel_rfl) (CoSound.none _ _ _ _ _) ((k_spec_l6Rd_pick F g a0 a1 h).trans e1)
theorem wk_spec_l6Rd_pick {Post : Value → World → Prop} {main : Bool} (F g : Nat) : ∀ args h r, u2 (c_spec_l6Rd_pick F g) args h = some r → CoTri Go.Proofs.Try.prog tW Post main (none, false) 68 args h r := fun args h r e => (co_spec_l6Rd_pick F g args h r e).weak
theorem co_spec_l3Tree {Post : Value → World → Prop} {main : Bool} {fk : Option Fk} (F g : Nat) : ∀ args h r, u1 (c_spec_l3Tree F g) args h = some r → CoTri Go.Proofs.Try.prog tW Post main (fk, true) 77 args h r := by
  intro args h r e; obtain ⟨a0, rfl, e1⟩ := u1_some e; exact fn_soundC Go.Proofs.Try.func77 rfl rfl rfl Go.Proofs.Try.ntmps77 (by kernel_rfl) (CoSound.none _ _ _ _ _) ((k_spec_l3Tree F g a0 h).trans e1)
theorem wk_spec_l3Tree {Post : Value → World → Prop} {main : Bool} (F g : Nat) : ∀ args h r, u1 (c_spec_l3Tree F g) args h = some r → CoTri Go.Proofs.Try.prog tW Post main (none, false) 77 args h r := fun args h r e => (co_spec_l3Tree F g args h r e).weak
theorem co_spec_l91Nodes {Post : Value → World → Prop} {main : Bool} {fk : Option Fk} (F g : Nat) : ∀ args h r, u2 (c_spec_l91Nodes F g) args h = some r → CoTri Go.Proofs.Try.prog tW Post main (fk, true) 67 args h r := by
  intro args h r e; obtain ⟨a0, a1, rfl, e1⟩ := u2_some e; exact fn_soundC Go.Proofs.Try.func67 rfl rfl rfl Go.Proofs.Try.ntmps67 (by kernel_rfl) (CoSound.add (CoSound.add (CoSound.none _ _ _ _ _) (co_spec_l6Rd_pick F g)) (co_spec_l3Tree F g)) ((k_spec_l91Nodes F g a0 a1 h).trans e1)
theorem wk_spec_l91Nodes {Post : Value → World → Prop} {main : Bool} (F g : Nat) : ∀ args h r, u2 (c_spec_l91Nodes F g) args h = some r → CoTri Go.Proofs.Try.prog tW Post main (none, false) 67 args h r := fun args h r e => (co_spec_l91Nodes F g args h r e).weak
theorem co_spec_l6Rd_of {Post : Value → World → Prop} {main : Bool} {fk : Option Fk} (F g : Nat) : ∀ args h r, u2 (c_spec_l6Rd_of F g) args h = some r → CoTri Go.Proofs.Try.prog tW Post main (fk, true) 69 args h r := by
  intro args h r e; obtain ⟨a0, a1, rfl, e1⟩ := u2_some e; exact fn_soundC Go.Proofs.Try.func69 rfl rfl rfl Go.Proofs.Try.ntmps69 (by kernel_rfl) (CoSound.add (CoSound.none _ _ _ _ _) (co_spec_l6Rd_pick F g)) ((k_spec_l6Rd_of F g a0 a1 h).trans e1)
theorem wk_spec_l6Rd_of {Post : Value → World → Prop} {main : Bool} (F g : Nat) : ∀ args h r, u2 (c_spec_l6Rd_of F g) args h = some r → CoTri Go.Proofs.Try.prog tW Post main (none, false) 69 args h r := fun args h r e => (co_spec_l6Rd_of F g args h r e).weak
theorem co_spec_l91Tree {Post : Value → World → Prop} {main : Bool} {fk : Option Fk} (F g : Nat) : ∀ args h r, u2 (c_spec_l91Tree F g) args h = some r → CoTri Go.Proofs.Try.prog tW Post main (fk, true) 53 args h r := by
  intro args h r e; obtain ⟨a0, a1, rfl, e1⟩ := u2_some e; exact fn_soundC Go.Proofs.Try.func53 rfl rfl rfl Go.Proofs.Try.ntmps53 (by kernel_rfl) (CoSound.add (CoSound.add (CoSound.add (CoSound.none _ _ _ _ _) (co_spec_l6Rd_pick F g)) (co_spec_l91Nodes F g)) (co_spec_l6Rd_of F g)) ((k_spec_l91Tree F g a0 a1 h).trans e1)
theorem wk_spec_l91Tree {Post : Value → World → Prop} {main : Bool} (F g : Nat) : ∀ args h r, u2 (c_spec_l91Tree F g) args h = some r → CoTri Go.Proofs.Try.prog tW Post main (none, false) 53 args h r := fun args h r e => (co_spec_l91Tree F g args h r e).weak
theorem co_spec_l91Some {Post : Value → World → Prop} {main : Bool} {fk : Option Fk} (F g : Nat) : ∀ args h r, u1 (c_spec_l91Some F g) args h = some r → CoTri Go.Proofs.Try.prog tW Post main (fk, true) 36 args h r := by
  intro args h r e; obtain ⟨a0, rfl, e1⟩ := u1_some e; exact fn_soundC Go.Proofs.Try.func36 rfl rfl rfl Go.Proofs.Try.ntmps36 (by kernel_rfl) (CoSound.add (CoSound.add (CoSound.none _ _ _ _ _) (co_spec_l6Open F g)) (co_spec_l91Tree F g)) ((k_spec_l91Some F g a0 h).trans e1)
theorem wk_spec_l91Some {Post : Value → World → Prop} {main : Bool} (F g : Nat) : ∀ args h r, u1 (c_spec_l91Some F g) args h = some r → CoTri Go.Proofs.Try.prog tW Post main (none, false) 36 args h r := fun args h r e => (co_spec_l91Some F g args h r e).weak
theorem co_quietC {P : Program} {Post : Value → World → Prop} {main : Bool} {fk : Option Fk} {f : FuncId} {c : AV → H → Option R} (hs : ∀ args h r, u1 c args h = some r → CoTri P tW Post main (fk, true) f args h r) : ∀ args h r, u1 (quietC c) args h = some r → CoTri P tW Post main (fk, true) f args h r := by
  intro args h r e
  obtain ⟨a0, rfl, e1⟩ := u1_some e
  obtain ⟨r1, h1, e2⟩ := onSome_some e1
  obtain ⟨h2, e3⟩ := bif_some e2
  obtain ⟨h3, e4⟩ := bif_some e3
  cases e4
  exact (hs [a0] h.mark r1 h1).quiet h2 (Nat.le_of_ble_eq_true h3)
end
end Go.AI
