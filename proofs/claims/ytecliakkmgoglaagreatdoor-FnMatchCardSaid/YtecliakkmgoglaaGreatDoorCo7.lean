/- The functions that draw, in company. -/
import Derived.Test.YtecliakkmgoglaaGreatDoorDra
import Derived.Test.YtecliakkmgoglaaGreatDoorCo6
import Derived.KernelRfl
set_option linter.unusedVariables false
set_option linter.unusedSimpArgs false
set_option maxRecDepth 100000
namespace Go.AI
open Go Go.Proofs.Tryz Go.RowKit Go.AI Go.Conc Go.Co Go.Co.Cnt
noncomputable section
variable {Post:Value->World->Prop} {main:Bool} {fk:Option Fk}
theorem co_spec_l6Open (F g:Nat):∀args h r,u1 (c_spec_l6Open F g) args h=some r->CoTri prog tW Post main (fk,true) 32 args h r:=by
 intro args h r e;obtain ⟨a0,rfl,e1⟩:=zae6 e;exact zabz func32 rfl rfl rfl ntmps32 (by kernel_rfl) (CoSound.none _ _ _ _ _) ((k_spec_l6Open F g a0 h).trans e1)
theorem co_spec_l6Rd_pick (F g:Nat):∀args h r,u2 (c_spec_l6Rd_pick F g) args h=some r->CoTri prog tW Post main (fk,true) 44 args h r:=by
 intro args h r e;obtain ⟨a0,a1,rfl,e1⟩:=zafv e;exact zabz func44 rfl rfl rfl ntmps44 (by kernel_rfl) (CoSound.none _ _ _ _ _) ((k_spec_l6Rd_pick F g a0 a1 h).trans e1)
theorem co_spec_l3Tree (F g:Nat):∀args h r,u1 (c_spec_l3Tree F g) args h=some r->CoTri prog tW Post main (fk,true) 76 args h r:=by
 intro args h r e;obtain ⟨a0,rfl,e1⟩:=zae6 e;exact zabz func76 rfl rfl rfl ntmps76 (by kernel_rfl) (CoSound.none _ _ _ _ _) ((k_spec_l3Tree F g a0 h).trans e1)
theorem co_spec_l91Nodes (F g:Nat):∀args h r,u2 (c_spec_l91Nodes F g) args h=some r->CoTri prog tW Post main (fk,true) 53 args h r:=by
 intro args h r e;obtain ⟨a0,a1,rfl,e1⟩:=zafv e;exact zabz func53 rfl rfl rfl ntmps53 (by kernel_rfl) (CoSound.add (CoSound.add (CoSound.none _ _ _ _ _) (co_spec_l6Rd_pick F g)) (co_spec_l3Tree F g)) ((k_spec_l91Nodes F g a0 a1 h).trans e1)
theorem co_spec_l6Rd_of (F g:Nat):∀args h r,u2 (c_spec_l6Rd_of F g) args h=some r->CoTri prog tW Post main (fk,true) 54 args h r:=by
 intro args h r e;obtain ⟨a0,a1,rfl,e1⟩:=zafv e;exact zabz func54 rfl rfl rfl ntmps54 (by kernel_rfl) (CoSound.add (CoSound.none _ _ _ _ _) (co_spec_l6Rd_pick F g)) ((k_spec_l6Rd_of F g a0 a1 h).trans e1)
theorem co_spec_l91Tree (F g:Nat):∀args h r,u2 (c_spec_l91Tree F g) args h=some r->CoTri prog tW Post main (fk,true) 31 args h r:=by
 intro args h r e;obtain ⟨a0,a1,rfl,e1⟩:=zafv e;exact zabz func31 rfl rfl rfl ntmps31 (by kernel_rfl) (CoSound.add (CoSound.add (CoSound.add (CoSound.none _ _ _ _ _) (co_spec_l6Rd_pick F g)) (co_spec_l91Nodes F g)) (co_spec_l6Rd_of F g)) ((k_spec_l91Tree F g a0 a1 h).trans e1)
theorem co_spec_l91Some (F g:Nat):∀args h r,u1 (c_spec_l91Some F g) args h=some r->CoTri prog tW Post main (fk,true) 37 args h r:=by
 intro args h r e;obtain ⟨a0,rfl,e1⟩:=zae6 e;exact zabz func37 rfl rfl rfl ntmps37 (by kernel_rfl) (CoSound.add (CoSound.add (CoSound.none _ _ _ _ _) (co_spec_l6Open F g)) (co_spec_l91Tree F g)) ((k_spec_l91Some F g a0 h).trans e1)
theorem zaun {P:Program} {Post:Value->World->Prop} {main:Bool} {fk:Option Fk} {f:FuncId} {c:AV->H->Option R} (hs:∀args h r,u1 c args h=some r->CoTri P tW Post main (fk,true) f args h r):∀args h r,u1 (quietC c) args h=some r->CoTri P tW Post main (fk,true) f args h r:=by
 intro args h r e
 obtain ⟨a0,rfl,e1⟩:=zae6 e
 obtain ⟨r1,h1,e2⟩:=zaay e1
 obtain ⟨h2,e3⟩:=zaac e2
 obtain ⟨h3,e4⟩:=zaac e3
 cases e4
 exact (hs [a0] h.mark r1 h1).quiet h2 (Nat.le_of_ble_eq_true h3)
end
end Go.AI
