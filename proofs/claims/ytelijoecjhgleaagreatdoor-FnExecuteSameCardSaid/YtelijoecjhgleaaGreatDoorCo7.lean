/- The function that draws, in company. -/
import Derived.Test.YtelijoecjhgleaaGreatDoorDra
import Derived.Test.YtelijoecjhgleaaGreatDoorCo6
import Derived.KernelRfl
set_option linter.unusedVariables false
set_option linter.unusedSimpArgs false
set_option maxRecDepth 100000
namespace Go.AI
open Go Go.Proofs.Tryz Go.RowKit Go.AI Go.Conc Go.Co Go.Co.Cnt
noncomputable section
variable {Post:Value->World->Prop} {main:Bool} {fk:Option Fk}
theorem co_spec_l6Open (F g:Nat):∀args h r,u1 (c_spec_l6Open F g) args h=some r->CoTri prog tW Post main (fk,true) 22 args h r:=by
 intro args h r e;obtain ⟨a0,rfl,e1⟩:=zafo e;exact zace func22 rfl rfl rfl ntmps22 (by kernel_rfl) (CoSound.none _ _ _ _ _) ((k_spec_l6Open F g a0 h).trans e1)
theorem wk_spec_l6Open (F g:Nat):∀args h r,u1 (c_spec_l6Open F g) args h=some r->CoTri prog tW Post main (none,false) 22 args h r:=fun args h r e=>(co_spec_l6Open F g args h r e).weak
theorem co_spec_l6Rd_pick (F g:Nat):∀args h r,u2 (c_spec_l6Rd_pick F g) args h=some r->CoTri prog tW Post main (fk,true) 35 args h r:=by
 intro args h r e;obtain ⟨a0,a1,rfl,e1⟩:=zafm e;exact zace func35 rfl rfl rfl ntmps35 (by kernel_rfl) (CoSound.none _ _ _ _ _) ((k_spec_l6Rd_pick F g a0 a1 h).trans e1)
theorem wk_spec_l6Rd_pick (F g:Nat):∀args h r,u2 (c_spec_l6Rd_pick F g) args h=some r->CoTri prog tW Post main (none,false) 35 args h r:=fun args h r e=>(co_spec_l6Rd_pick F g args h r e).weak
theorem co_spec_l3Tree (F g:Nat):∀args h r,u1 (c_spec_l3Tree F g) args h=some r->CoTri prog tW Post main (fk,true) 53 args h r:=by
 intro args h r e;obtain ⟨a0,rfl,e1⟩:=zafo e;exact zace func53 rfl rfl rfl ntmps53 (by kernel_rfl) (CoSound.none _ _ _ _ _) ((k_spec_l3Tree F g a0 h).trans e1)
theorem wk_spec_l3Tree (F g:Nat):∀args h r,u1 (c_spec_l3Tree F g) args h=some r->CoTri prog tW Post main (none,false) 53 args h r:=fun args h r e=>(co_spec_l3Tree F g args h r e).weak
theorem co_spec_l91Nodes (F g:Nat):∀args h r,u2 (c_spec_l91Nodes F g) args h=some r->CoTri prog tW Post main (fk,true) 34 args h r:=by
 intro args h r e;obtain ⟨a0,a1,rfl,e1⟩:=zafm e;exact zace func34 rfl rfl rfl ntmps34 (by kernel_rfl) (CoSound.add (CoSound.add (CoSound.none _ _ _ _ _) (co_spec_l6Rd_pick F g)) (co_spec_l3Tree F g)) ((k_spec_l91Nodes F g a0 a1 h).trans e1)
theorem wk_spec_l91Nodes (F g:Nat):∀args h r,u2 (c_spec_l91Nodes F g) args h=some r->CoTri prog tW Post main (none,false) 34 args h r:=fun args h r e=>(co_spec_l91Nodes F g args h r e).weak
theorem co_spec_l6Rd_of (F g:Nat):∀args h r,u2 (c_spec_l6Rd_of F g) args h=some r->CoTri prog tW Post main (fk,true) 36 args h r:=by
 intro args h r e;obtain ⟨a0,a1,rfl,e1⟩:=zafm e;exact zace func36 rfl rfl rfl ntmps36 (by kernel_rfl) (CoSound.add (CoSound.none _ _ _ _ _) (co_spec_l6Rd_pick F g)) ((k_spec_l6Rd_of F g a0 a1 h).trans e1)
theorem wk_spec_l6Rd_of (F g:Nat):∀args h r,u2 (c_spec_l6Rd_of F g) args h=some r->CoTri prog tW Post main (none,false) 36 args h r:=fun args h r e=>(co_spec_l6Rd_of F g args h r e).weak
theorem co_spec_l91Tree (F g:Nat):∀args h r,u2 (c_spec_l91Tree F g) args h=some r->CoTri prog tW Post main (fk,true) 21 args h r:=by
 intro args h r e;obtain ⟨a0,a1,rfl,e1⟩:=zafm e;exact zace func21 rfl rfl rfl ntmps21 (by kernel_rfl) (CoSound.add (CoSound.add (CoSound.add (CoSound.none _ _ _ _ _) (co_spec_l6Rd_pick F g)) (co_spec_l91Nodes F g)) (co_spec_l6Rd_of F g)) ((k_spec_l91Tree F g a0 a1 h).trans e1)
theorem wk_spec_l91Tree (F g:Nat):∀args h r,u2 (c_spec_l91Tree F g) args h=some r->CoTri prog tW Post main (none,false) 21 args h r:=fun args h r e=>(co_spec_l91Tree F g args h r e).weak
theorem co_spec_l91Some (F g:Nat):∀args h r,u1 (c_spec_l91Some F g) args h=some r->CoTri prog tW Post main (fk,true) 10 args h r:=by
 intro args h r e;obtain ⟨a0,rfl,e1⟩:=zafo e;exact zace func10 rfl rfl rfl ntmps10 (by kernel_rfl) (CoSound.add (CoSound.add (CoSound.none _ _ _ _ _) (co_spec_l6Open F g)) (co_spec_l91Tree F g)) ((k_spec_l91Some F g a0 h).trans e1)
theorem wk_spec_l91Some (F g:Nat):∀args h r,u1 (c_spec_l91Some F g) args h=some r->CoTri prog tW Post main (none,false) 10 args h r:=fun args h r e=>(co_spec_l91Some F g args h r e).weak
theorem zauj {P:Program} {Post:Value->World->Prop} {main:Bool} {fk:Option Fk} {f:FuncId} {c:AV->H->Option R} (hs:∀args h r,u1 c args h=some r->CoTri P tW Post main (fk,true) f args h r):∀args h r,u1 (quietC c) args h=some r->CoTri P tW Post main (fk,true) f args h r:=by
 intro args h r e
 obtain ⟨a0,rfl,e1⟩:=zafo e
 obtain ⟨r1,h1,e2⟩:=zaay e1
 obtain ⟨h2,e3⟩:=zaab e2
 obtain ⟨h3,e4⟩:=zaab e3
 cases e4
 exact (hs [a0] h.mark r1 h1).quiet h2 (Nat.le_of_ble_eq_true h3)
end
end Go.AI
