/- The functions that draw, in company. -/
import Derived.Test.YtecliakkmgoglaaDoorDra
import Derived.Test.YtecliakkmgoglaaDoorCo6
import Derived.KernelRfl
set_option linter.unusedVariables false
set_option linter.unusedSimpArgs false
set_option maxRecDepth 100000
namespace Go.AI
open Go Go.Proofs.Tryd Go.RowKit Go.AI Go.Conc Go.Co Go.Co.Cnt
noncomputable section
variable {Post:Value->World->Prop} {main:Bool} {fk:Option Fk}
theorem co_spec_l6Open (F g:Nat):∀args h r,u1 (c_spec_l6Open F g) args h=some r->CoTri prog tW Post main (fk,true) 33 args h r:=by
 intro args h r e;obtain ⟨a0,rfl,e1⟩:=zafs e;exact zacb func33 rfl rfl rfl ntmps33 (by kernel_rfl) (CoSound.none _ _ _ _ _) ((k_spec_l6Open F g a0 h).trans e1)
theorem wk_spec_l6Open (F g:Nat):∀args h r,u1 (c_spec_l6Open F g) args h=some r->CoTri prog tW Post main (none,false) 33 args h r:=fun args h r e=>(co_spec_l6Open F g args h r e).weak
theorem co_spec_l6Rd_pick (F g:Nat):∀args h r,u2 (c_spec_l6Rd_pick F g) args h=some r->CoTri prog tW Post main (fk,true) 41 args h r:=by
 intro args h r e;obtain ⟨a0,a1,rfl,e1⟩:=zaf3 e;exact zacb func41 rfl rfl rfl ntmps41 (by kernel_rfl) (CoSound.none _ _ _ _ _) ((k_spec_l6Rd_pick F g a0 a1 h).trans e1)
theorem wk_spec_l6Rd_pick (F g:Nat):∀args h r,u2 (c_spec_l6Rd_pick F g) args h=some r->CoTri prog tW Post main (none,false) 41 args h r:=fun args h r e=>(co_spec_l6Rd_pick F g args h r e).weak
theorem co_spec_l3Tree (F g:Nat):∀args h r,u1 (c_spec_l3Tree F g) args h=some r->CoTri prog tW Post main (fk,true) 51 args h r:=by
 intro args h r e;obtain ⟨a0,rfl,e1⟩:=zafs e;exact zacb func51 rfl rfl rfl ntmps51 (by kernel_rfl) (CoSound.none _ _ _ _ _) ((k_spec_l3Tree F g a0 h).trans e1)
theorem wk_spec_l3Tree (F g:Nat):∀args h r,u1 (c_spec_l3Tree F g) args h=some r->CoTri prog tW Post main (none,false) 51 args h r:=fun args h r e=>(co_spec_l3Tree F g args h r e).weak
theorem co_spec_l91Nodes (F g:Nat):∀args h r,u2 (c_spec_l91Nodes F g) args h=some r->CoTri prog tW Post main (fk,true) 40 args h r:=by
 intro args h r e;obtain ⟨a0,a1,rfl,e1⟩:=zaf3 e;exact zacb func40 rfl rfl rfl ntmps40 (by kernel_rfl) (CoSound.add (CoSound.add (CoSound.none _ _ _ _ _) (co_spec_l6Rd_pick F g)) (co_spec_l3Tree F g)) ((k_spec_l91Nodes F g a0 a1 h).trans e1)
theorem wk_spec_l91Nodes (F g:Nat):∀args h r,u2 (c_spec_l91Nodes F g) args h=some r->CoTri prog tW Post main (none,false) 40 args h r:=fun args h r e=>(co_spec_l91Nodes F g args h r e).weak
theorem co_spec_l6Rd_of (F g:Nat):∀args h r,u2 (c_spec_l6Rd_of F g) args h=some r->CoTri prog tW Post main (fk,true) 42 args h r:=by
 intro args h r e;obtain ⟨a0,a1,rfl,e1⟩:=zaf3 e;exact zacb func42 rfl rfl rfl ntmps42 (by kernel_rfl) (CoSound.add (CoSound.none _ _ _ _ _) (co_spec_l6Rd_pick F g)) ((k_spec_l6Rd_of F g a0 a1 h).trans e1)
theorem wk_spec_l6Rd_of (F g:Nat):∀args h r,u2 (c_spec_l6Rd_of F g) args h=some r->CoTri prog tW Post main (none,false) 42 args h r:=fun args h r e=>(co_spec_l6Rd_of F g args h r e).weak
theorem co_spec_l91Tree (F g:Nat):∀args h r,u2 (c_spec_l91Tree F g) args h=some r->CoTri prog tW Post main (fk,true) 32 args h r:=by
 intro args h r e;obtain ⟨a0,a1,rfl,e1⟩:=zaf3 e;exact zacb func32 rfl rfl rfl ntmps32 (by kernel_rfl) (CoSound.add (CoSound.add (CoSound.add (CoSound.none _ _ _ _ _) (co_spec_l6Rd_pick F g)) (co_spec_l91Nodes F g)) (co_spec_l6Rd_of F g)) ((k_spec_l91Tree F g a0 a1 h).trans e1)
theorem wk_spec_l91Tree (F g:Nat):∀args h r,u2 (c_spec_l91Tree F g) args h=some r->CoTri prog tW Post main (none,false) 32 args h r:=fun args h r e=>(co_spec_l91Tree F g args h r e).weak
theorem co_spec_l91Some (F g:Nat):∀args h r,u1 (c_spec_l91Some F g) args h=some r->CoTri prog tW Post main (fk,true) 13 args h r:=by
 intro args h r e;obtain ⟨a0,rfl,e1⟩:=zafs e;exact zacb func13 rfl rfl rfl ntmps13 (by kernel_rfl) (CoSound.add (CoSound.add (CoSound.none _ _ _ _ _) (co_spec_l6Open F g)) (co_spec_l91Tree F g)) ((k_spec_l91Some F g a0 h).trans e1)
theorem wk_spec_l91Some (F g:Nat):∀args h r,u1 (c_spec_l91Some F g) args h=some r->CoTri prog tW Post main (none,false) 13 args h r:=fun args h r e=>(co_spec_l91Some F g args h r e).weak
theorem zaug {P:Program} {Post:Value->World->Prop} {main:Bool} {fk:Option Fk} {f:FuncId} {c:AV->H->Option R} (hs:∀args h r,u1 c args h=some r->CoTri P tW Post main (fk,true) f args h r):∀args h r,u1 (quietC c) args h=some r->CoTri P tW Post main (fk,true) f args h r:=by
 intro args h r e
 obtain ⟨a0,rfl,e1⟩:=zafs e
 obtain ⟨r1,h1,e2⟩:=zaay e1
 obtain ⟨h2,e3⟩:=zaac e2
 obtain ⟨h3,e4⟩:=zaac e3
 cases e4
 exact (hs [a0] h.mark r1 h1).quiet h2 (Nat.le_of_ble_eq_true h3)
end
end Go.AI
