/- The functions that the law FnExactMiddleFree reaches, as the evaluator reads them, in company. -/
import Derived.Test.YtjhnjonklcnejaaGreatDoorFre
import Derived.KernelRfl
set_option linter.unusedVariables false
set_option linter.unusedSimpArgs false
set_option maxRecDepth 100000
namespace Go.AI.T
open Go Go.Proofs.Tryz Go.RowKit Go.AI Go.Conc Go.Co Go.Co.Cnt
noncomputable section
variable {Post : Value -> World -> Prop} {main : Bool} {fk : Option Fk}
noncomputable def c_spec_MiddleFree (F g : Nat) (a0 : AV) (h : H) : Option R := bindR (c_spec_TreeIn F g a0 h) fun x1 h => aNot x1 h fun x2 h => withBool x2 fun t3 => bc t3 (some (AV.one .tup (AV.cons (AV.str [] 0) (AV.cons (AV.bool false) (AV.leaf .nil))), h)) (bindR (c_spec_l6mFree F g a0 h) fun x4 h => some (AV.one .tup (AV.cons x4 (AV.cons (AV.bool true) (AV.leaf .nil))), h))
theorem k_spec_MiddleFree (F g : Nat) (a0 : AV) (h : H) : callD prog (Env.add (Env.add (fun _ _ _ => none : Env) 35 (u1 (c_spec_TreeIn F g))) 36 (u1 (c_spec_l6mFree F g))) 9 F (bodyOf f16) [2, 3] (.two .o (.two (.two .o (.two (.two .o .o) .o)) (.two .o .o))) [a0] h = c_spec_MiddleFree F g a0 h := by kernel_rfl
theorem co_spec_MiddleFree (F g : Nat) : ∀ args h r, u1 (c_spec_MiddleFree F g) args h = some r -> CoTri prog tW Post main (fk, true) 16 args h r := by
  intro args h r e; obtain ⟨a0, rfl, e1⟩ := zafp e; exact zacc func16 rfl rfl rfl ntmps16 (by kernel_rfl) (CoSound.add (CoSound.add (CoSound.none _ _ _ _ _) (co_spec_TreeIn F g)) (co_spec_l6mFree F g)) ((k_spec_MiddleFree F g a0 h).trans e1)
theorem wk_spec_MiddleFree (F g : Nat) : ∀ args h r, u1 (c_spec_MiddleFree F g) args h = some r -> CoTri prog tW Post main (none, false) 16 args h r := fun args h r e => (co_spec_MiddleFree F g args h r e).weak
noncomputable def c_laws_FnExactMiddleFree_j1 (F g : Nat) (vs : List AV) (h : H) : Option R := (fun x11 x12 => aPick x11 (AV.bool true) x12 h fun x13 h => withBool x13 fun t14 => bc t14 (some ((AV.bool false), h)) (some ((AV.bool true), h))) (hd vs) (hd (tl vs))
noncomputable def c_laws_FnExactMiddleFree (F g : Nat) (a0 : AV) (h : H) : Option R := aLenK 0 a0 h fun x1 h => aCmpI (fun a b => ilt b a) x1 (AV.int 3 (Int.ofNat 1048576)) h fun x2 h => withBool x2 fun t3 => bc t3 (some ((AV.bool true), h)) (bindR (c_spec_MiddleFree F g a0 h) fun x4 h => aExtract x4 0 h fun x5 h => aExtract x4 1 h fun x6 h => bindR (c_impl_MiddleFree F g a0 h) fun x7 h => aExtract x7 0 h fun x8 h => aExtract x7 1 h fun x9 h => aCmpS (fun a b => bnot (eqL a b)) x8 x5 h fun x10 h => guardB false x10 (aEq true 0 x9 x6 h fun x15 h => (c_laws_FnExactMiddleFree_j1 F g) [x10, x15] h) ((c_laws_FnExactMiddleFree_j1 F g) [x10, (AV.one .tup (AV.leaf .nil))] h))
theorem k_laws_FnExactMiddleFree (F g : Nat) (a0 : AV) (h : H) : callD prog (Env.add (Env.add (fun _ _ _ => none : Env) 16 (u1 (c_spec_MiddleFree F g))) 15 (u1 (c_impl_MiddleFree F g))) 28 F (bodyOf f6) [2] (.two .o (.two (.two .o (.two (.two .o .o) .o)) (.two .o (.two .o (.two (.two (.at_ [23, 26] .o .o) (.two (.two .o .o) .o)) (.two .o .o)))))) [a0] h = c_laws_FnExactMiddleFree F g a0 h := by kernel_rfl
theorem root_laws_FnExactMiddleFree (F g : Nat) {a0 : AV} {h h' : H} (e1 : c_laws_FnExactMiddleFree F g a0 h = some (.bool true, h')) {ι : Inj} {v0 : Value} {W : World} (hR : Rel ι h W) (hC : Cov ι h (lgLaw W)) (hV : VL ι [a0] [v0]) : Walk prog tW (fun v w' => v = .bool true /\ Below W.heap.size W w') true (lgLaw W) (G (Frame.enter prog 6 #[v0] .normal) []) W :=
  zas7 (fk0 := (none, false)) func6 rfl (by kernel_rfl) rfl ntmps6 (by kernel_rfl) (CoSound.add (CoSound.add (CoSound.none _ _ _ _ _) (wk_spec_MiddleFree F g)) (co_impl_MiddleFree F g)) ((k_laws_FnExactMiddleFree F g a0 h).trans e1) hR hC hV (zaur W) rfl rfl rfl fun v s' w' q => zaul q
end
end Go.AI.T
