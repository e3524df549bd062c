/- The functions that the law FnExactMiddleAlike reaches, as the evaluator reads them, in company. -/
import Derived.Test.YtjhnjonklcnejaaGreatDoorFre
import Derived.KernelRfl
set_option linter.unusedVariables false
set_option linter.unusedSimpArgs false
set_option maxRecDepth 100000
namespace Go.AI.T
open Go Go.Proofs.Tryz Go.RowKit Go.AI Go.Conc Go.Co Go.Co.Cnt
noncomputable section
variable {Post : Value -> World -> Prop} {main : Bool} {fk : Option Fk}
noncomputable def c_spec_MiddleAlike_j1 (F g : Nat) (vs : List AV) (h : H) : Option R := (fun x7 x8 => aPick x7 x8 (AV.bool false) h fun x9 h => some (x9, h)) (hd vs) (hd (tl vs))
noncomputable def c_spec_MiddleAlike_j2 (F g : Nat) (vs : List AV) (h : H) : Option R := (fun x2 x3 x4 x5 => aPick x4 x5 (AV.bool false) h fun x6 h => guardB true x6 (bindR (c_spec_l6mFree F g x2 h) fun x10 h => bindR (c_spec_l6mFree F g x3 h) fun x11 h => aCmpS eqL x10 x11 h fun x12 h => (c_spec_MiddleAlike_j1 F g) [x6, x12] h) ((c_spec_MiddleAlike_j1 F g) [x6, (AV.one .tup (AV.leaf .nil))] h)) (hd vs) (hd (tl vs)) (hd (tl (tl vs))) (hd (tl (tl (tl vs))))
noncomputable def c_spec_MiddleAlike (F g : Nat) (a0 a1 : AV) (h : H) : Option R := bindR (c_spec_TreeIn F g a0 h) fun x1 h => guardB true x1 (bindR (c_spec_TreeIn F g a1 h) fun x13 h => (c_spec_MiddleAlike_j2 F g) [a0, a1, x1, x13] h) ((c_spec_MiddleAlike_j2 F g) [a0, a1, x1, (AV.one .tup (AV.leaf .nil))] h)
theorem k_spec_MiddleAlike (F g : Nat) (a0 a1 : AV) (h : H) : callD prog (Env.add (Env.add (fun _ _ _ => none : Env) 35 (u1 (c_spec_TreeIn F g))) 36 (u1 (c_spec_l6mFree F g))) 18 F (bodyOf f19) [4] (.two .o (.two (.at_ [0, 1, 7, 9] .o (.at_ [11, 16] .o .o)) .o)) [a0, a1] h = c_spec_MiddleAlike F g a0 a1 h := by kernel_rfl
theorem co_spec_MiddleAlike (F g : Nat) : ∀ args h r, u2 (c_spec_MiddleAlike F g) args h = some r -> CoTri prog tW Post main (fk, true) 19 args h r := by
  intro args h r e; obtain ⟨a0, a1, rfl, e1⟩ := zafr e; exact zacc func19 rfl rfl rfl ntmps19 (by kernel_rfl) (CoSound.add (CoSound.add (CoSound.none _ _ _ _ _) (co_spec_TreeIn F g)) (co_spec_l6mFree F g)) ((k_spec_MiddleAlike F g a0 a1 h).trans e1)
theorem wk_spec_MiddleAlike (F g : Nat) : ∀ args h r, u2 (c_spec_MiddleAlike F g) args h = some r -> CoTri prog tW Post main (none, false) 19 args h r := fun args h r e => (co_spec_MiddleAlike F g args h r e).weak
noncomputable def c_impl_MiddleAlike_j1 (F g : Nat) (vs : List AV) (h : H) : Option R := (fun x12 x13 => aPick x12 x13 (AV.bool false) h fun x14 h => some (x14, h)) (hd vs) (hd (tl vs))
noncomputable def c_impl_MiddleAlike_j2 (F g : Nat) (vs : List AV) (h : H) : Option R := (fun x7 x8 x9 x10 => aPick x9 x10 (AV.bool false) h fun x11 h => guardB true x11 (aCmpS eqL x7 x8 h fun x15 h => (c_impl_MiddleAlike_j1 F g) [x11, x15] h) ((c_impl_MiddleAlike_j1 F g) [x11, (AV.one .tup (AV.leaf .nil))] h)) (hd vs) (hd (tl vs)) (hd (tl (tl vs))) (hd (tl (tl (tl vs))))
noncomputable def c_impl_MiddleAlike (F g : Nat) (a0 a1 : AV) (h : H) : Option R := bindR (c_impl_MiddleFree F g a0 h) fun x1 h => aExtract x1 0 h fun x2 h => aExtract x1 1 h fun x3 h => bindR (c_impl_MiddleFree F g a1 h) fun x4 h => aExtract x4 0 h fun x5 h => aExtract x4 1 h fun x6 h => guardB true x3 ((c_impl_MiddleAlike_j2 F g) [x2, x5, x3, x6] h) ((c_impl_MiddleAlike_j2 F g) [x2, x5, x3, (AV.one .tup (AV.leaf .nil))] h)
theorem k_impl_MiddleAlike (F g : Nat) (a0 a1 : AV) (h : H) : callD prog (Env.add (fun _ _ _ => none : Env) 15 (u1 (c_impl_MiddleFree F g))) 28 F (bodyOf f13) [4] (.two .o (.two .o (.two .o (.two (.at_ [5, 7, 20, 21] .o (.at_ [23, 26] .o .o)) .o)))) [a0, a1] h = c_impl_MiddleAlike F g a0 a1 h := by kernel_rfl
theorem co_impl_MiddleAlike (F g : Nat) : ∀ args h r, u2 (c_impl_MiddleAlike F g) args h = some r -> CoTri prog tW Post main (none, false) 13 args h r := by
  intro args h r e; obtain ⟨a0, a1, rfl, e1⟩ := zafr e; exact zacc func13 rfl rfl rfl ntmps13 (by kernel_rfl) (CoSound.add (CoSound.none _ _ _ _ _) (co_impl_MiddleFree F g)) ((k_impl_MiddleAlike F g a0 a1 h).trans e1)
noncomputable def c_laws_FnExactMiddleAlike (F g : Nat) (a0 a1 : AV) (h : H) : Option R := aLenK 0 a0 h fun x1 h => aCmpI (fun a b => ilt b a) x1 (AV.int 3 (Int.ofNat 1048576)) h fun x2 h => withBool x2 fun t3 => bc t3 (some ((AV.bool true), h)) (aLenK 0 a1 h fun x4 h => aCmpI (fun a b => ilt b a) x4 (AV.int 3 (Int.ofNat 1048576)) h fun x5 h => withBool x5 fun t6 => bc t6 (some ((AV.bool true), h)) (bindR (c_spec_MiddleAlike F g a0 a1 h) fun x7 h => bindR (c_impl_MiddleAlike F g a0 a1 h) fun x8 h => aEq true 0 x8 x7 h fun x9 h => withBool x9 fun t10 => bc t10 (some ((AV.bool false), h)) (some ((AV.bool true), h))))
theorem k_laws_FnExactMiddleAlike (F g : Nat) (a0 a1 : AV) (h : H) : callD prog (Env.add (Env.add (fun _ _ _ => none : Env) 19 (u2 (c_spec_MiddleAlike F g))) 13 (u2 (c_impl_MiddleAlike F g))) 22 F (bodyOf f7) [4] (.two .o (.two (.two .o (.two (.two .o .o) .o)) (.two (.two .o (.two (.two .o .o) .o)) (.two .o (.two .o (.two (.two .o (.two (.two .o .o) .o)) (.two .o .o))))))) [a0, a1] h = c_laws_FnExactMiddleAlike F g a0 a1 h := by kernel_rfl
theorem root_laws_FnExactMiddleAlike (F g : Nat) {a0 a1 : AV} {h h' : H} (e1 : c_laws_FnExactMiddleAlike F g a0 a1 h = some (.bool true, h')) {ι : Inj} {v0 v1 : Value} {W : World} (hR : Rel ι h W) (hC : Cov ι h (lgLaw W)) (hV : VL ι [a0, a1] [v0, v1]) : Walk prog tW (fun v w' => v = .bool true /\ Below W.heap.size W w') true (lgLaw W) (G (Frame.enter prog 7 #[v0, v1] .normal) []) W :=
  zas7 (fk0 := (none, false)) func7 rfl (by kernel_rfl) rfl ntmps7 (by kernel_rfl) (CoSound.add (CoSound.add (CoSound.none _ _ _ _ _) (wk_spec_MiddleAlike F g)) (co_impl_MiddleAlike F g)) ((k_laws_FnExactMiddleAlike F g a0 a1 h).trans e1) hR hC hV (zaur W) rfl rfl rfl fun v s' w' q => zaul q
end
end Go.AI.T
