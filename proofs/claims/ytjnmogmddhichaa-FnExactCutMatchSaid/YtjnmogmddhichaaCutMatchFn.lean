/- The functions that the law FnExactCutMatch reaches, as the evaluator reads them. -/
import Derived.KernelRfl
import Derived.Test.YtjnmogmddhichaaRaw
import Derived.Test.YtjnmogmddhichaaBkm
import Derived.Test.YtjnmogmddhichaaPure
import Derived.Test.YtjnmogmddhichaaProg
namespace Go.AI.T
open Go Go.RowKit Go.AI
set_option linter.unusedVariables false
set_option linter.unusedSimpArgs false
set_option maxRecDepth 100000
noncomputable section
-- "loop.example/treenumbers/laws.FnExactCutMatch"
noncomputable def c_laws_FnExactCutMatch_j1 (F g : Nat) (vs : List AV) (h : H) : Option R := (fun x11 x12 => aPick x11 (AV.bool true) x12 h fun x13 h => withBool x13 fun t14 => bc t14 (some ((AV.bool false), h)) (some ((AV.bool true), h))) (hd vs) (hd (tl vs))
noncomputable def c_laws_FnExactCutMatch (F g : Nat) (a0 : AV) (h : H) : Option R := aLenK 0 a0 h fun x1 h => aCmpI (fun a b => ilt b a) x1 (AV.int 3 (Int.ofNat 1048576)) h fun x2 h => withBool x2 fun t3 => bc t3 (some ((AV.bool true), h)) (bindR (c_spec_CutMatch F g a0 h) fun x4 h => aExtract x4 0 h fun x5 h => aExtract x4 1 h fun x6 h => bindR (c_impl_CutMatch F g a0 h) fun x7 h => aExtract x7 0 h fun x8 h => aExtract x7 1 h fun x9 h => aCmpI (fun a b => bnot (ieq a b)) x8 x5 h fun x10 h => guardB false x10 (aEq true 0 x9 x6 h fun x15 h => (c_laws_FnExactCutMatch_j1 F g) [x10, x15] h) ((c_laws_FnExactCutMatch_j1 F g) [x10, (AV.one .tup (AV.leaf .nil))] h))
noncomputable def A_laws_FnExactCutMatch : An := (.two .o (.two (.two .o (.two (.two .o .o) .o)) (.two .o (.two .o (.two (.two (.at_ [23, 26] .o .o) (.two (.two .o .o) .o)) (.two .o .o))))))
noncomputable def b_laws_FnExactCutMatch : Code := bodyOf Go.Proofs.Try.f6
theorem k_laws_FnExactCutMatch (F g : Nat) (a0 : AV) (h : H) : callD Go.Proofs.Try.prog (Env.add (Env.add (fun _ _ _ => none : Env) 20 (u1 (c_spec_CutMatch F g))) 11 (u1 (c_impl_CutMatch F g))) 28 F b_laws_FnExactCutMatch [2] A_laws_FnExactCutMatch [a0] h = c_laws_FnExactCutMatch F g a0 h := by kernel_rfl
theorem s_laws_FnExactCutMatch (F g : Nat) : ∀ args h r, u1 (c_laws_FnExactCutMatch F g) args h = some r → Tri Go.Proofs.Try.prog 6 args h r := by
  intro args h r e; obtain ⟨a0, rfl, e1⟩ := u1_some e; exact fn_sound Go.Proofs.Try.func6 rfl rfl rfl Go.Proofs.Try.ntmps6 (Sound.add (Sound.add (Sound.none _) (s_spec_CutMatch F g)) (s_impl_CutMatch F g)) ((k_laws_FnExactCutMatch F g a0 h).trans e1)

end
end Go.AI.T
