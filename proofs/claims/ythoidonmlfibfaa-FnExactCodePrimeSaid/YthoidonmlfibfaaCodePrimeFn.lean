/- The functions that the law FnExactCodePrime reaches, and that it is true of every number. -/
import Derived.Test.YthoidonmlfibfaaPr4
import Derived.Test.YthoidonmlfibfaaProg
import Derived.KernelRfl
namespace Go.AI.T
open Go Go.RowKit Go.AI
set_option linter.unusedVariables false
set_option linter.unusedSimpArgs false
set_option maxRecDepth 100000
noncomputable section
-- "loop.example/treenumbers/spec.CodePrime"
noncomputable def c_spec_CodePrime (F g : Nat) (a0 : AV) (h : H) : Option R := aCmpI ilt a0 (AV.int 3 (Int.ofNat 1)) h fun x1 h => withBool x1 fun t2 => bc t2 (some (AV.one .tup (AV.cons (AV.int 3 (Int.ofNat 0)) (AV.cons (AV.bool false) (AV.leaf .nil))), h)) (bindR (c_spec_l2At F g a0 h) fun x3 h => aCmpI (fun a b => ilt b a) x3 (AV.int 3 (Int.ofNat 0)) h fun x4 h => some (AV.one .tup (AV.cons x3 (AV.cons x4 (AV.leaf .nil))), h))
noncomputable def A_spec_CodePrime : An := (.two .o (.two (.two .o (.two (.two .o .o) .o)) (.two .o (.two .o .o))))
noncomputable def b_spec_CodePrime : Code := bodyOf Go.Proofs.Try.f19
theorem k_spec_CodePrime (F g : Nat) (a0 : AV) (h : H) : callD Go.Proofs.Try.prog (Env.add (fun _ _ _ => none : Env) 56 (u1 (c_spec_l2At F g))) 12 F b_spec_CodePrime [2, 3] A_spec_CodePrime [a0] h = c_spec_CodePrime F g a0 h := by kernel_rfl
theorem s_spec_CodePrime (F g : Nat) : ∀ args h r, u1 (c_spec_CodePrime F g) args h = some r → Tri Go.Proofs.Try.prog 19 args h r := by
  intro args h r e; obtain ⟨a0, rfl, e1⟩ := u1_some e; exact fn_sound Go.Proofs.Try.func19 rfl rfl rfl Go.Proofs.Try.ntmps19 (Sound.add (Sound.none _) (s_spec_l2At F g)) ((k_spec_CodePrime F g a0 h).trans e1)

-- "loop.example/treenumbers/laws.FnExactCodePrime"
noncomputable def c_laws_FnExactCodePrime_j1 (F g : Nat) (vs : List AV) (h : H) : Option R := (fun x8 x9 => aPick x8 (AV.bool true) x9 h fun x10 h => withBool x10 fun t11 => bc t11 (some ((AV.bool false), h)) (some ((AV.bool true), h))) (hd vs) (hd (tl vs))
noncomputable def c_laws_FnExactCodePrime (F g : Nat) (a0 : AV) (h : H) : Option R := bindR (c_spec_CodePrime F g a0 h) fun x1 h => aExtract x1 0 h fun x2 h => aExtract x1 1 h fun x3 h => bindR (c_impl_CodePrime F g a0 h) fun x4 h => aExtract x4 0 h fun x5 h => aExtract x4 1 h fun x6 h => aCmpI (fun a b => bnot (ieq a b)) x5 x2 h fun x7 h => guardB false x7 (aEq true 0 x6 x3 h fun x12 h => (c_laws_FnExactCodePrime_j1 F g) [x7, x12] h) ((c_laws_FnExactCodePrime_j1 F g) [x7, (AV.one .tup (AV.leaf .nil))] h)
noncomputable def A_laws_FnExactCodePrime : An := (.two .o (.two .o (.two .o (.two (.two (.at_ [20, 23] .o .o) (.two (.two .o .o) .o)) (.two .o .o)))))
noncomputable def b_laws_FnExactCodePrime : Code := bodyOf Go.Proofs.Try.f5
theorem k_laws_FnExactCodePrime (F g : Nat) (a0 : AV) (h : H) : callD Go.Proofs.Try.prog (Env.add (Env.add (fun _ _ _ => none : Env) 19 (u1 (c_spec_CodePrime F g))) 20 (u1 (c_impl_CodePrime F g))) 25 F b_laws_FnExactCodePrime [2] A_laws_FnExactCodePrime [a0] h = c_laws_FnExactCodePrime F g a0 h := by kernel_rfl
theorem s_laws_FnExactCodePrime (F g : Nat) : ∀ args h r, u1 (c_laws_FnExactCodePrime F g) args h = some r → Tri Go.Proofs.Try.prog 5 args h r := by
  intro args h r e; obtain ⟨a0, rfl, e1⟩ := u1_some e; exact fn_sound Go.Proofs.Try.func5 rfl rfl rfl Go.Proofs.Try.ntmps5 (Sound.add (Sound.add (Sound.none _) (s_spec_CodePrime F g)) (s_impl_CodePrime F g)) ((k_laws_FnExactCodePrime F g a0 h).trans e1)

end
end Go.AI.T
namespace Go.AI.T
open Go Go.RowKit Go.AI
set_option linter.unusedVariables false
set_option linter.unusedSimpArgs false
set_option maxRecDepth 100000
noncomputable section

theorem neqSelf {q : Nat} {h : H} {k : AV → H → Option R} : aCmpI (fun a b => bnot (ieq a b)) (nI q) (nI q) h k = k (.bool false) h := by
  show k (.bool (bnot (Nat.beq q q))) h = _
  rw [Nat.beq_refl]; rfl
theorem law_num {n : Int} (hn : n ≤ 9223372036854775807) : tells (c_laws_FnExactCodePrime 2097152 20 (.int 3 n) H0) = true := by
  cases n with
  | negSucc m => kernel_rfl
  | ofNat m =>
    cases m with
    | zero => kernel_rfl
    | succ m =>
      have e1 : ∀ (F g : Nat) (h : H), c_spec_l2At F g (nI (m + 1)) h = some (nI (pT (m + 1)), h) := fun F g h => by
        show bc (Nat.ble 1 (m + 1)) (bc (Nat.ble (m + 1) 9223372036854775807) (some (nI (pT (m + 1)), h)) none) none = _
        rw [ble_true (by omega), ble_true (by have : ((m + 1 : Nat) : Int) ≤ 9223372036854775807 := hn; omega)]; rfl
      have e2 : ∀ (F g : Nat) (h : H), c_impl_CodePrime F g (nI (m + 1)) h = some (toldN (pT (m + 1)), h) := fun F g h => rfl
      have e3 : ∀ (F g : Nat) (h : H), c_spec_CodePrime F g (nI (m + 1)) h = some (toldN (pT (m + 1)), h) := fun F g h => by
        delta c_spec_CodePrime
        rw [show AV.int 3 (Int.ofNat 1) = nI 1 from rfl, lssN, withBool_bool, ble_false (by omega), bc_false, e1, bindR_some']
        cases pT (m + 1) <;> rfl
      delta c_laws_FnExactCodePrime
      rw [e3, bindR_some']
      delta toldN
      rw [aExtract_0, aExtract_1, show AV.int 3 (Int.ofNat (m + 1)) = nI (m + 1) from rfl, e2, bindR_some']
      delta toldN
      rw [aExtract_0, aExtract_1, neqSelf]
      cases pT (m + 1) <;> rfl
end
end Go.AI.T
