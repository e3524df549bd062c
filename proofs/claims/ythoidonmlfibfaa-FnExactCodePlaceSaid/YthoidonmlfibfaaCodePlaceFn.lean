/- The functions that the law FnExactCodePlace reaches, and that it is true of every number. -/
import Derived.Test.YthoidonmlfibfaaPr4
import Derived.Test.YthoidonmlfibfaaProg
import Derived.KernelRfl
namespace Go.AI.T
open Go Go.RowKit Go.AI
set_option linter.unusedVariables false
set_option linter.unusedSimpArgs false
set_option maxRecDepth 100000
noncomputable section
-- "loop.example/treenumbers/spec.l6In"
noncomputable def c_spec_l6In_j1 (F g : Nat) (vs : List AV) (h : H) : Option R := (fun x2 x3 => aPick x2 x3 (AV.bool false) h fun x4 h => some (x4, h)) (hd vs) (hd (tl vs))
noncomputable def c_spec_l6In (F g : Nat) (a0 a1 a2 : AV) (h : H) : Option R := aCmpI (fun a b => ile b a) a0 a1 h fun x1 h => guardB true x1 (aCmpI ile a0 a2 h fun x5 h => (c_spec_l6In_j1 F g) [x1, x5] h) ((c_spec_l6In_j1 F g) [x1, (AV.one .tup (AV.leaf .nil))] h)
noncomputable def A_spec_l6In : An := (.two .o (.two (.at_ [10, 13] .o .o) .o))
noncomputable def b_spec_l6In : Code := bodyOf Go.Proofs.Try.f49
theorem k_spec_l6In (F g : Nat) (a0 a1 a2 : AV) (h : H) : callD Go.Proofs.Try.prog (fun _ _ _ => none : Env) 15 F b_spec_l6In [6] A_spec_l6In [a0, a1, a2] h = c_spec_l6In F g a0 a1 a2 h := by kernel_rfl
theorem s_spec_l6In (F g : Nat) : ∀ args h r, u3 (c_spec_l6In F g) args h = some r → Tri Go.Proofs.Try.prog 49 args h r := by
  intro args h r e; obtain ⟨a0, a1, a2, rfl, e1⟩ := u3_some e; exact fn_sound Go.Proofs.Try.func49 rfl rfl rfl Go.Proofs.Try.ntmps49 (Sound.none _) ((k_spec_l6In F g a0 a1 a2 h).trans e1)

-- "loop.example/treenumbers/spec.CodePlace"
noncomputable def c_spec_CodePlace_j1 (F g : Nat) (vs : List AV) (h : H) : Option R := (fun x3 x4 x5 => aPick x4 (AV.bool true) x5 h fun x6 h => withBool x6 fun t7 => bc t7 (some (AV.one .tup (AV.cons (AV.int 3 (Int.ofNat 0)) (AV.cons (AV.bool false) (AV.leaf .nil))), h)) (bindR (c_spec_l2Place F g x3 h) fun x8 h => some (AV.one .tup (AV.cons x8 (AV.cons (AV.bool true) (AV.leaf .nil))), h))) (hd vs) (hd (tl vs)) (hd (tl (tl vs)))
noncomputable def c_spec_CodePlace (F g : Nat) (a0 : AV) (h : H) : Option R := bindR (c_spec_l6In F g a0 (AV.int 3 (Int.ofNat 2)) (AV.int 3 (Int.ofNat 5000)) h) fun x1 h => aNot x1 h fun x2 h => guardB false x2 (bindR (c_spec_l2Prime F g a0 h) fun x9 h => aNot x9 h fun x10 h => (c_spec_CodePlace_j1 F g) [a0, x2, x10] h) ((c_spec_CodePlace_j1 F g) [a0, x2, (AV.one .tup (AV.leaf .nil))] h)
noncomputable def A_spec_CodePlace : An := (.two .o (.two (.two (.at_ [0, 7, 10] .o .o) (.two (.two .o .o) .o)) (.two .o .o)))
noncomputable def b_spec_CodePlace : Code := bodyOf Go.Proofs.Try.f21
theorem k_spec_CodePlace (F g : Nat) (a0 : AV) (h : H) : callD Go.Proofs.Try.prog (Env.add (Env.add (Env.add (fun _ _ _ => none : Env) 49 (u3 (c_spec_l6In F g))) 59 (u1 (c_spec_l2Place F g))) 58 (u1 (c_spec_l2Prime F g))) 14 F b_spec_CodePlace [2, 3] A_spec_CodePlace [a0] h = c_spec_CodePlace F g a0 h := by kernel_rfl
theorem s_spec_CodePlace (F g : Nat) : ∀ args h r, u1 (c_spec_CodePlace F g) args h = some r → Tri Go.Proofs.Try.prog 21 args h r := by
  intro args h r e; obtain ⟨a0, rfl, e1⟩ := u1_some e; exact fn_sound Go.Proofs.Try.func21 rfl rfl rfl Go.Proofs.Try.ntmps21 (Sound.add (Sound.add (Sound.add (Sound.none _) (s_spec_l6In F g)) (s_spec_l2Place F g)) (s_spec_l2Prime F g)) ((k_spec_CodePlace F g a0 h).trans e1)

-- "loop.example/treenumbers/laws.FnExactCodePlace"
noncomputable def c_laws_FnExactCodePlace_j1 (F g : Nat) (vs : List AV) (h : H) : Option R := (fun x8 x9 => aPick x8 (AV.bool true) x9 h fun x10 h => withBool x10 fun t11 => bc t11 (some ((AV.bool false), h)) (some ((AV.bool true), h))) (hd vs) (hd (tl vs))
noncomputable def c_laws_FnExactCodePlace (F g : Nat) (a0 : AV) (h : H) : Option R := bindR (c_spec_CodePlace F g a0 h) fun x1 h => aExtract x1 0 h fun x2 h => aExtract x1 1 h fun x3 h => bindR (c_impl_CodePlace F g a0 h) fun x4 h => aExtract x4 0 h fun x5 h => aExtract x4 1 h fun x6 h => aCmpI (fun a b => bnot (ieq a b)) x5 x2 h fun x7 h => guardB false x7 (aEq true 0 x6 x3 h fun x12 h => (c_laws_FnExactCodePlace_j1 F g) [x7, x12] h) ((c_laws_FnExactCodePlace_j1 F g) [x7, (AV.one .tup (AV.leaf .nil))] h)
noncomputable def A_laws_FnExactCodePlace : An := (.two .o (.two .o (.two .o (.two (.two (.at_ [20, 23] .o .o) (.two (.two .o .o) .o)) (.two .o .o)))))
noncomputable def b_laws_FnExactCodePlace : Code := bodyOf Go.Proofs.Try.f6
theorem k_laws_FnExactCodePlace (F g : Nat) (a0 : AV) (h : H) : callD Go.Proofs.Try.prog (Env.add (Env.add (fun _ _ _ => none : Env) 21 (u1 (c_spec_CodePlace F g))) 22 (u1 (c_impl_CodePlace F g))) 25 F b_laws_FnExactCodePlace [2] A_laws_FnExactCodePlace [a0] h = c_laws_FnExactCodePlace F g a0 h := by kernel_rfl
theorem s_laws_FnExactCodePlace (F g : Nat) : ∀ args h r, u1 (c_laws_FnExactCodePlace F g) args h = some r → Tri Go.Proofs.Try.prog 6 args h r := by
  intro args h r e; obtain ⟨a0, rfl, e1⟩ := u1_some e; exact fn_sound Go.Proofs.Try.func6 rfl rfl rfl Go.Proofs.Try.ntmps6 (Sound.add (Sound.add (Sound.none _) (s_spec_CodePlace F g)) (s_impl_CodePlace F g)) ((k_laws_FnExactCodePlace F g a0 h).trans e1)

end
end Go.AI.T
namespace Go.AI.T
open Go Go.RowKit Go.AI
set_option linter.unusedVariables false
set_option linter.unusedSimpArgs false
set_option maxRecDepth 100000
noncomputable section

theorem neqSelf {q : Nat} {h : H} {k : AV → H → Option R} : aCmpI (fun a b => bnot (ieq a b)) (nI q) (nI q) h k = k (.bool false) h := by
  show k (.bool (bnot (Nat.beq q q))) h = _
  rw [Nat.beq_refl]; rfl
theorem law_num {n : Int} (hn : n ≤ 9223372036854775807) : tells (c_laws_FnExactCodePlace 2097152 20 (.int 3 n) H0) = true := by
  cases n with
  | negSucc m => kernel_rfl
  | ofNat m =>
    have hin : ∀ (F g : Nat) (h : H), c_spec_l6In F g (nI m) (nI 2) (nI 5000) h = some (.bool (bc (Nat.ble 2 m) (Nat.ble m 5000) false), h) := fun F g h => by
      delta c_spec_l6In
      show guardB true (.bool (Nat.ble 2 m)) (aCmpI ile (nI m) (nI 5000) h fun x5 h => c_spec_l6In_j1 F g [.bool (Nat.ble 2 m), x5] h) (c_spec_l6In_j1 F g [.bool (Nat.ble 2 m), .one .tup (.leaf .nil)] h) = _
      cases Nat.ble 2 m <;> rfl
    have e2 : ∀ (F g : Nat) (h : H), c_impl_CodePlace F g (nI m) h = some (toldN (qT m), h) := fun F g h => rfl
    have e3 : ∀ (F g : Nat) (h : H), c_spec_CodePlace F g (nI m) h = some (toldN (qT m), h) := fun F g h => by
      delta c_spec_CodePlace
      rw [show AV.int 3 (Int.ofNat 2) = nI 2 from rfl, show AV.int 3 (Int.ofNat 5000) = nI 5000 from rfl, hin, bindR_some', aNot_b]
      by_cases h2 : 2 ≤ m ∧ m ≤ 5000
      · rw [ble_true h2.1, bc_true, ble_true h2.2]
        have e4 : c_spec_l2Prime F g (nI m) h = some (.bool (bnot (Nat.beq (qT m) 0)), h) := by
          show bc (Nat.ble 2 m) (bc (Nat.ble m 5000) (some (AV.bool (bnot (Nat.beq (qT m) 0)), h)) none) none = _
          rw [ble_true h2.1, ble_true h2.2]; rfl
        have e5 : c_spec_l2Place F g (nI m) h = bc (Nat.beq (qT m) 0) none (some (nI (qT m), h)) := rfl
        rw [e4, bindR_some']
        cases hq : qT m with
        | zero => rfl
        | succ q =>
          refine (show _ = bindR (c_spec_l2Place F g (nI m) h) (fun x8 h => some (.one .tup (.cons x8 (.cons (.bool true) (.leaf .nil))), h)) from rfl).trans ?_
          rw [e5, hq]; rfl
      · rw [show bc (Nat.ble 2 m) (Nat.ble m 5000) false = false by
          by_cases h3 : 2 ≤ m
          · rw [ble_true h3, bc_true, ble_false (by omega)]
          · rw [ble_false (by omega), bc_false], qT_out h2]
        rfl
    delta c_laws_FnExactCodePlace
    rw [e3, bindR_some']
    delta toldN
    rw [aExtract_0, aExtract_1, show AV.int 3 (Int.ofNat m) = nI m from rfl, e2, bindR_some']
    delta toldN
    rw [aExtract_0, aExtract_1, neqSelf]
    cases qT m <;> rfl
end
end Go.AI.T
