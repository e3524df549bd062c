/- The functions that the law FnExactCodeNodes reaches, and that it is true of every number. -/
import Derived.Test.YthoidonmlfibfaaTy
import Derived.Test.YthoidonmlfibfaaProg
import Derived.KernelRfl
namespace Go.AI.T
open Go Go.RowKit Go.AI
set_option linter.unusedVariables false
set_option linter.unusedSimpArgs false
set_option maxRecDepth 100000
noncomputable section
-- "loop.example/treenumbers/spec.l6In"
noncomputable def c_spec_l6In_j1 (F g : Nat) (vs : List AV) (h : H) : Option R := (fun x2 x3 => aPick x2 x3 (AV.bool false) h fun x4 h => some (x4, h)) (hd vs) (hd (tl vs))
noncomputable def c_spec_l6In (F g : Nat) (a0 a1 a2 : AV) (h : H) : Option R := aCmpI (fun a b => ile b a) a0 a1 h fun x1 h => guardB true x1 (aCmpI ile a0 a2 h fun x5 h => (c_spec_l6In_j1 F g) [x1, x5] h) ((c_spec_l6In_j1 F g) [x1, (AV.one .tup (AV.leaf .nil))] h)
noncomputable def A_spec_l6In : An := (.two .o (.two (.at_ [10, 13] .o .o) .o))
noncomputable def b_spec_l6In : Code := bodyOf Go.Proofs.Try.f49
theorem k_spec_l6In (F g : Nat) (a0 a1 a2 : AV) (h : H) : callD Go.Proofs.Try.prog (fun _ _ _ => none : Env) 15 F b_spec_l6In [6] A_spec_l6In [a0, a1, a2] h = c_spec_l6In F g a0 a1 a2 h := by kernel_rfl
theorem s_spec_l6In (F g : Nat) : ∀ args h r, u3 (c_spec_l6In F g) args h = some r → Tri Go.Proofs.Try.prog 49 args h r := by
  intro args h r e; obtain ⟨a0, a1, a2, rfl, e1⟩ := u3_some e; exact fn_sound Go.Proofs.Try.func49 rfl rfl rfl Go.Proofs.Try.ntmps49 (Sound.none _) ((k_spec_l6In F g a0 a1 a2 h).trans e1)

-- "loop.example/treenumbers/spec.CodeNodes"
noncomputable def c_spec_CodeNodes (F g : Nat) (a0 : AV) (h : H) : Option R := bindR (c_spec_l6In F g a0 (AV.int 3 (Int.ofNat 1)) (AV.int 3 (Int.ofNat 5000)) h) fun x1 h => aNot x1 h fun x2 h => withBool x2 fun t3 => bc t3 (some (AV.one .tup (AV.cons (AV.int 3 (Int.ofNat 0)) (AV.cons (AV.bool false) (AV.leaf .nil))), h)) (bindR (c_spec_l2Tree F g a0 h) fun x4 h => aLenK 0 x4 h fun x5 h => aQuo x5 (AV.int 3 (Int.ofNat 2)) h fun x6 h => some (AV.one .tup (AV.cons x6 (AV.cons (AV.bool true) (AV.leaf .nil))), h))
noncomputable def A_spec_CodeNodes : An := (.two .o (.two (.two .o (.two (.two .o .o) .o)) (.two .o .o)))
noncomputable def b_spec_CodeNodes : Code := bodyOf Go.Proofs.Try.f23
theorem k_spec_CodeNodes (F g : Nat) (a0 : AV) (h : H) : callD Go.Proofs.Try.prog (Env.add (Env.add (fun _ _ _ => none : Env) 49 (u3 (c_spec_l6In F g))) 52 (u1 (c_spec_l2Tree F g))) 11 F b_spec_CodeNodes [2, 3] A_spec_CodeNodes [a0] h = c_spec_CodeNodes F g a0 h := by kernel_rfl
theorem s_spec_CodeNodes (F g : Nat) : ∀ args h r, u1 (c_spec_CodeNodes F g) args h = some r → Tri Go.Proofs.Try.prog 23 args h r := by
  intro args h r e; obtain ⟨a0, rfl, e1⟩ := u1_some e; exact fn_sound Go.Proofs.Try.func23 rfl rfl rfl Go.Proofs.Try.ntmps23 (Sound.add (Sound.add (Sound.none _) (s_spec_l6In F g)) (s_spec_l2Tree F g)) ((k_spec_CodeNodes F g a0 h).trans e1)

-- "loop.example/treenumbers/impl.isCode"
noncomputable def c_impl_isCode_j1 (F g : Nat) (vs : List AV) (h : H) : Option R := (fun x2 x3 => aPick x2 x3 (AV.bool false) h fun x4 h => some (x4, h)) (hd vs) (hd (tl vs))
noncomputable def c_impl_isCode (F g : Nat) (a0 : AV) (h : H) : Option R := aCmpI (fun a b => ile b a) a0 (AV.int 3 (Int.ofNat 1)) h fun x1 h => guardB true x1 (aCmpI ile a0 (AV.int 3 (Int.ofNat 5000)) h fun x5 h => (c_impl_isCode_j1 F g) [x1, x5] h) ((c_impl_isCode_j1 F g) [x1, (AV.one .tup (AV.leaf .nil))] h)
noncomputable def A_impl_isCode : An := (.two .o (.two (.at_ [5, 7] .o .o) .o))
noncomputable def b_impl_isCode : Code := bodyOf Go.Proofs.Try.f53
theorem k_impl_isCode (F g : Nat) (a0 : AV) (h : H) : callD Go.Proofs.Try.prog (fun _ _ _ => none : Env) 9 F b_impl_isCode [2] A_impl_isCode [a0] h = c_impl_isCode F g a0 h := by kernel_rfl
theorem s_impl_isCode (F g : Nat) : ∀ args h r, u1 (c_impl_isCode F g) args h = some r → Tri Go.Proofs.Try.prog 53 args h r := by
  intro args h r e; obtain ⟨a0, rfl, e1⟩ := u1_some e; exact fn_sound Go.Proofs.Try.func53 rfl rfl rfl Go.Proofs.Try.ntmps53 (Sound.none _) ((k_impl_isCode F g a0 h).trans e1)

-- "loop.example/treenumbers/impl.CodeNodes"
noncomputable def c_impl_CodeNodes (F g : Nat) (a0 : AV) (h : H) : Option R := bindR (c_impl_isCode F g a0 h) fun x1 h => aNot x1 h fun x2 h => withBool x2 fun t3 => bc t3 (some (AV.one .tup (AV.cons (AV.int 3 (Int.ofNat 0)) (AV.cons (AV.bool false) (AV.leaf .nil))), h)) (bindR (c_impl_codeText F g a0 h) fun x4 h => aLenK 0 x4 h fun x5 h => aQuo x5 (AV.int 3 (Int.ofNat 2)) h fun x6 h => some (AV.one .tup (AV.cons x6 (AV.cons (AV.bool true) (AV.leaf .nil))), h))
noncomputable def A_impl_CodeNodes : An := (.two .o (.two (.two .o (.two (.two .o .o) .o)) (.two .o .o)))
noncomputable def b_impl_CodeNodes : Code := bodyOf Go.Proofs.Try.f24
theorem k_impl_CodeNodes (F g : Nat) (a0 : AV) (h : H) : callD Go.Proofs.Try.prog (Env.add (Env.add (fun _ _ _ => none : Env) 53 (u1 (c_impl_isCode F g))) 55 (u1 (c_impl_codeText F g))) 11 F b_impl_CodeNodes [2, 3] A_impl_CodeNodes [a0] h = c_impl_CodeNodes F g a0 h := by kernel_rfl
theorem s_impl_CodeNodes (F g : Nat) : ∀ args h r, u1 (c_impl_CodeNodes F g) args h = some r → Tri Go.Proofs.Try.prog 24 args h r := by
  intro args h r e; obtain ⟨a0, rfl, e1⟩ := u1_some e; exact fn_sound Go.Proofs.Try.func24 rfl rfl rfl Go.Proofs.Try.ntmps24 (Sound.add (Sound.add (Sound.none _) (s_impl_isCode F g)) (s_impl_codeText F g)) ((k_impl_CodeNodes F g a0 h).trans e1)

-- "loop.example/treenumbers/laws.FnExactCodeNodes"
noncomputable def c_laws_FnExactCodeNodes_j1 (F g : Nat) (vs : List AV) (h : H) : Option R := (fun x8 x9 => aPick x8 (AV.bool true) x9 h fun x10 h => withBool x10 fun t11 => bc t11 (some ((AV.bool false), h)) (some ((AV.bool true), h))) (hd vs) (hd (tl vs))
noncomputable def c_laws_FnExactCodeNodes (F g : Nat) (a0 : AV) (h : H) : Option R := bindR (c_spec_CodeNodes F g a0 h) fun x1 h => aExtract x1 0 h fun x2 h => aExtract x1 1 h fun x3 h => bindR (c_impl_CodeNodes F g a0 h) fun x4 h => aExtract x4 0 h fun x5 h => aExtract x4 1 h fun x6 h => aCmpI (fun a b => bnot (ieq a b)) x5 x2 h fun x7 h => guardB false x7 (aEq true 0 x6 x3 h fun x12 h => (c_laws_FnExactCodeNodes_j1 F g) [x7, x12] h) ((c_laws_FnExactCodeNodes_j1 F g) [x7, (AV.one .tup (AV.leaf .nil))] h)
noncomputable def A_laws_FnExactCodeNodes : An := (.two .o (.two .o (.two .o (.two (.two (.at_ [20, 23] .o .o) (.two (.two .o .o) .o)) (.two .o .o)))))
noncomputable def b_laws_FnExactCodeNodes : Code := bodyOf Go.Proofs.Try.f7
theorem k_laws_FnExactCodeNodes (F g : Nat) (a0 : AV) (h : H) : callD Go.Proofs.Try.prog (Env.add (Env.add (fun _ _ _ => none : Env) 23 (u1 (c_spec_CodeNodes F g))) 24 (u1 (c_impl_CodeNodes F g))) 25 F b_laws_FnExactCodeNodes [2] A_laws_FnExactCodeNodes [a0] h = c_laws_FnExactCodeNodes F g a0 h := by kernel_rfl
theorem s_laws_FnExactCodeNodes (F g : Nat) : ∀ args h r, u1 (c_laws_FnExactCodeNodes F g) args h = some r → Tri Go.Proofs.Try.prog 7 args h r := by
  intro args h r e; obtain ⟨a0, rfl, e1⟩ := u1_some e; exact fn_sound Go.Proofs.Try.func7 rfl rfl rfl Go.Proofs.Try.ntmps7 (Sound.add (Sound.add (Sound.none _) (s_spec_CodeNodes F g)) (s_impl_CodeNodes F g)) ((k_laws_FnExactCodeNodes F g a0 h).trans e1)

end
end Go.AI.T
namespace Go.AI.T
open Go Go.RowKit Go.AI
set_option linter.unusedVariables false
set_option linter.unusedSimpArgs false
set_option maxRecDepth 100000
noncomputable section

theorem neqSelf {q : Nat} {h : H} {k : AV → H → Option R} : aCmpI (fun a b => bnot (ieq a b)) (nI q) (nI q) h k = k (.bool false) h := by
  show k (.bool (bnot (Nat.beq q q))) h = _
  rw [Nat.beq_refl]; rfl
theorem law_num {n : Int} (hn : n ≤ 9223372036854775807) : tells (c_laws_FnExactCodeNodes 2097152 20 (.int 3 n) H0) = true := by
  cases n with
  | negSucc m => kernel_rfl
  | ofNat m =>
    have hin : ∀ (F g : Nat) (h : H), c_spec_l6In F g (nI m) (nI 1) (nI 5000) h = some (.bool (bc (Nat.ble 1 m) (Nat.ble m 5000) false), h) := fun F g h => by
      delta c_spec_l6In
      show guardB true (.bool (Nat.ble 1 m)) (aCmpI ile (nI m) (nI 5000) h fun x5 h => c_spec_l6In_j1 F g [.bool (Nat.ble 1 m), x5] h) (c_spec_l6In_j1 F g [.bool (Nat.ble 1 m), .one .tup (.leaf .nil)] h) = _
      cases Nat.ble 1 m <;> rfl
    have his : ∀ (F g : Nat) (h : H), c_impl_isCode F g (nI m) h = some (.bool (bc (Nat.ble 1 m) (Nat.ble m 5000) false), h) := fun F g h => by
      delta c_impl_isCode
      show guardB true (.bool (Nat.ble 1 m)) (aCmpI ile (nI m) (nI 5000) h fun x5 h => c_impl_isCode_j1 F g [.bool (Nat.ble 1 m), x5] h) (c_impl_isCode_j1 F g [.bool (Nat.ble 1 m), .one .tup (.leaf .nil)] h) = _
      cases Nat.ble 1 m <;> rfl
    by_cases h2 : 1 ≤ m ∧ m ≤ 5000
    · obtain ⟨k, hk, hk2⟩ : ∃ k, lenL (txt m) = k ∧ k ≤ 10000 := ⟨_, rfl, by rw [lenL_eq]; exact txt_len h2.1 h2.2⟩
      have e1 : ∀ (F g : Nat) (h : H), c_spec_l2Tree F g (nI m) h = some (.str (txt m) k, h) := fun F g h => by
        show inN m (some (.str (txt m) (lenL (txt m)), h)) = _
        rw [inN_eq h2.1 h2.2, hk]
      have e2 : ∀ (F g : Nat) (h : H), c_impl_codeText F g (nI m) h = some (.str (txt m) k, h) := fun F g h => by
        show inN m (some (.str (txt m) (lenL (txt m)), h)) = _
        rw [inN_eq h2.1 h2.2, hk]
      have e3 : ∀ (F g : Nat) (h : H), c_spec_CodeNodes F g (nI m) h = some (.one .tup (.cons (nI (k / 2)) (.cons (.bool true) (.leaf .nil))), h) := fun F g h => by
        delta c_spec_CodeNodes
        rw [show AV.int 3 (Int.ofNat 1) = nI 1 from rfl, show AV.int 3 (Int.ofNat 5000) = nI 5000 from rfl, hin, bindR_some', aNot_b, ble_true h2.1, bc_true, ble_true h2.2, bnot_t, withBool_bool, bc_false, e1, bindR_some', aLenK_str, show AV.int 3 (Int.ofNat 2) = nI 2 from rfl, quoN (by omega) (by omega)]
      have e4 : ∀ (F g : Nat) (h : H), c_impl_CodeNodes F g (nI m) h = some (.one .tup (.cons (nI (k / 2)) (.cons (.bool true) (.leaf .nil))), h) := fun F g h => by
        delta c_impl_CodeNodes
        rw [his, bindR_some', aNot_b, ble_true h2.1, bc_true, ble_true h2.2, bnot_t, withBool_bool, bc_false, e2, bindR_some', aLenK_str, show AV.int 3 (Int.ofNat 2) = nI 2 from rfl, quoN (by omega) (by omega)]
      delta c_laws_FnExactCodeNodes
      rw [show AV.int 3 (Int.ofNat m) = nI m from rfl, e3, bindR_some', aExtract_0, aExtract_1, e4, bindR_some', aExtract_0, aExtract_1, neqSelf]
      rfl
    · have hb : bc (Nat.ble 1 m) (Nat.ble m 5000) false = false := by
        by_cases h3 : 1 ≤ m
        · rw [ble_true h3, bc_true, ble_false (by omega)]
        · rw [ble_false (by omega), bc_false]
      delta c_laws_FnExactCodeNodes c_spec_CodeNodes c_impl_CodeNodes
      rw [show AV.int 3 (Int.ofNat m) = nI m from rfl, show AV.int 3 (Int.ofNat 1) = nI 1 from rfl, show AV.int 3 (Int.ofNat 5000) = nI 5000 from rfl, hin, bindR_some', hb, aNot_b, bnot_f, withBool_bool, bc_true, bindR_some', aExtract_0, aExtract_1, his, bindR_some', hb]
      rfl
end
end Go.AI.T
