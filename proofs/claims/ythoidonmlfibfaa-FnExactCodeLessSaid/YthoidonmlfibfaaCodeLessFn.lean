/- The law FnExactCodeLess is true of every pair of texts. -/
import Derived.Test.YthoidonmlfibfaaCt
import Derived.Test.YthoidonmlfibfaaProg
import Derived.KernelRfl
namespace Go.AI.T
open Go Go.RowKit Go.AI
set_option linter.unusedVariables false
set_option linter.unusedSimpArgs false
set_option maxRecDepth 100000
noncomputable section
-- "loop.example/treenumbers/spec.CodeLess"
noncomputable def c_spec_CodeLess_j1 (F g : Nat) (vs : List AV) (h : H) : Option R := (fun x12 x13 => aPick x12 x13 (AV.bool false) h fun x14 h => some (x14, h)) (hd vs) (hd (tl vs))
noncomputable def c_spec_CodeLess_j2 (F g : Nat) (vs : List AV) (h : H) : Option R := (fun x7 x8 x9 x10 => aPick x9 x10 (AV.bool false) h fun x11 h => guardB true x11 (aCmpI ilt x7 x8 h fun x15 h => (c_spec_CodeLess_j1 F g) [x11, x15] h) ((c_spec_CodeLess_j1 F g) [x11, (AV.one .tup (AV.leaf .nil))] h)) (hd vs) (hd (tl vs)) (hd (tl (tl vs))) (hd (tl (tl (tl vs))))
noncomputable def c_spec_CodeLess (F g : Nat) (a0 a1 : AV) (h : H) : Option R := bindR (c_spec_CodeOf F g a0 h) fun x1 h => aExtract x1 0 h fun x2 h => aExtract x1 1 h fun x3 h => bindR (c_spec_CodeOf F g a1 h) fun x4 h => aExtract x4 0 h fun x5 h => aExtract x4 1 h fun x6 h => guardB true x3 ((c_spec_CodeLess_j2 F g) [x2, x5, x3, x6] h) ((c_spec_CodeLess_j2 F g) [x2, x5, x3, (AV.one .tup (AV.leaf .nil))] h)
noncomputable def A_spec_CodeLess : An := (.two .o (.two .o (.two .o (.two (.at_ [5, 7, 20, 21] .o (.at_ [23, 26] .o .o)) .o))))
noncomputable def b_spec_CodeLess : Code := bodyOf Go.Proofs.Try.f25
theorem k_spec_CodeLess (F g : Nat) (a0 a1 : AV) (h : H) : callD Go.Proofs.Try.prog (Env.add (fun _ _ _ => none : Env) 15 (u1 (c_spec_CodeOf F g))) 28 F b_spec_CodeLess [4] A_spec_CodeLess [a0, a1] h = c_spec_CodeLess F g a0 a1 h := by kernel_rfl
theorem s_spec_CodeLess (F g : Nat) : ∀ args h r, u2 (c_spec_CodeLess F g) args h = some r → Tri Go.Proofs.Try.prog 25 args h r := by
  intro args h r e; obtain ⟨a0, a1, rfl, e1⟩ := u2_some e; exact fn_sound Go.Proofs.Try.func25 rfl rfl rfl Go.Proofs.Try.ntmps25 (Sound.add (Sound.none _) (s_spec_CodeOf F g)) ((k_spec_CodeLess F g a0 a1 h).trans e1)

-- "loop.example/treenumbers/impl.CodeLess"
noncomputable def c_impl_CodeLess_j1 (F g : Nat) (vs : List AV) (h : H) : Option R := (fun x13 x14 => aPick x13 x14 (AV.bool false) h fun x15 h => some (x15, h)) (hd vs) (hd (tl vs))
noncomputable def c_impl_CodeLess_j2 (F g : Nat) (vs : List AV) (h : H) : Option R := (fun x8 x9 x10 x11 => aPick x10 x11 (AV.bool false) h fun x12 h => guardB true x12 (aCmpI ilt x8 x9 h fun x16 h => (c_impl_CodeLess_j1 F g) [x12, x16] h) ((c_impl_CodeLess_j1 F g) [x12, (AV.one .tup (AV.leaf .nil))] h)) (hd vs) (hd (tl vs)) (hd (tl (tl vs))) (hd (tl (tl (tl vs))))
noncomputable def c_impl_CodeLess (F g : Nat) (a0 a1 : AV) (h : H) : Option R := aMakeMap h fun x1 h => bindR (c_impl_codeBook_ask F g x1 a0 h) fun x2 h => aExtract x2 0 h fun x3 h => aExtract x2 1 h fun x4 h => bindR (c_impl_codeBook_ask F g x1 a1 h) fun x5 h => aExtract x5 0 h fun x6 h => aExtract x5 1 h fun x7 h => guardB true x4 ((c_impl_CodeLess_j2 F g) [x3, x6, x4, x7] h) ((c_impl_CodeLess_j2 F g) [x3, x6, x4, (AV.one .tup (AV.leaf .nil))] h)
noncomputable def A_impl_CodeLess : An := (.two .o (.two .o (.two .o (.two .o (.two (.at_ [6, 8, 24, 25] .o (.at_ [27, 30] .o .o)) .o)))))
noncomputable def b_impl_CodeLess : Code := bodyOf Go.Proofs.Try.f26
theorem k_impl_CodeLess (F g : Nat) (a0 a1 : AV) (h : H) : callD Go.Proofs.Try.prog (Env.add (fun _ _ _ => none : Env) 48 (u2 (c_impl_codeBook_ask F g))) 32 F b_impl_CodeLess [4] A_impl_CodeLess [a0, a1] h = c_impl_CodeLess F g a0 a1 h := by kernel_rfl
theorem s_impl_CodeLess (F g : Nat) : ∀ args h r, u2 (c_impl_CodeLess F g) args h = some r → Tri Go.Proofs.Try.prog 26 args h r := by
  intro args h r e; obtain ⟨a0, a1, rfl, e1⟩ := u2_some e; exact fn_sound Go.Proofs.Try.func26 rfl rfl rfl Go.Proofs.Try.ntmps26 (Sound.add (Sound.none _) (s_impl_codeBook_ask F g)) ((k_impl_CodeLess F g a0 a1 h).trans e1)

-- "loop.example/treenumbers/laws.FnExactCodeLess"
noncomputable def c_laws_FnExactCodeLess (F g : Nat) (a0 a1 : AV) (h : H) : Option R := aLenK 0 a0 h fun x1 h => aCmpI (fun a b => ilt b a) x1 (AV.int 3 (Int.ofNat 1048576)) h fun x2 h => withBool x2 fun t3 => bc t3 (some ((AV.bool true), h)) (aLenK 0 a1 h fun x4 h => aCmpI (fun a b => ilt b a) x4 (AV.int 3 (Int.ofNat 1048576)) h fun x5 h => withBool x5 fun t6 => bc t6 (some ((AV.bool true), h)) (bindR (c_spec_CodeLess F g a0 a1 h) fun x7 h => bindR (c_impl_CodeLess F g a0 a1 h) fun x8 h => aEq true 0 x8 x7 h fun x9 h => withBool x9 fun t10 => bc t10 (some ((AV.bool false), h)) (some ((AV.bool true), h))))
noncomputable def A_laws_FnExactCodeLess : An := (.two .o (.two (.two .o (.two (.two .o .o) .o)) (.two (.two .o (.two (.two .o .o) .o)) (.two .o (.two .o (.two (.two .o (.two (.two .o .o) .o)) (.two .o .o)))))))
noncomputable def b_laws_FnExactCodeLess : Code := bodyOf Go.Proofs.Try.f8
theorem k_laws_FnExactCodeLess (F g : Nat) (a0 a1 : AV) (h : H) : callD Go.Proofs.Try.prog (Env.add (Env.add (fun _ _ _ => none : Env) 25 (u2 (c_spec_CodeLess F g))) 26 (u2 (c_impl_CodeLess F g))) 22 F b_laws_FnExactCodeLess [4] A_laws_FnExactCodeLess [a0, a1] h = c_laws_FnExactCodeLess F g a0 a1 h := by kernel_rfl
theorem s_laws_FnExactCodeLess (F g : Nat) : ∀ args h r, u2 (c_laws_FnExactCodeLess F g) args h = some r → Tri Go.Proofs.Try.prog 8 args h r := by
  intro args h r e; obtain ⟨a0, a1, rfl, e1⟩ := u2_some e; exact fn_sound Go.Proofs.Try.func8 rfl rfl rfl Go.Proofs.Try.ntmps8 (Sound.add (Sound.add (Sound.none _) (s_spec_CodeLess F g)) (s_impl_CodeLess F g)) ((k_laws_FnExactCodeLess F g a0 a1 h).trans e1)

end
end Go.AI.T
namespace Go.AI.T
open Go Go.RowKit Go.AI
set_option linter.unusedVariables false
set_option linter.unusedSimpArgs false
set_option maxRecDepth 100000
noncomputable section
open Go.AI.V (codeT may askQ)
/-- Is a code less than another one? -/
def lessB (a b : Nat) : Bool := bc (Nat.beq a 0) false (bc (Nat.beq b 0) false (Nat.ble (Nat.succ a) b))
theorem specLess_eq {F g : Nat} {l l' : List Nat} {n n' : Nat} (hy : may l n = true) (hy' : may l' n' = true) (h : H) : c_spec_CodeLess F g (.str l n) (.str l' n') h = some (.bool (lessB (codeT l) (codeT l')), h) := by
  delta c_spec_CodeLess
  rw [codeOf_eq hy, bindR_some']
  delta toldN
  rw [aExtract_0, aExtract_1, codeOf_eq hy', bindR_some']
  delta toldN
  rw [aExtract_0, aExtract_1]
  cases codeT l <;> cases codeT l' <;> rfl
theorem implLess_eq {F g : Nat} {l l' : List Nat} {n n' : Nat} (hy : may l n = true) (hy' : may l' n' = true) (h : H) : ∃ h', c_impl_CodeLess F g (.str l n) (.str l' n') h = some (.bool (lessB (codeT l) (codeT l')), h') := by
  delta c_impl_CodeLess
  rw [show ∀ k : AV → H → Option R, aMakeMap h k = k (.leaf (.map h.n)) (h.push (.map [] 0)) from fun k => rfl, ask_eq hy (get_push_eq rfl) rfl, bindR_some']
  delta toldN
  rw [aExtract_0, aExtract_1, ask_eq hy' get_set_eq (Go.AI.V.askQ_ok hy 0 rfl).1, bindR_some']
  delta toldN
  rw [aExtract_0, aExtract_1]
  cases codeT l <;> cases codeT l' <;> exact ⟨_, rfl⟩
theorem scan_len : ∀ (p : List Nat) (d m : Nat), m ≤ 9 → scan p d m = true → p.length ≤ 2 * (9 - m) + d
  | [], d, m, _, _ => Nat.zero_le _
  | c :: p, 0, m, _, h => by cases h
  | c :: p, d + 1, m, hm, h => by
    have h : bc (Nat.beq c 41) (scan p d m) (bc (Nat.beq c 40) (bc (Nat.ble (m + 1) 9) (scan p (d + 2) (m + 1)) false) false) = true := h
    cases h41 : Nat.beq c 41 with
    | true => rw [h41, bc_true] at h; have := scan_len p d m hm h; simp; omega
    | false =>
      rw [h41, bc_false] at h
      cases h40 : Nat.beq c 40 with
      | false => rw [h40] at h; cases h
      | true =>
        rw [h40, bc_true] at h
        cases h9 : Nat.ble (m + 1) 9 with
        | false => rw [h9] at h; cases h
        | true =>
          rw [h9, bc_true] at h
          have h10 := Nat.le_of_ble_eq_true h9
          have := scan_len p (d + 2) (m + 1) h10 h; simp; omega
theorem tree18 {l : List Nat} (ht : isTree l = true) : l.length ≤ 18 := by
  cases l with
  | nil => exact Nat.zero_le _
  | cons c p =>
    have h : bc (Nat.beq c 40) (scan p 1 1) false = true := ht
    cases hb : Nat.beq c 40 with
    | false => rw [hb] at h; cases h
    | true =>
      rw [hb, bc_true] at h
      have := scan_len p 1 1 (by omega) h
      simp; omega
theorem law_two {l l' : List Nat} {n n' : Nat} (hn : lenL l = n) (hn' : lenL l' = n') : tells (c_laws_FnExactCodeLess 2097152 20 (.str l n) (.str l' n') H0) = true := by
  delta c_laws_FnExactCodeLess
  rw [aLenK_str, show AV.int 3 (Int.ofNat 1048576) = nI 1048576 from rfl, show AV.int 3 (Int.ofNat n) = nI n from rfl, gtrN, withBool_bool]
  by_cases h1 : 1048576 < n
  · rw [ble_true (show Nat.succ 1048576 ≤ n from h1)]; rfl
  rw [ble_false (show n < Nat.succ 1048576 by omega), bc_false, aLenK_str, show AV.int 3 (Int.ofNat n') = nI n' from rfl, gtrN, withBool_bool]
  by_cases h2 : 1048576 < n'
  · rw [ble_true (show Nat.succ 1048576 ≤ n' from h2)]; rfl
  rw [ble_false (show n' < Nat.succ 1048576 by omega), bc_false]
  have hy := Go.AI.V.may_ok hn (by omega) fun ht => tree18 ht
  have hy' := Go.AI.V.may_ok hn' (by omega) fun ht => tree18 ht
  obtain ⟨h', e⟩ := implLess_eq (F := 2097152) (g := 20) hy hy' H0
  rw [specLess_eq hy hy', bindR_some', e, bindR_some']
  cases lessB (codeT l) (codeT l') <;> rfl
end
end Go.AI.T
