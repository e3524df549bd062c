/- The law FnCodeLess is true whatever the code. -/
import Derived.Test.YtlcmolcajoeagaaCt
import Derived.Test.YtlcmolcajoeagaaProg
import Derived.KernelRfl
namespace Go.AI.T
open Go Go.RowKit Go.AI
set_option linter.unusedVariables false
set_option linter.unusedSimpArgs false
set_option maxRecDepth 100000
noncomputable section
-- "loop.example/treenumbers/spec.DrawCodeLess"
noncomputable def c_raw_spec_DrawCodeLess (F g : Nat) (a0 : AV) (h : H) : Option R := bindR (Go.AI.c_spec_l6Open F g a0 h) fun x1 h => bindR (Go.AI.c_spec_l91Tree F g x1 (AV.int 3 (Int.ofNat 6)) h) fun x2 h => bindR (Go.AI.c_spec_l91Tree F g x1 (AV.int 3 (Int.ofNat 6)) h) fun x3 h => some (AV.one .tup (AV.cons x2 (AV.cons x3 (AV.leaf .nil))), h)
noncomputable def A_raw_spec_DrawCodeLess : An := (.two .o (.two .o (.two .o (.two .o .o))))
noncomputable def b_raw_spec_DrawCodeLess : Code := bodyOf Go.Proofs.Try.f33
theorem k_raw_spec_DrawCodeLess (F g : Nat) (a0 : AV) (h : H) : callD Go.Proofs.Try.prog (Env.add (Env.add (fun _ _ _ => none : Env) 66 (u1 (Go.AI.c_spec_l6Open F g))) 65 (u2 (Go.AI.c_spec_l91Tree F g))) 13 F b_raw_spec_DrawCodeLess [2, 3] A_raw_spec_DrawCodeLess [a0] h = c_raw_spec_DrawCodeLess F g a0 h := by kernel_rfl
theorem s_raw_spec_DrawCodeLess (F g : Nat) : ∀ args h r, u1 (c_raw_spec_DrawCodeLess F g) args h = some r → Tri Go.Proofs.Try.prog 33 args h r := by
  intro args h r e; obtain ⟨a0, rfl, e1⟩ := u1_some e; exact fn_sound Go.Proofs.Try.func33 rfl rfl rfl Go.Proofs.Try.ntmps33 (Sound.add (Sound.add (Sound.none _) (Go.AI.s_spec_l6Open F g)) (Go.AI.s_spec_l91Tree F g)) ((k_raw_spec_DrawCodeLess F g a0 h).trans e1)

end
end Go.AI.T
namespace Go.AI.T
open Go Go.RowKit Go.AI
set_option linter.unusedVariables false
set_option linter.unusedSimpArgs false
set_option maxRecDepth 100000
noncomputable section
open Go.AI.V (codeT may askQ)
def fgC (c : AV → H → Option R) (a0 : AV) (h : H) : Option R := bc a0.plain (onSome (c a0 H0) fun r => bc r.1.plain (some (r.1, h)) none) none
theorem fgC_sound {f : FuncId} {c : AV → H → Option R} (hs : ∀ args h r, u1 c args h = some r → Tri Go.Proofs.Try.prog f args h r) : ∀ args h r, u1 (fgC c) args h = some r → Tri Go.Proofs.Try.prog f args h r := by
  intro args h r e
  obtain ⟨a0, rfl, e1⟩ := u1_some e
  obtain ⟨h0, e2⟩ := bif_some e1
  obtain ⟨r1, h1, e3⟩ := onSome_some e2
  obtain ⟨h2, e4⟩ := bif_some e3
  cases e4
  exact Tri.forget (hs [a0] H0 r1 h1) (fun a hm => by cases hm with | head => exact h0 | tail _ hm => cases hm) h2 h
def c_impl_TreeSorted (F g : Nat) (a0 : AV) (h : H) : Option R := fgC (Go.AI.V.c_impl_TreeSorted 20000 20) a0 h
theorem s_impl_TreeSorted (F g : Nat) : ∀ args h r, u1 (c_impl_TreeSorted F g) args h = some r → Tri Go.Proofs.Try.prog id_impl_TreeSorted args h r := fgC_sound (Go.AI.V.s_impl_TreeSorted 20000 20)
def c_spec_DrawCodeLess (F g : Nat) (a0 : AV) (h : H) : Option R := quietC (c_raw_spec_DrawCodeLess 20000 20) a0 h
theorem s_spec_DrawCodeLess (F g : Nat) : ∀ args h r, u1 (c_spec_DrawCodeLess F g) args h = some r → Tri Go.Proofs.Try.prog id_spec_DrawCodeLess args h r := quietC_sound (s_raw_spec_DrawCodeLess 20000 20)
end
end Go.AI.T
namespace Go.AI.T
open Go Go.RowKit Go.AI
set_option linter.unusedVariables false
set_option linter.unusedSimpArgs false
set_option maxRecDepth 100000
noncomputable section
-- "loop.example/treenumbers/impl.CodeLess"
noncomputable def c_impl_CodeLess_j1 (F g : Nat) (vs : List AV) (h : H) : Option R := (fun x13 x14 => aPick x13 x14 (AV.bool false) h fun x15 h => some (x15, h)) (hd vs) (hd (tl vs))
noncomputable def c_impl_CodeLess_j2 (F g : Nat) (vs : List AV) (h : H) : Option R := (fun x8 x9 x10 x11 => aPick x10 x11 (AV.bool false) h fun x12 h => guardB true x12 (aCmpI ilt x8 x9 h fun x16 h => (c_impl_CodeLess_j1 F g) [x12, x16] h) ((c_impl_CodeLess_j1 F g) [x12, (AV.one .tup (AV.leaf .nil))] h)) (hd vs) (hd (tl vs)) (hd (tl (tl vs))) (hd (tl (tl (tl vs))))
noncomputable def c_impl_CodeLess (F g : Nat) (a0 a1 : AV) (h : H) : Option R := aMakeMap h fun x1 h => bindR (c_impl_codeBook_ask F g x1 a0 h) fun x2 h => aExtract x2 0 h fun x3 h => aExtract x2 1 h fun x4 h => bindR (c_impl_codeBook_ask F g x1 a1 h) fun x5 h => aExtract x5 0 h fun x6 h => aExtract x5 1 h fun x7 h => guardB true x4 ((c_impl_CodeLess_j2 F g) [x3, x6, x4, x7] h) ((c_impl_CodeLess_j2 F g) [x3, x6, x4, (AV.one .tup (AV.leaf .nil))] h)
noncomputable def A_impl_CodeLess : An := (.two .o (.two .o (.two .o (.two .o (.two (.at_ [6, 8, 24, 25] .o (.at_ [27, 30] .o .o)) .o)))))
noncomputable def b_impl_CodeLess : Code := bodyOf Go.Proofs.Try.f34
theorem k_impl_CodeLess (F g : Nat) (a0 a1 : AV) (h : H) : callD Go.Proofs.Try.prog (Env.add (fun _ _ _ => none : Env) 67 (u2 (c_impl_codeBook_ask F g))) 32 F b_impl_CodeLess [4] A_impl_CodeLess [a0, a1] h = c_impl_CodeLess F g a0 a1 h := by kernel_rfl
theorem s_impl_CodeLess (F g : Nat) : ∀ args h r, u2 (c_impl_CodeLess F g) args h = some r → Tri Go.Proofs.Try.prog 34 args h r := by
  intro args h r e; obtain ⟨a0, a1, rfl, e1⟩ := u2_some e; exact fn_sound Go.Proofs.Try.func34 rfl rfl rfl Go.Proofs.Try.ntmps34 (Sound.add (Sound.none _) (s_impl_codeBook_ask F g)) ((k_impl_CodeLess F g a0 a1 h).trans e1)

-- "loop.example/treenumbers/spec.CodeLess"
noncomputable def c_spec_CodeLess_j1 (F g : Nat) (vs : List AV) (h : H) : Option R := (fun x12 x13 => aPick x12 x13 (AV.bool false) h fun x14 h => some (x14, h)) (hd vs) (hd (tl vs))
noncomputable def c_spec_CodeLess_j2 (F g : Nat) (vs : List AV) (h : H) : Option R := (fun x7 x8 x9 x10 => aPick x9 x10 (AV.bool false) h fun x11 h => guardB true x11 (aCmpI ilt x7 x8 h fun x15 h => (c_spec_CodeLess_j1 F g) [x11, x15] h) ((c_spec_CodeLess_j1 F g) [x11, (AV.one .tup (AV.leaf .nil))] h)) (hd vs) (hd (tl vs)) (hd (tl (tl vs))) (hd (tl (tl (tl vs))))
noncomputable def c_spec_CodeLess (F g : Nat) (a0 a1 : AV) (h : H) : Option R := bindR (c_spec_CodeOf F g a0 h) fun x1 h => aExtract x1 0 h fun x2 h => aExtract x1 1 h fun x3 h => bindR (c_spec_CodeOf F g a1 h) fun x4 h => aExtract x4 0 h fun x5 h => aExtract x4 1 h fun x6 h => guardB true x3 ((c_spec_CodeLess_j2 F g) [x2, x5, x3, x6] h) ((c_spec_CodeLess_j2 F g) [x2, x5, x3, (AV.one .tup (AV.leaf .nil))] h)
noncomputable def A_spec_CodeLess : An := (.two .o (.two .o (.two .o (.two (.at_ [5, 7, 20, 21] .o (.at_ [23, 26] .o .o)) .o))))
noncomputable def b_spec_CodeLess : Code := bodyOf Go.Proofs.Try.f35
theorem k_spec_CodeLess (F g : Nat) (a0 a1 : AV) (h : H) : callD Go.Proofs.Try.prog (Env.add (fun _ _ _ => none : Env) 18 (u1 (c_spec_CodeOf F g))) 28 F b_spec_CodeLess [4] A_spec_CodeLess [a0, a1] h = c_spec_CodeLess F g a0 a1 h := by kernel_rfl
theorem s_spec_CodeLess (F g : Nat) : ∀ args h r, u2 (c_spec_CodeLess F g) args h = some r → Tri Go.Proofs.Try.prog 35 args h r := by
  intro args h r e; obtain ⟨a0, a1, rfl, e1⟩ := u2_some e; exact fn_sound Go.Proofs.Try.func35 rfl rfl rfl Go.Proofs.Try.ntmps35 (Sound.add (Sound.none _) (s_spec_CodeOf F g)) ((k_spec_CodeLess F g a0 a1 h).trans e1)

-- "loop.example/treenumbers/impl.TreeAlike"
noncomputable def c_impl_TreeAlike_j1 (F g : Nat) (vs : List AV) (h : H) : Option R := (fun x12 x13 => aPick x12 x13 (AV.bool false) h fun x14 h => some (x14, h)) (hd vs) (hd (tl vs))
noncomputable def c_impl_TreeAlike_j2 (F g : Nat) (vs : List AV) (h : H) : Option R := (fun x7 x8 x9 x10 => aPick x9 x10 (AV.bool false) h fun x11 h => guardB true x11 (aCmpS eqL x7 x8 h fun x15 h => (c_impl_TreeAlike_j1 F g) [x11, x15] h) ((c_impl_TreeAlike_j1 F g) [x11, (AV.one .tup (AV.leaf .nil))] h)) (hd vs) (hd (tl vs)) (hd (tl (tl vs))) (hd (tl (tl (tl vs))))
noncomputable def c_impl_TreeAlike (F g : Nat) (a0 a1 : AV) (h : H) : Option R := bindR (c_impl_TreeSorted F g a0 h) fun x1 h => aExtract x1 0 h fun x2 h => aExtract x1 1 h fun x3 h => bindR (c_impl_TreeSorted F g a1 h) fun x4 h => aExtract x4 0 h fun x5 h => aExtract x4 1 h fun x6 h => guardB true x3 ((c_impl_TreeAlike_j2 F g) [x2, x5, x3, x6] h) ((c_impl_TreeAlike_j2 F g) [x2, x5, x3, (AV.one .tup (AV.leaf .nil))] h)
noncomputable def A_impl_TreeAlike : An := (.two .o (.two .o (.two .o (.two (.at_ [5, 7, 20, 21] .o (.at_ [23, 26] .o .o)) .o))))
noncomputable def b_impl_TreeAlike : Code := bodyOf Go.Proofs.Try.f36
theorem k_impl_TreeAlike (F g : Nat) (a0 a1 : AV) (h : H) : callD Go.Proofs.Try.prog (Env.add (fun _ _ _ => none : Env) 20 (u1 (c_impl_TreeSorted F g))) 28 F b_impl_TreeAlike [4] A_impl_TreeAlike [a0, a1] h = c_impl_TreeAlike F g a0 a1 h := by kernel_rfl
theorem s_impl_TreeAlike (F g : Nat) : ∀ args h r, u2 (c_impl_TreeAlike F g) args h = some r → Tri Go.Proofs.Try.prog 36 args h r := by
  intro args h r e; obtain ⟨a0, a1, rfl, e1⟩ := u2_some e; exact fn_sound Go.Proofs.Try.func36 rfl rfl rfl Go.Proofs.Try.ntmps36 (Sound.add (Sound.none _) (s_impl_TreeSorted F g)) ((k_impl_TreeAlike F g a0 a1 h).trans e1)

-- "loop.example/treenumbers/laws.FnCodeLess"
noncomputable def c_laws_FnCodeLess_j1 (F g : Nat) (vs : List AV) (h : H) : Option R := (fun x21 x22 => aPick x21 x22 (AV.bool false) h fun x23 h => some (x23, h)) (hd vs) (hd (tl vs))
noncomputable def c_laws_FnCodeLess_j2 (F g : Nat) (vs : List AV) (h : H) : Option R := (fun x10 x11 x12 x13 x14 x15 => aPick x14 (AV.bool true) x15 h fun x16 h => withBool x16 fun t17 => bc t17 (aEq false 0 x12 x13 h fun x18 h => some (x18, h)) (bindR (c_impl_CodeLess F g x11 x10 h) fun x19 h => aNot x19 h fun x20 h => guardB true x20 (bindR (c_impl_TreeAlike F g x10 x11 h) fun x24 h => aNot x24 h fun x25 h => (c_laws_FnCodeLess_j1 F g) [x20, x25] h) ((c_laws_FnCodeLess_j1 F g) [x20, (AV.one .tup (AV.leaf .nil))] h))) (hd vs) (hd (tl vs)) (hd (tl (tl vs))) (hd (tl (tl (tl vs)))) (hd (tl (tl (tl (tl vs))))) (hd (tl (tl (tl (tl (tl vs))))))
noncomputable def c_laws_FnCodeLess_r3 (F g : Nat) (x4 : AV) (h : H) : Option R := aExtract x4 0 h fun x5 h => aExtract x4 1 h fun x6 h => bindR (c_impl_CodeLess F g x5 x6 h) fun x7 h => bindR (c_spec_CodeLess F g x5 x6 h) fun x8 h => aEq true 0 x7 x8 h fun x9 h => guardB false x9 (aNot x7 h fun x26 h => (c_laws_FnCodeLess_j2 F g) [x5, x6, x7, x8, x9, x26] h) ((c_laws_FnCodeLess_j2 F g) [x5, x6, x7, x8, x9, (AV.one .tup (AV.leaf .nil))] h)
noncomputable def c_laws_FnCodeLess (F g : Nat) (a0 : AV) (h : H) : Option R := aLenK 1 a0 h fun x1 h => aCmpI (fun a b => ilt b a) x1 (AV.int 3 (Int.ofNat 1048576)) h fun x2 h => withBool x2 fun t3 => bc t3 (some ((AV.bool true), h)) (bindR (c_spec_DrawCodeLess F g a0 h) fun x4 h => c_laws_FnCodeLess_r3 F g x4 h)
noncomputable def A_laws_FnCodeLess : An := (.two .o (.two (.two .o (.two (.two .o .o) .o)) (.two .o (.two .o (.two .o (.two (.two (.at_ [3, 4, 5, 6, 24, 26] .o .o) (.two (.two .o .o) .o)) (.two (.at_ [35, 39] .o .o) .o)))))))
noncomputable def b_laws_FnCodeLess : Code := bodyOf Go.Proofs.Try.f8
theorem k_laws_FnCodeLess (F g : Nat) (a0 : AV) (h : H) : callD Go.Proofs.Try.prog (Env.add (Env.add (Env.add (Env.add (fun _ _ _ => none : Env) 33 (u1 (c_spec_DrawCodeLess F g))) 34 (u2 (c_impl_CodeLess F g))) 35 (u2 (c_spec_CodeLess F g))) 36 (u2 (c_impl_TreeAlike F g))) 41 F b_laws_FnCodeLess [2] A_laws_FnCodeLess [a0] h = c_laws_FnCodeLess F g a0 h := by kernel_rfl
theorem s_laws_FnCodeLess (F g : Nat) : ∀ args h r, u1 (c_laws_FnCodeLess F g) args h = some r → Tri Go.Proofs.Try.prog 8 args h r := by
  intro args h r e; obtain ⟨a0, rfl, e1⟩ := u1_some e; exact fn_sound Go.Proofs.Try.func8 rfl rfl rfl Go.Proofs.Try.ntmps8 (Sound.add (Sound.add (Sound.add (Sound.add (Sound.none _) (s_spec_DrawCodeLess F g)) (s_impl_CodeLess F g)) (s_spec_CodeLess F g)) (s_impl_TreeAlike F g)) ((k_laws_FnCodeLess F g a0 h).trans e1)

end
end Go.AI.T
namespace Go.AI.T
open Go Go.RowKit Go.AI
set_option linter.unusedVariables false
set_option linter.unusedSimpArgs false
set_option maxRecDepth 100000
noncomputable section
open Go.AI.V (codeT may askQ)
/-- Is a code less than another one? -/
def lessB (a b : Nat) : Bool := bc (Nat.beq a 0) false (bc (Nat.beq b 0) false (Nat.ble (Nat.succ a) b))
theorem specLess_eq {F g : Nat} {l l' : List Nat} {n n' : Nat} (hy : may l n = true) (hy' : may l' n' = true) (h : H) : c_spec_CodeLess F g (.str l n) (.str l' n') h = some (.bool (lessB (codeT l) (codeT l')), h) := by
  delta c_spec_CodeLess
  rw [codeOf_eq hy, bindR_some']
  delta toldN
  rw [aExtract_0, aExtract_1, codeOf_eq hy', bindR_some']
  delta toldN
  rw [aExtract_0, aExtract_1]
  cases codeT l <;> cases codeT l' <;> rfl
theorem implLess_eq {F g : Nat} {l l' : List Nat} {n n' : Nat} (hy : may l n = true) (hy' : may l' n' = true) (h : H) : ∃ h', c_impl_CodeLess F g (.str l n) (.str l' n') h = some (.bool (lessB (codeT l) (codeT l')), h') := by
  delta c_impl_CodeLess
  rw [show ∀ k : AV → H → Option R, aMakeMap h k = k (.leaf (.map h.n)) (h.push (.map [] 0)) from fun k => rfl, ask_eq hy (get_push_eq rfl) rfl, bindR_some']
  delta toldN
  rw [aExtract_0, aExtract_1, ask_eq hy' get_set_eq (Go.AI.V.askQ_ok hy 0 rfl).1, bindR_some']
  delta toldN
  rw [aExtract_0, aExtract_1]
  cases codeT l <;> cases codeT l' <;> exact ⟨_, rfl⟩
theorem draw_less (F g : Nat) {a0 : AV} {n : Nat} {L : List AV} {B : Blk} (ha : (a0 = .leaf .nils ∧ n = 0) ∨ a0 = .osl 0 0 n 1) (hB : 0 < n → B = .cells 2 L) (hb : ∀ i, i < n → ∃ v, L[i]? = some (.int 4 (.ofNat v)) ∧ v < 256) :
    ∃ s t : List Nat, (s.length ≤ 300 ∧ (isTree s = true → s.length ≤ 12)) ∧ (t.length ≤ 300 ∧ (isTree t = true → t.length ≤ 12)) ∧ c_spec_DrawCodeLess F g a0 (hCode B) = some (.one .tup (.cons (.str s s.length) (.cons (.str t t.length) (.leaf .nil))), hCode B) := by
  obtain ⟨b, m, h1, e1, r1, _⟩ := open_ok (F := 20000) (g := 20) (h := hCode B) ha (fun hn => ⟨2, hB hn⟩) hb (Nat.le_refl _) (Nat.le_refl _)
  obtain ⟨s, p1, h2, g1, g2, e2, r2⟩ := tree_ok' (F := 20000) (g := 20) (n := 6) r1 (by omega) (by omega) (by omega)
  obtain ⟨t, p2, h3, k1, k2, e3, r3⟩ := tree_ok' (F := 20000) (g := 20) (n := 6) r2 (by omega) (by omega) (by omega)
  refine ⟨s, t, ⟨g1.1, fun ht => by have := g1.2 ht; omega⟩, ⟨k1.1, fun ht => by have := k1.2 ht; omega⟩, quietC_ok (h' := h3) ?_ rfl r3.lo⟩
  delta c_raw_spec_DrawCodeLess
  rw [show (hCode B).mark = hCode B from rfl, e1, bindR_some', show AV.int 3 (Int.ofNat 6) = nI 6 from rfl, e2, bindR_some', e3, bindR_some']
theorem lessB_not {a b : Nat} (h : lessB a b = true) : lessB b a = false ∧ a ≠ b ∧ a ≠ 0 ∧ b ≠ 0 := by
  unfold lessB at h ⊢
  cases a with
  | zero => cases h
  | succ a =>
    cases b with
    | zero => cases h
    | succ b =>
      have h : Nat.ble (Nat.succ (a + 1)) (b + 1) = true := h
      have := Nat.le_of_ble_eq_true h
      refine ⟨?_, by omega, by omega, by omega⟩
      show Nat.ble (Nat.succ (b + 1)) (a + 1) = false
      exact ble_false (by omega)
open Go.AI.V (srt) in
theorem sorted_eq (F g : Nat) {l : List Nat} (ht : isTree l = true) (hl : l.length ≤ 12) (h : H) : c_impl_TreeSorted F g (.str l l.length) h = some (.one .tup (.cons (.str (srt l) (lenL (srt l))) (.cons (.bool true) (.leaf .nil))), h) := by
  obtain ⟨⟨h', e⟩, _⟩ := Go.AI.V.srt_ok ht hl
  show fgC _ _ _ = _
  unfold fgC
  rw [lenL_eq] at e
  rw [e]; rfl
theorem eqL_to : ∀ {x y : List Nat}, eqL x y = true → x = y := Go.AI.V.eqL_to
theorem law_FnCodeLess : CodeLaw (c_laws_FnCodeLess 2097152 20) := by
  intro a0 n L B ha hB hb
  have hlen : ∀ (h : H) (k : AV → H → Option R), aLenK 1 a0 h k = k (nI n) h := fun h k => by rcases ha with ⟨rfl, rfl⟩ | rfl <;> rfl
  apply tells_some
  delta c_laws_FnCodeLess
  by_cases h20 : 1048576 < n
  · rw [hlen, gtrN, withBool_bool, ble_true (show Nat.succ 1048576 ≤ n from h20), bc_true]; rfl
  · rw [hlen, gtrN, withBool_bool, ble_false (show n < Nat.succ 1048576 by omega), bc_false]
    obtain ⟨s, t, hs, ht, e⟩ := draw_less 2097152 20 ha hB hb
    have ys : may s s.length = true := Go.AI.V.may_ok (lenL_eq s) (by omega) hs.2
    have yt : may t t.length = true := Go.AI.V.may_ok (lenL_eq t) (by omega) ht.2
    rw [e, bindR_some']
    delta c_laws_FnCodeLess_r3
    obtain ⟨h1, e1⟩ := implLess_eq (F := 2097152) (g := 20) ys yt (hCode B)
    rw [aExtract_0, aExtract_1, e1, bindR_some', specLess_eq ys yt, bindR_some']
    cases hL : lessB (codeT s) (codeT t) with
    | false => rfl
    | true =>
      obtain ⟨hn, hne, hs0, ht0⟩ := lessB_not hL
      have hts : isTree s = true := by
        cases h : isTree s with
        | true => rfl
        | false => exact absurd (Go.AI.V.codeT_bad (by omega) h) hs0
      have htt : isTree t = true := by
        cases h : isTree t with
        | true => rfl
        | false => exact absurd (Go.AI.V.codeT_bad (by omega) h) ht0
      obtain ⟨h2, e2⟩ := implLess_eq (F := 2097152) (g := 20) yt ys h1
      have e3 : c_impl_TreeAlike 2097152 20 (.str s s.length) (.str t t.length) h2 = some (.bool false, h2) := by
        delta c_impl_TreeAlike
        rw [sorted_eq _ _ hts (hs.2 hts), bindR_some', aExtract_0, aExtract_1, sorted_eq _ _ htt (ht.2 htt), bindR_some', aExtract_0, aExtract_1]
        have hq : eqL (Go.AI.V.srt s) (Go.AI.V.srt t) = false := by
          cases h : eqL (Go.AI.V.srt s) (Go.AI.V.srt t) with
          | false => rfl
          | true =>
            exfalso
            apply hne
            rw [← (Go.AI.V.srt_ok hts (hs.2 hts)).2, ← (Go.AI.V.srt_ok htt (ht.2 htt)).2, eqL_to h]
        refine (show _ = aCmpS eqL (.str (Go.AI.V.srt s) (lenL (Go.AI.V.srt s))) (.str (Go.AI.V.srt t) (lenL (Go.AI.V.srt t))) h2 (fun x15 h => c_impl_TreeAlike_j1 2097152 20 [.bool true, x15] h) from rfl).trans ?_
        rw [show aCmpS eqL (.str (Go.AI.V.srt s) (lenL (Go.AI.V.srt s))) (.str (Go.AI.V.srt t) (lenL (Go.AI.V.srt t))) h2 (fun x15 h => c_impl_TreeAlike_j1 2097152 20 [.bool true, x15] h) = c_impl_TreeAlike_j1 2097152 20 [.bool true, .bool (eqL (Go.AI.V.srt s) (Go.AI.V.srt t))] h2 from rfl, hq]
        rfl
      refine (show tells _ = tells (bindR (c_impl_CodeLess 2097152 20 (.str t t.length) (.str s s.length) h1) fun x19 h => aNot x19 h fun x20 h => guardB true x20 (bindR (c_impl_TreeAlike 2097152 20 (.str s s.length) (.str t t.length) h) fun x24 h => aNot x24 h fun x25 h => (c_laws_FnCodeLess_j1 2097152 20) [x20, x25] h) ((c_laws_FnCodeLess_j1 2097152 20) [x20, (AV.one .tup (AV.leaf .nil))] h)) from rfl).trans ?_
      rw [e2, bindR_some', hn]
      refine (show tells _ = tells (bindR (c_impl_TreeAlike 2097152 20 (.str s s.length) (.str t t.length) h2) fun x24 h => aNot x24 h fun x25 h => (c_laws_FnCodeLess_j1 2097152 20) [.bool true, x25] h) from rfl).trans ?_
      rw [e3]
      rfl
end
end Go.AI.T
