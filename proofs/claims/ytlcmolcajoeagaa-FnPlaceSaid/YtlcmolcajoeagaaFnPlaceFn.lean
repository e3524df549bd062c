/- The functions that the law FnPlace reaches, as the evaluator reads them. -/
import Derived.Test.YtlcmolcajoeagaaPr4
import Derived.Test.YtlcmolcajoeagaaProg
import Derived.KernelRfl
namespace Go.AI.T
open Go Go.RowKit Go.AI
set_option linter.unusedVariables false
set_option linter.unusedSimpArgs false
set_option maxRecDepth 100000
noncomputable section
-- "loop.example/treenumbers/spec.CodePrime"
noncomputable def c_spec_CodePrime (F g : Nat) (a0 : AV) (h : H) : Option R := aCmpI ilt a0 (AV.int 3 (Int.ofNat 1)) h fun x1 h => withBool x1 fun t2 => bc t2 (some (AV.one .tup (AV.cons (AV.int 3 (Int.ofNat 0)) (AV.cons (AV.bool false) (AV.leaf .nil))), h)) (bindR (c_spec_l2At F g a0 h) fun x3 h => aCmpI (fun a b => ilt b a) x3 (AV.int 3 (Int.ofNat 0)) h fun x4 h => some (AV.one .tup (AV.cons x3 (AV.cons x4 (AV.leaf .nil))), h))
noncomputable def A_spec_CodePrime : An := (.two .o (.two (.two .o (.two (.two .o .o) .o)) (.two .o (.two .o .o))))
noncomputable def b_spec_CodePrime : Code := bodyOf Go.Proofs.Try.f25
theorem k_spec_CodePrime (F g : Nat) (a0 : AV) (h : H) : callD Go.Proofs.Try.prog (Env.add (fun _ _ _ => none : Env) 78 (u1 (c_spec_l2At F g))) 12 F b_spec_CodePrime [2, 3] A_spec_CodePrime [a0] h = c_spec_CodePrime F g a0 h := by kernel_rfl
theorem s_spec_CodePrime (F g : Nat) : ∀ args h r, u1 (c_spec_CodePrime F g) args h = some r → Tri Go.Proofs.Try.prog 25 args h r := by
  intro args h r e; obtain ⟨a0, rfl, e1⟩ := u1_some e; exact fn_sound Go.Proofs.Try.func25 rfl rfl rfl Go.Proofs.Try.ntmps25 (Sound.add (Sound.none _) (s_spec_l2At F g)) ((k_spec_CodePrime F g a0 h).trans e1)

-- "loop.example/treenumbers/spec.DrawCodePlace"
noncomputable def c_raw_spec_DrawCodePlace_j1 (F g : Nat) (vs : List AV) (h : H) : Option R := (fun x7 x8 x9 x10 => aPick x9 x10 (AV.bool false) h fun x11 h => withBool x11 fun t12 => bc t12 (some (x8, h)) (bindR (Go.AI.c_spec_l6Rd_pick F g x7 (AV.int 3 (Int.ofNat 250)) h) fun x13 h => some (x13, h))) (hd vs) (hd (tl vs)) (hd (tl (tl vs))) (hd (tl (tl (tl vs))))
noncomputable def c_raw_spec_DrawCodePlace (F g : Nat) (a0 : AV) (h : H) : Option R := bindR (Go.AI.c_spec_l6Open F g a0 h) fun x1 h => bindR (Go.AI.c_spec_l6Rd_pick F g x1 (AV.int 3 (Int.ofNat 100)) h) fun x2 h => aArith iadd (AV.int 3 (Int.ofNat 1)) x2 h fun x3 h => bindR (c_spec_CodePrime F g x3 h) fun x4 h => aExtract x4 0 h fun x5 h => aExtract x4 1 h fun x6 h => guardB true x6 (bindR (Go.AI.c_spec_l6Rd_pick F g x1 (AV.int 3 (Int.ofNat 3)) h) fun x14 h => aCmpI (fun a b => ilt b a) x14 (AV.int 3 (Int.ofNat 0)) h fun x15 h => (c_raw_spec_DrawCodePlace_j1 F g) [x1, x5, x6, x15] h) ((c_raw_spec_DrawCodePlace_j1 F g) [x1, x5, x6, (AV.one .tup (AV.leaf .nil))] h)
noncomputable def A_raw_spec_DrawCodePlace : An := (.two .o (.two .o (.two .o (.two (.two (.at_ [3, 4, 16, 19] .o .o) (.two (.two .o .o) .o)) (.two .o .o)))))
noncomputable def b_raw_spec_DrawCodePlace : Code := bodyOf Go.Proofs.Try.f27
theorem k_raw_spec_DrawCodePlace (F g : Nat) (a0 : AV) (h : H) : callD Go.Proofs.Try.prog (Env.add (Env.add (Env.add (fun _ _ _ => none : Env) 66 (u1 (Go.AI.c_spec_l6Open F g))) 76 (u2 (Go.AI.c_spec_l6Rd_pick F g))) 25 (u1 (c_spec_CodePrime F g))) 24 F b_raw_spec_DrawCodePlace [2] A_raw_spec_DrawCodePlace [a0] h = c_raw_spec_DrawCodePlace F g a0 h := by kernel_rfl
theorem s_raw_spec_DrawCodePlace (F g : Nat) : ∀ args h r, u1 (c_raw_spec_DrawCodePlace F g) args h = some r → Tri Go.Proofs.Try.prog 27 args h r := by
  intro args h r e; obtain ⟨a0, rfl, e1⟩ := u1_some e; exact fn_sound Go.Proofs.Try.func27 rfl rfl rfl Go.Proofs.Try.ntmps27 (Sound.add (Sound.add (Sound.add (Sound.none _) (Go.AI.s_spec_l6Open F g)) (Go.AI.s_spec_l6Rd_pick F g)) (s_spec_CodePrime F g)) ((k_raw_spec_DrawCodePlace F g a0 h).trans e1)

end
end Go.AI.T
namespace Go.AI.T
open Go Go.RowKit Go.AI
set_option linter.unusedVariables false
set_option linter.unusedSimpArgs false
set_option maxRecDepth 100000
noncomputable section
/-- Does it hold of all numbers less than n? -/
def allB (f : Nat → Bool) (n : Nat) : Bool := @Nat.rec (fun _ => Bool) true (fun k r => bc (f k) r false) n
theorem allB_spec (f : Nat → Bool) : ∀ n, allB f n = true → ∀ v, v < n → f v = true
  | 0, _, v, hv => by omega
  | n + 1, h, v, hv => by
    have h : bc (f n) (allB f n) false = true := h
    cases hf : f n with
    | false => rw [hf] at h; cases h
    | true =>
      rw [hf, bc_true] at h
      by_cases hn : v = n
      · subst hn; exact hf
      · exact allB_spec f n h v (by omega)
theorem place_few : allB (fun v => Nat.ble (pT (v + 1)) 599) 100 = true := by kernel_rfl
theorem bex3 {X : Option R} {P : Nat → H → Prop} {Q : H → Prop} (h : ∃ w h', P w h' ∧ X = some (nI w, h') ∧ Q h') : ∃ w h', P w h' ∧ X = some (nI w, h') ∧ Q h' := h
def c_spec_DrawCodePlace (F g : Nat) (a0 : AV) (h : H) : Option R := quietC (c_raw_spec_DrawCodePlace 20000 20) a0 h
theorem s_spec_DrawCodePlace (F g : Nat) : ∀ args h r, u1 (c_spec_DrawCodePlace F g) args h = some r → Tri Go.Proofs.Try.prog id_spec_DrawCodePlace args h r := quietC_sound (s_raw_spec_DrawCodePlace 20000 20)
theorem draw_FnPlace (F g : Nat) {a0 : AV} {n : Nat} {L : List AV} {B : Blk} (ha : (a0 = .leaf .nils ∧ n = 0) ∨ a0 = .osl 0 0 n 1) (hB : 0 < n → B = .cells 2 L) (hb : ∀ i, i < n → ∃ v, L[i]? = some (.int 4 (.ofNat v)) ∧ v < 256) :
    ∃ v, v < 600 ∧ c_spec_DrawCodePlace F g a0 (hCode B) = some (nI v, hCode B) := by
  obtain ⟨b, m, h1, e1, r1, _⟩ := open_ok (F := 20000) (g := 20) (h := hCode B) ha (fun hn => ⟨2, hB hn⟩) hb (Nat.le_refl _) (Nat.le_refl _)
  obtain ⟨v, h2, hv, e2, r2, _, _⟩ := r1.pick (F := 20000) (g := 20) (n := 100) (by omega) (by omega)
  obtain ⟨q, hq⟩ : ∃ q, pT (1 + v) = q := ⟨_, rfl⟩
  have hq2 : q < 600 := by rw [← hq, Nat.add_comm]; exact Nat.lt_of_le_of_lt (Nat.le_of_ble_eq_true (allB_spec (fun v => Nat.ble (pT (v + 1)) 599) 100 place_few v (by omega))) (by omega)
  have e3 : Go.AI.T.c_spec_CodePrime 20000 20 (nI (1 + v)) h2 = some (toldN q, h2) := by
    delta Go.AI.T.c_spec_CodePrime
    have e0 : Go.AI.T.c_spec_l2At 20000 20 (nI (1 + v)) h2 = some (nI (pT (1 + v)), h2) := by
      show bc (Nat.ble 1 (1 + v)) (bc (Nat.ble (1 + v) 9223372036854775807) (some (nI (pT (1 + v)), h2)) none) none = _
      rw [ble_true (by omega), ble_true (by omega)]; rfl
    rw [show AV.int 3 (Int.ofNat 1) = nI 1 from rfl, lssN, withBool_bool, ble_false (by omega), bc_false, e0, bindR_some', hq]
    cases q <;> rfl
  obtain ⟨u, h3, hu, e4, r3, _, _⟩ := r2.pick (F := 20000) (g := 20) (n := 3) (by omega) (by omega)
  obtain ⟨x, h4, hx, e5, r4, _, _⟩ := r3.pick (F := 20000) (g := 20) (n := 250) (by omega) (by omega)
  obtain ⟨y, h5, hy, e6, r5, _, _⟩ := r2.pick (F := 20000) (g := 20) (n := 250) (by omega) (by omega)
  have go : ∃ w h', w < 600 ∧ c_raw_spec_DrawCodePlace 20000 20 a0 (hCode B).mark = some (nI w, h') ∧ (hCode B).n ≤ h'.lo := by
    delta c_raw_spec_DrawCodePlace
    rw [show (hCode B).mark = hCode B from rfl, e1, bindR_some', e2, bindR_some', show AV.int 3 (Int.ofNat 1) = nI 1 from rfl, addN (by omega), e3, bindR_some']
    delta toldN
    rw [aExtract_0, aExtract_1]
    cases q with
    | zero =>
      refine ⟨y, h5, by omega, ?_, r5.lo⟩
      refine (show _ = bindR (Go.AI.c_spec_l6Rd_pick 20000 20 (.ptr (hCode B).n 0) (nI 250) h2) (fun x13 h => some (x13, h)) from rfl).trans ?_
      rw [e6, bindR_some']
    | succ q =>
      refine (bex3 (X := bindR (Go.AI.c_spec_l6Rd_pick 20000 20 (.ptr (hCode B).n 0) (nI 3) h2) fun x14 h => aCmpI (fun a b => ilt b a) x14 (AV.int 3 (Int.ofNat 0)) h fun x15 h => c_raw_spec_DrawCodePlace_j1 20000 20 [.ptr (hCode B).n 0, nI (q + 1), .bool true, x15] h) ?_)
      rw [e4, bindR_some', show AV.int 3 (Int.ofNat 0) = nI 0 from rfl, gtrN]
      cases Nat.ble (Nat.succ 0) u with
      | true => exact ⟨q + 1, h3, by omega, rfl, r3.lo⟩
      | false =>
        refine ⟨x, h4, by omega, ?_, r4.lo⟩
        refine (show _ = bindR (Go.AI.c_spec_l6Rd_pick 20000 20 (.ptr (hCode B).n 0) (nI 250) h3) (fun x13 h => some (x13, h)) from rfl).trans ?_
        rw [e5, bindR_some']
  obtain ⟨w, h', hw, e, hlo⟩ := go
  exact ⟨w, hw, quietC_ok e rfl hlo⟩
end
end Go.AI.T
namespace Go.AI.T
open Go Go.RowKit Go.AI
set_option linter.unusedVariables false
set_option linter.unusedSimpArgs false
set_option maxRecDepth 100000
noncomputable section
-- "loop.example/treenumbers/spec.l6In"
noncomputable def c_spec_l6In_j1 (F g : Nat) (vs : List AV) (h : H) : Option R := (fun x2 x3 => aPick x2 x3 (AV.bool false) h fun x4 h => some (x4, h)) (hd vs) (hd (tl vs))
noncomputable def c_spec_l6In (F g : Nat) (a0 a1 a2 : AV) (h : H) : Option R := aCmpI (fun a b => ile b a) a0 a1 h fun x1 h => guardB true x1 (aCmpI ile a0 a2 h fun x5 h => (c_spec_l6In_j1 F g) [x1, x5] h) ((c_spec_l6In_j1 F g) [x1, (AV.one .tup (AV.leaf .nil))] h)
noncomputable def A_spec_l6In : An := (.two .o (.two (.at_ [10, 13] .o .o) .o))
noncomputable def b_spec_l6In : Code := bodyOf Go.Proofs.Try.f79
theorem k_spec_l6In (F g : Nat) (a0 a1 a2 : AV) (h : H) : callD Go.Proofs.Try.prog (fun _ _ _ => none : Env) 15 F b_spec_l6In [6] A_spec_l6In [a0, a1, a2] h = c_spec_l6In F g a0 a1 a2 h := by kernel_rfl
theorem s_spec_l6In (F g : Nat) : ∀ args h r, u3 (c_spec_l6In F g) args h = some r → Tri Go.Proofs.Try.prog 79 args h r := by
  intro args h r e; obtain ⟨a0, a1, a2, rfl, e1⟩ := u3_some e; exact fn_sound Go.Proofs.Try.func79 rfl rfl rfl Go.Proofs.Try.ntmps79 (Sound.none _) ((k_spec_l6In F g a0 a1 a2 h).trans e1)

-- "loop.example/treenumbers/spec.CodePlace"
noncomputable def c_spec_CodePlace_j1 (F g : Nat) (vs : List AV) (h : H) : Option R := (fun x3 x4 x5 => aPick x4 (AV.bool true) x5 h fun x6 h => withBool x6 fun t7 => bc t7 (some (AV.one .tup (AV.cons (AV.int 3 (Int.ofNat 0)) (AV.cons (AV.bool false) (AV.leaf .nil))), h)) (bindR (c_spec_l2Place F g x3 h) fun x8 h => some (AV.one .tup (AV.cons x8 (AV.cons (AV.bool true) (AV.leaf .nil))), h))) (hd vs) (hd (tl vs)) (hd (tl (tl vs)))
noncomputable def c_spec_CodePlace (F g : Nat) (a0 : AV) (h : H) : Option R := bindR (c_spec_l6In F g a0 (AV.int 3 (Int.ofNat 2)) (AV.int 3 (Int.ofNat 5000)) h) fun x1 h => aNot x1 h fun x2 h => guardB false x2 (bindR (c_spec_l2Prime F g a0 h) fun x9 h => aNot x9 h fun x10 h => (c_spec_CodePlace_j1 F g) [a0, x2, x10] h) ((c_spec_CodePlace_j1 F g) [a0, x2, (AV.one .tup (AV.leaf .nil))] h)
noncomputable def A_spec_CodePlace : An := (.two .o (.two (.two (.at_ [0, 7, 10] .o .o) (.two (.two .o .o) .o)) (.two .o .o)))
noncomputable def b_spec_CodePlace : Code := bodyOf Go.Proofs.Try.f28
theorem k_spec_CodePlace (F g : Nat) (a0 : AV) (h : H) : callD Go.Proofs.Try.prog (Env.add (Env.add (Env.add (fun _ _ _ => none : Env) 79 (u3 (c_spec_l6In F g))) 81 (u1 (c_spec_l2Place F g))) 80 (u1 (c_spec_l2Prime F g))) 14 F b_spec_CodePlace [2, 3] A_spec_CodePlace [a0] h = c_spec_CodePlace F g a0 h := by kernel_rfl
theorem s_spec_CodePlace (F g : Nat) : ∀ args h r, u1 (c_spec_CodePlace F g) args h = some r → Tri Go.Proofs.Try.prog 28 args h r := by
  intro args h r e; obtain ⟨a0, rfl, e1⟩ := u1_some e; exact fn_sound Go.Proofs.Try.func28 rfl rfl rfl Go.Proofs.Try.ntmps28 (Sound.add (Sound.add (Sound.add (Sound.none _) (s_spec_l6In F g)) (s_spec_l2Place F g)) (s_spec_l2Prime F g)) ((k_spec_CodePlace F g a0 h).trans e1)

-- "loop.example/treenumbers/laws.FnPlace"
noncomputable def c_laws_FnPlace_j1 (F g : Nat) (vs : List AV) (h : H) : Option R := (fun x30 x31 => aPick x30 x31 (AV.bool false) h fun x32 h => some (x32, h)) (hd vs) (hd (tl vs))
noncomputable def c_laws_FnPlace_j2 (F g : Nat) (vs : List AV) (h : H) : Option R := (fun x37 x38 => aPick x37 x38 (AV.bool false) h fun x39 h => some (x39, h)) (hd vs) (hd (tl vs))
noncomputable def c_laws_FnPlace_j3 (F g : Nat) (vs : List AV) (h : H) : Option R := (fun x20 x21 x22 x23 x24 x25 x26 => aPick x25 (AV.bool true) x26 h fun x27 h => withBool x27 fun t28 => bc t28 (aEq false 0 x22 x24 h fun x29 h => guardB true x29 (aCmpI ieq x21 x23 h fun x33 h => (c_laws_FnPlace_j1 F g) [x29, x33] h) ((c_laws_FnPlace_j1 F g) [x29, (AV.one .tup (AV.leaf .nil))] h)) (bindR (c_impl_CodePrime F g x21 h) fun x34 h => aExtract x34 0 h fun x35 h => aExtract x34 1 h fun x36 h => guardB true x36 (aCmpI ieq x35 x20 h fun x40 h => (c_laws_FnPlace_j2 F g) [x36, x40] h) ((c_laws_FnPlace_j2 F g) [x36, (AV.one .tup (AV.leaf .nil))] h))) (hd vs) (hd (tl vs)) (hd (tl (tl vs))) (hd (tl (tl (tl vs)))) (hd (tl (tl (tl (tl vs))))) (hd (tl (tl (tl (tl (tl vs)))))) (hd (tl (tl (tl (tl (tl (tl vs)))))))
noncomputable def c_laws_FnPlace_j4 (F g : Nat) (vs : List AV) (h : H) : Option R := (fun x12 x13 x14 x15 x16 x17 x18 => aPick x17 (AV.bool true) x18 h fun x19 h => guardB false x19 (aNot x14 h fun x41 h => (c_laws_FnPlace_j3 F g) [x12, x13, x14, x15, x16, x19, x41] h) ((c_laws_FnPlace_j3 F g) [x12, x13, x14, x15, x16, x19, (AV.one .tup (AV.leaf .nil))] h)) (hd vs) (hd (tl vs)) (hd (tl (tl vs))) (hd (tl (tl (tl vs)))) (hd (tl (tl (tl (tl vs))))) (hd (tl (tl (tl (tl (tl vs)))))) (hd (tl (tl (tl (tl (tl (tl vs)))))))
noncomputable def c_laws_FnPlace_r5 (F g : Nat) (x4 : AV) (h : H) : Option R := bindR (c_impl_CodePlace F g x4 h) fun x5 h => aExtract x5 0 h fun x6 h => aExtract x5 1 h fun x7 h => bindR (c_spec_CodePlace F g x4 h) fun x8 h => aExtract x8 0 h fun x9 h => aExtract x8 1 h fun x10 h => aEq true 0 x7 x10 h fun x11 h => guardB false x11 (aCmpI (fun a b => bnot (ieq a b)) x6 x9 h fun x42 h => (c_laws_FnPlace_j4 F g) [x4, x6, x7, x9, x10, x11, x42] h) ((c_laws_FnPlace_j4 F g) [x4, x6, x7, x9, x10, x11, (AV.one .tup (AV.leaf .nil))] h)
noncomputable def c_laws_FnPlace (F g : Nat) (a0 : AV) (h : H) : Option R := aLenK 1 a0 h fun x1 h => aCmpI (fun a b => ilt b a) x1 (AV.int 3 (Int.ofNat 1048576)) h fun x2 h => withBool x2 fun t3 => bc t3 (some ((AV.bool true), h)) (bindR (c_spec_DrawCodePlace F g a0 h) fun x4 h => c_laws_FnPlace_r5 F g x4 h)
noncomputable def A_laws_FnPlace : An := (.two .o (.two (.two .o (.two (.two .o .o) .o)) (.two .o (.two .o (.two .o (.two (.two (.at_ [3, 4, 5, 6, 7, 28, 31] .o (.at_ [3, 4, 5, 6, 7, 33, 35] .o .o)) (.two (.two (.at_ [40, 43] .o .o) .o) .o)) (.two .o (.two (.at_ [51, 54] .o .o) .o))))))))
noncomputable def b_laws_FnPlace : Code := bodyOf Go.Proofs.Try.f5
theorem k_laws_FnPlace (F g : Nat) (a0 : AV) (h : H) : callD Go.Proofs.Try.prog (Env.add (Env.add (Env.add (Env.add (fun _ _ _ => none : Env) 27 (u1 (c_spec_DrawCodePlace F g))) 26 (u1 (c_impl_CodePlace F g))) 28 (u1 (c_spec_CodePlace F g))) 24 (u1 (c_impl_CodePrime F g))) 56 F b_laws_FnPlace [2] A_laws_FnPlace [a0] h = c_laws_FnPlace F g a0 h := by kernel_rfl
theorem s_laws_FnPlace (F g : Nat) : ∀ args h r, u1 (c_laws_FnPlace F g) args h = some r → Tri Go.Proofs.Try.prog 5 args h r := by
  intro args h r e; obtain ⟨a0, rfl, e1⟩ := u1_some e; exact fn_sound Go.Proofs.Try.func5 rfl rfl rfl Go.Proofs.Try.ntmps5 (Sound.add (Sound.add (Sound.add (Sound.add (Sound.none _) (s_spec_DrawCodePlace F g)) (s_impl_CodePlace F g)) (s_spec_CodePlace F g)) (s_impl_CodePrime F g)) ((k_laws_FnPlace F g a0 h).trans e1)

end
end Go.AI.T
