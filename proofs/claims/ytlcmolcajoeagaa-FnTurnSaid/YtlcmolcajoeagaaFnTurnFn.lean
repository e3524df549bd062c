/- The functions that the law FnTurn reaches, as the evaluator reads them. -/
import Derived.Test.YtlcmolcajoeagaaRaw
import Derived.Test.YtlcmolcajoeagaaPai
import Derived.Test.YtlcmolcajoeagaaProg
import Derived.KernelRfl
namespace Go.AI.Q
open Go Go.RowKit Go.AI
set_option linter.unusedVariables false
set_option linter.unusedSimpArgs false
set_option maxRecDepth 100000
noncomputable section
-- "loop.example/treenumbers/spec.DrawPairTurn"
noncomputable def C_spec_DrawPairTurn (F g : Nat) (q_spec_l92One : AV → H → Option R) (q_spec_l6Open : AV → H → Option R) (q_spec_l6Rd_pick : AV → AV → H → Option R) (a0 : AV) (h : H) : Option R := bindR (q_spec_l92One a0 h) fun x1 h => bindR (q_spec_l6Open a0 h) fun x2 h => aNilCheck x2 h fun x3 h => aField 1 x3 h fun x4 h => aStore x4 (AV.int 3 (Int.ofNat 61)) h fun x5 h => aLenK 0 x1 h fun x6 h => aQuo x6 (AV.int 3 (Int.ofNat 2)) h fun x7 h => bindR (q_spec_l6Rd_pick x2 x7 h) fun x8 h => bindR (q_spec_l6Rd_pick x2 (AV.int 3 (Int.ofNat 24)) h) fun x9 h => aQuo x9 (AV.int 3 (Int.ofNat 23)) h fun x10 h => aArith imul x10 (AV.int 3 (Int.ofNat 9)) h fun x11 h => aArith iadd x8 x11 h fun x12 h => bindR (q_spec_l6Rd_pick x2 (AV.int 3 (Int.ofNat 24)) h) fun x13 h => aQuo x13 (AV.int 3 (Int.ofNat 23)) h fun x14 h => aArith isub x12 x14 h fun x15 h => some (AV.one .tup (AV.cons x1 (AV.cons x15 (AV.leaf .nil))), h)
noncomputable def c_spec_DrawPairTurn (F g : Nat) (a0 : AV) (h : H) : Option R := C_spec_DrawPairTurn F g (c_spec_l92One F g) (c_spec_l6Open F g) (c_spec_l6Rd_pick F g) a0 h
noncomputable def A_spec_DrawPairTurn : An := (.two .o (.two .o (.two .o (.two .o (.two .o .o)))))
noncomputable def b_spec_DrawPairTurn : Code := bodyOf Go.Proofs.Try.f48
theorem K_spec_DrawPairTurn (F g : Nat) (q_spec_l92One : AV → H → Option R) (q_spec_l6Open : AV → H → Option R) (q_spec_l6Rd_pick : AV → AV → H → Option R) (a0 : AV) (h : H) : callD Go.Proofs.Try.prog (Env.add (Env.add (Env.add (fun _ _ _ => none : Env) 86 (u1 q_spec_l92One)) 66 (u1 q_spec_l6Open)) 76 (u2 q_spec_l6Rd_pick)) 28 F b_spec_DrawPairTurn [2, 3] A_spec_DrawPairTurn [a0] h = C_spec_DrawPairTurn F g q_spec_l92One q_spec_l6Open q_spec_l6Rd_pick a0 h := by kernel_rfl
theorem k_spec_DrawPairTurn (F g : Nat) (a0 : AV) (h : H) : callD Go.Proofs.Try.prog (Env.add (Env.add (Env.add (fun _ _ _ => none : Env) 86 (u1 (c_spec_l92One F g))) 66 (u1 (c_spec_l6Open F g))) 76 (u2 (c_spec_l6Rd_pick F g))) 28 F b_spec_DrawPairTurn [2, 3] A_spec_DrawPairTurn [a0] h = c_spec_DrawPairTurn F g a0 h := K_spec_DrawPairTurn F g (c_spec_l92One F g) (c_spec_l6Open F g) (c_spec_l6Rd_pick F g) a0 h
theorem s_spec_DrawPairTurn (F g : Nat) : ∀ args h r, u1 (c_spec_DrawPairTurn F g) args h = some r → Tri Go.Proofs.Try.prog 48 args h r := by
  intro args h r e; obtain ⟨a0, rfl, e1⟩ := u1_some e; exact fn_sound Go.Proofs.Try.func48 rfl rfl rfl Go.Proofs.Try.ntmps48 (Sound.add (Sound.add (Sound.add (Sound.none _) (s_spec_l92One F g)) (s_spec_l6Open F g)) (s_spec_l6Rd_pick F g)) ((k_spec_DrawPairTurn F g a0 h).trans e1)

end
end Go.AI.Q
namespace Go.AI.Q
open Go Go.RowKit Go.AI
set_option linter.unusedVariables false
set_option linter.unusedSimpArgs false
set_option maxRecDepth 100000
noncomputable section
theorem open_ok2 {F g : Nat} {a : AV} {c : Nat} {L : List AV} {h : H} (ha : (a = .leaf .nils ∧ c = 0) ∨ a = .osl 0 0 c 1) (h0 : 0 < c → ∃ fl, h.get 0 = .cells fl L) (hb : ∀ i, i < c → ∃ v, L[i]? = some (.int 4 (.ofNat v)) ∧ v < 256) (hn : 1 ≤ h.n) (hlo : 1 ≤ h.lo) :
    ∃ b m h', (0 < c → 0 < m) ∧ c_spec_l6Open F g a h = some (.ptr h.n 0, h') ∧ Rdr b m L h.n 0 h' ∧ h'.n = h.n + 1 := by
  have j : ∀ q, c_spec_l6Open_j1 F g [.osl 0 0 q 1] h = some (.ptr h.n 0, h.push (.cells 0 [.osl 0 0 q 1, nI 0])) := fun q => rfl
  have mk : ∀ b m, (b = .leaf .nils ∧ m = 0) ∨ b = .osl 0 0 m 1 → m ≤ c → m ≤ 2000 → Rdr b m L h.n 0 (h.push (.cells 0 [b, nI 0])) := fun b m hw hmc hm2 =>
    ⟨⟨hw, fun hm => by rw [get_push_lt (by omega)]; exact h0 (by omega), fun i hi => hb i (by omega)⟩, get_push_eq rfl, hn, Nat.lt_succ_self _, hlo, hm2⟩
  rcases ha with ⟨rfl, rfl⟩ | rfl
  · exact ⟨.leaf .nils, 0, _, id, rfl, mk _ _ (.inl ⟨rfl, rfl⟩) (by omega) (by omega), rfl⟩
  · by_cases hc : 2000 < c
    · refine ⟨.osl 0 0 2000 1, 2000, _, fun _ => by omega, ?_, mk _ _ (.inr rfl) (by omega) (by omega), rfl⟩
      delta c_spec_l6Open
      rw [leOsl, gtrN, withBool_bool, ble_true (show Nat.succ 2000 ≤ c from hc), bc_true]
      rw [show ∀ k : AV → H → Option R, aSliceV 1 (.osl 0 0 c 1) none (some (.int 3 (.ofNat 2000))) none h k = k (.osl 0 0 2000 1) h from fun k => by
        show bc (Nat.ble 0 2000) (bc (Nat.ble 2000 c) (bc (Nat.beq 1 1) (k (.osl 0 (Nat.add 0 (Nat.mul 0 1)) (Nat.sub 2000 0) 1) h) none) none) none = _
        rw [ble_true (show 2000 ≤ c by omega)]; rfl]
      exact j _
    · refine ⟨.osl 0 0 c 1, c, _, id, ?_, mk _ _ (.inr rfl) (by omega) (by omega), rfl⟩
      delta c_spec_l6Open
      rw [leOsl, gtrN, withBool_bool, ble_false (show c < Nat.succ 2000 by omega), bc_false]
      exact j _
theorem turn_ok {F g : Nat} {a : AV} {c : Nat} {L : List AV} {h : H} (hF : 10000 < F) (ha : (a = .leaf .nils ∧ c = 0) ∨ a = .osl 0 0 c 1) (h0 : 0 < c → ∃ fl, h.get 0 = .cells fl L) (hb : ∀ i, i < c → ∃ v, L[i]? = some (.int 4 (.ofNat v)) ∧ v < 256) (hn : 1 ≤ h.n) (hlo : 1 ≤ h.lo) :
    ∃ l z h', (l.length ≤ 300 ∧ (isTree l = true → l.length ≤ 18)) ∧ (z = .negSucc 0 ∨ ∃ j, z = .ofNat j ∧ j ≤ l.length / 2 + 10) ∧ c_spec_DrawPairTurn F g a h = some (.one .tup (.cons (.str l l.length) (.cons (.int 3 z) (.leaf .nil))), h') ∧ 1 ≤ h'.lo := by
  obtain ⟨b, m, h1, hm, e1, r1, _⟩ := open_ok2 (F := F) (g := g) ha h0 hb hn hlo
  obtain ⟨l, p', h2, g1, g2, g3, r2⟩ := pairs_draw (F := F) (g := g) r1 hF (by omega)
  obtain ⟨b', m', h3, e3, r3, n3⟩ := open_ok (F := F) (g := g) (h := h2) ha (fun hc => r2.src.cell (hm hc)) hb (by have := r2.lt; omega) r2.lo
  obtain ⟨h4, hh4⟩ : ∃ h4, h3.set h2.n (.cells 0 [b', nI 61]) = h4 := ⟨_, rfl⟩
  have r4 : Rdr b' m' L h2.n 61 h4 := by
    subst hh4
    exact ⟨r3.src.of (get_set_ne (by have := r3.q0; omega)), get_set_eq, r3.q0, r3.lt, minN_ge r3.q0 r3.lo, r3.m2⟩
  obtain ⟨v5, h5, hv5, e5, r5, _, _⟩ := r4.pick (F := F) (g := g) (n := l.length / 2) (by omega) (by omega)
  obtain ⟨v6, h6, hv6, e6, r6, _, _⟩ := r5.pick (F := F) (g := g) (n := 24) (by omega) (by omega)
  obtain ⟨v7, h7, hv7, e7, r7, _, _⟩ := r6.pick (F := F) (g := g) (n := 24) (by omega) (by omega)
  have hlen : ∀ (h : H) (k : AV → H → Option R), aLenK 0 (.str l l.length) h k = k (nI l.length) h := fun h k => rfl
  have hst : ∀ k : AV → H → Option R, aStore (.ptr h2.n 1) (.int 3 (.ofNat 61)) h3 k = k (.leaf .undef) h4 := fun k => by
    show withCells h3 h2.n _ = _
    unfold withCells
    rw [r3.blk, hh4.symm]; rfl
  have run : ∃ z, (z = .negSucc 0 ∨ ∃ j, z = .ofNat j ∧ j ≤ l.length / 2 + 10) ∧ ∀ (h : H) (k : AV → H → Option R), aArith isub (nI (v5 + v6 / 23 * 9)) (nI (v7 / 23)) h k = k (.int 3 z) h := by
    by_cases h01 : v7 / 23 ≤ v5 + v6 / 23 * 9
    · exact ⟨.ofNat (v5 + v6 / 23 * 9 - v7 / 23), .inr ⟨_, rfl, by omega⟩, fun h k => subN h01 (by omega)⟩
    · have h2 : v5 + v6 / 23 * 9 = 0 := by omega
      have h1 : v7 / 23 = 1 := by omega
      exact ⟨.negSucc 0, .inl rfl, fun h k => by rw [h1, h2]; rfl⟩
  obtain ⟨z, hz, hrun⟩ := run
  have e1' : c_spec_l92One F g a h = some (.str l l.length, h2) := by
    delta c_spec_l92One
    rw [e1, bindR_some', show AV.int 3 (Int.ofNat 4) = nI 4 from rfl, g3, bindR_some']
  refine ⟨l, z, h7, g1, hz, ?_, r7.lo⟩
  delta c_spec_DrawPairTurn C_spec_DrawPairTurn
  rw [e1', bindR_some', e3, bindR_some']
  rw [show ∀ k : AV → H → Option R, aNilCheck (.ptr h2.n 0) h3 k = k (.ptr h2.n 0) h3 from fun k => rfl, show ∀ k : AV → H → Option R, aField 1 (.ptr h2.n 0) h3 k = k (.ptr h2.n 1) h3 from fun k => rfl]
  rw [hst, hlen, show AV.int 3 (Int.ofNat 2) = nI 2 from rfl, quoN (by omega) (by omega), e5, bindR_some', show AV.int 3 (Int.ofNat 24) = nI 24 from rfl, e6, bindR_some', show AV.int 3 (Int.ofNat 23) = nI 23 from rfl, quoN (by omega) (by omega), show AV.int 3 (Int.ofNat 9) = nI 9 from rfl, mulN (by omega), addN (by omega), e7, bindR_some', quoN (by omega) (by omega), hrun]
end
end Go.AI.Q
namespace Go.AI.T
open Go Go.RowKit Go.AI
set_option linter.unusedVariables false
set_option linter.unusedSimpArgs false
set_option maxRecDepth 100000
noncomputable section
def c_spec_DrawPairTurn (F g : Nat) (a0 : AV) (h : H) : Option R := quietC (Go.AI.Q.c_spec_DrawPairTurn 20000 20) a0 h
theorem s_spec_DrawPairTurn (F g : Nat) : ∀ args h r, u1 (c_spec_DrawPairTurn F g) args h = some r → Tri Go.Proofs.Try.prog id_spec_DrawPairTurn args h r := quietC_sound (Go.AI.Q.s_spec_DrawPairTurn 20000 20)
theorem draw_FnTurn (F g : Nat) {a0 : AV} {n : Nat} {L : List AV} {B : Blk} (ha : (a0 = .leaf .nils ∧ n = 0) ∨ a0 = .osl 0 0 n 1) (hB : 0 < n → B = .cells 2 L) (hb : ∀ i, i < n → ∃ v, L[i]? = some (.int 4 (.ofNat v)) ∧ v < 256) :
    ∃ l z, (l.length ≤ 300 ∧ (isTree l = true → l.length ≤ 18)) ∧ (z = .negSucc 0 ∨ ∃ j, z = .ofNat j ∧ j ≤ l.length / 2 + 10) ∧ c_spec_DrawPairTurn F g a0 (hCode B) = some ((.one .tup (.cons (.str l l.length) (.cons (.int 3 z) (.leaf .nil)))), hCode B) := by
  obtain ⟨l, z, h', hl, hz, e, hlo⟩ := Go.AI.Q.turn_ok (F := 20000) (g := 20) (h := hCode B) (by omega) ha (fun hn => ⟨2, hB hn⟩) hb (Nat.le_refl _) (Nat.le_refl _)
  refine ⟨l, z, hl, hz, quietC_ok (h' := h') ?_ rfl hlo⟩
  exact e
end
end Go.AI.T
namespace Go.AI.T
open Go Go.RowKit Go.AI
set_option linter.unusedVariables false
set_option linter.unusedSimpArgs false
set_option maxRecDepth 100000
noncomputable section
-- "loop.example/treenumbers/impl.pairsIn"
noncomputable def c_impl_pairsIn_j1 (F g : Nat) (vs : List AV) (h : H) : Option R := (fun x29 x30 x31 => aPick x30 x31 (AV.bool false) h fun x32 h => some (AV.one .tup (AV.cons x29 (AV.cons x32 (AV.leaf .nil))), h)) (hd vs) (hd (tl vs)) (hd (tl (tl vs)))
noncomputable def c_impl_pairsIn (F g : Nat) : AV → H → Option R := Nat.rec (motive := fun _ => AV → H → Option R) (fun _ _ => none) (fun g self a0 h => aNilCheck a0 h fun x1 h => aField 2 x1 h fun x2 h => aLoad x2 h fun x3 h => aLenK 1 x3 h fun x4 h => aCmpI ieq x4 (AV.int 3 (Int.ofNat 0)) h fun x5 h => withBool x5 fun t6 => bc t6 (aBuild [] [] h fun x7 h => aMkIface 112 x7 h fun x8 h => some (AV.one .tup (AV.cons x8 (AV.cons (AV.bool true) (AV.leaf .nil))), h)) (aCmpI ieq x4 (AV.int 3 (Int.ofNat 2)) h fun x9 h => withBool x9 fun t10 => bc t10 (aNilCheck a0 h fun x11 h => aField 2 x11 h fun x12 h => aLoad x12 h fun x13 h => aIdxAddr 1 x13 (AV.int 3 (Int.ofNat 0)) h fun x14 h => aLoad x14 h fun x15 h => bindR (self x15 h) fun x16 h => aExtract x16 0 h fun x17 h => aExtract x16 1 h fun x18 h => aNilCheck a0 h fun x19 h => aField 2 x19 h fun x20 h => aLoad x20 h fun x21 h => aIdxAddr 1 x21 (AV.int 3 (Int.ofNat 1)) h fun x22 h => aLoad x22 h fun x23 h => bindR (self x23 h) fun x24 h => aExtract x24 0 h fun x25 h => aExtract x24 1 h fun x26 h => aBuild [(AV.leaf .nili), (AV.leaf .nili)] [(0, 1, x17), (1, 1, x25)] h fun x27 h => aMkIface 92 x27 h fun x28 h => guardB true x18 ((c_impl_pairsIn_j1 F g) [x28, x18, x26] h) ((c_impl_pairsIn_j1 F g) [x28, x18, (AV.one .tup (AV.leaf .nil))] h)) (some (AV.one .tup (AV.cons (AV.leaf .nili) (AV.cons (AV.bool false) (AV.leaf .nil))), h)))) g
noncomputable def A_impl_pairsIn : An := (.two .o (.two .o (.two (.two .o (.two (.two .o .o) (.two .o (.two (.two .o (.two .o (.two (.at_ [42, 44, 45] .o .o) .o))) (.two .o .o))))) .o)))
noncomputable def b_impl_pairsIn : Code := bodyOf Go.Proofs.Try.f122
theorem k_impl_pairsIn (F g : Nat) (a0 : AV) (h : H) : callD Go.Proofs.Try.prog (Env.add (fun _ _ _ => none : Env) 122 (u1 (c_impl_pairsIn F g))) 47 F b_impl_pairsIn [2, 3] A_impl_pairsIn [a0] h = c_impl_pairsIn F (g + 1) a0 h := by kernel_rfl
theorem s_impl_pairsIn (F g : Nat) : ∀ args h r, u1 (c_impl_pairsIn F g) args h = some r → Tri Go.Proofs.Try.prog 122 args h r := by
  induction g with
  | zero => intro args h r e; obtain ⟨a0, rfl, e⟩ := u1_some e; cases e
  | succ g ih => intro args h r e; obtain ⟨a0, rfl, e1⟩ := u1_some e; exact fn_sound Go.Proofs.Try.func122 rfl rfl rfl Go.Proofs.Try.ntmps122 (Sound.add (Sound.none _) ih) ((k_impl_pairsIn F g a0 h).trans e1)

-- "loop.example/treenumbers/impl.readPairs"
noncomputable def c_impl_readPairs (F g : Nat) (a0 : AV) (h : H) : Option R := bindR (c_impl_readTree F g a0 h) fun x1 h => aExtract x1 0 h fun x2 h => aExtract x1 1 h fun x3 h => aNot x3 h fun x4 h => withBool x4 fun t5 => bc t5 (some (AV.one .tup (AV.cons (AV.leaf .nili) (AV.cons (AV.bool false) (AV.leaf .nil))), h)) (bindR (c_impl_pairsIn F g x2 h) fun x6 h => aExtract x6 0 h fun x7 h => aExtract x6 1 h fun x8 h => some (AV.one .tup (AV.cons x7 (AV.cons x8 (AV.leaf .nil))), h))
noncomputable def A_impl_readPairs : An := (.two .o (.two .o (.two (.two .o (.two (.two .o .o) .o)) (.two .o .o))))
noncomputable def b_impl_readPairs : Code := bodyOf Go.Proofs.Try.f87
theorem k_impl_readPairs (F g : Nat) (a0 : AV) (h : H) : callD Go.Proofs.Try.prog (Env.add (Env.add (fun _ _ _ => none : Env) 72 (u1 (c_impl_readTree F g))) 122 (u1 (c_impl_pairsIn F g))) 17 F b_impl_readPairs [2, 3] A_impl_readPairs [a0] h = c_impl_readPairs F g a0 h := by kernel_rfl
theorem s_impl_readPairs (F g : Nat) : ∀ args h r, u1 (c_impl_readPairs F g) args h = some r → Tri Go.Proofs.Try.prog 87 args h r := by
  intro args h r e; obtain ⟨a0, rfl, e1⟩ := u1_some e; exact fn_sound Go.Proofs.Try.func87 rfl rfl rfl Go.Proofs.Try.ntmps87 (Sound.add (Sound.add (Sound.none _) (s_impl_readTree F g)) (s_impl_pairsIn F g)) ((k_impl_readPairs F g a0 h).trans e1)

-- "loop.example/treenumbers/impl.grown"
noncomputable def c_impl_grown (F g : Nat) : AV → H → Option R := Nat.rec (motive := fun _ => AV → H → Option R) (fun _ _ => none) (fun g self a0 h => aIdxAddr 1 a0 (AV.int 3 (Int.ofNat 0)) h fun x1 h => aLoad x1 h fun x2 h => aAssertC true 92 (AV.one .agg (AV.cons (AV.leaf .nili) (AV.cons (AV.leaf .nili) (AV.leaf .nil)))) x2 h fun x3 h => aExtract x3 1 h fun x4 h => aExtract x3 0 h fun x5 h => withBool x4 fun t6 => bc t6 (aSliceV 1 a0 (some (AV.int 3 (Int.ofNat 1))) none none h fun x7 h => bindR (self x7 h) fun x8 h => aExtract x8 0 h fun x9 h => aExtract x8 1 h fun x10 h => bindR (self x10 h) fun x11 h => aExtract x11 0 h fun x12 h => aExtract x11 1 h fun x13 h => aBuild [(AV.leaf .nili), (AV.leaf .nili)] [(0, 1, x9), (1, 1, x12)] h fun x14 h => aMkIface 92 x14 h fun x15 h => some (AV.one .tup (AV.cons x15 (AV.cons x13 (AV.leaf .nil))), h)) (aBuild [] [] h fun x16 h => aMkIface 112 x16 h fun x17 _ => aSliceV 1 a0 (some (AV.int 3 (Int.ofNat 1))) none none h fun x18 _ => some (AV.one .tup (AV.cons x17 (AV.cons x18 (AV.leaf .nil))), h))) g
noncomputable def A_impl_grown : An := (.two .o (.two .o (.two (.two .o (.two (.two .o (.two .o (.two .o .o))) (.two .o .o))) .o)))
noncomputable def b_impl_grown : Code := bodyOf Go.Proofs.Try.f124
theorem k_impl_grown (F g : Nat) (a0 : AV) (h : H) : callD Go.Proofs.Try.prog (Env.add (fun _ _ _ => none : Env) 124 (u1 (c_impl_grown F g))) 34 F b_impl_grown [2, 3] A_impl_grown [a0] h = c_impl_grown F (g + 1) a0 h := by kernel_rfl
theorem s_impl_grown (F g : Nat) : ∀ args h r, u1 (c_impl_grown F g) args h = some r → Tri Go.Proofs.Try.prog 124 args h r := by
  induction g with
  | zero => intro args h r e; obtain ⟨a0, rfl, e⟩ := u1_some e; cases e
  | succ g ih => intro args h r e; obtain ⟨a0, rfl, e1⟩ := u1_some e; exact fn_sound Go.Proofs.Try.func124 rfl rfl rfl Go.Proofs.Try.ntmps124 (Sound.add (Sound.none _) ih) ((k_impl_grown F g a0 h).trans e1)

-- "(*loop.example/treenumbers/impl.node).nodes"
noncomputable def c_impl_node_nodes_l1 (F g : Nat) (self : AV → H → Option R) : List AV → H → (List AV → H → Option R) → Option R := fun vs h kc6 => (fun x7 x8 x9 x10 => aCmpI ilt x10 x9 h fun x11 h => withBool x11 fun t12 => bc t12 (aIdxAddr 1 x8 x10 h fun x13 h => aLoad x13 h fun x14 h => bindR (self x14 h) fun x15 h => aAppend 1 8 x7 x15 h fun x16 h => aArith iadd x10 (AV.int 3 (Int.ofNat 1)) h fun x17 h => kc6 [x16, x8, x9, x17] h) (some (x7, h))) (hd vs) (hd (tl vs)) (hd (tl (tl vs))) (hd (tl (tl (tl vs))))
noncomputable def c_impl_node_nodes (F g : Nat) : AV → H → Option R := Nat.rec (motive := fun _ => AV → H → Option R) (fun _ _ => none) (fun g self a0 h => aBuildSlice 1 1 [(0, 1, a0)] h fun x1 h => aNilCheck a0 h fun x2 h => aField 2 x2 h fun x3 h => aLoad x3 h fun x4 h => aLenK 1 x4 h fun x5 h => loopD F (c_impl_node_nodes_l1 F g self) [x1, x4, x5, (AV.int 3 (Int.ofNat 0))] h) g
noncomputable def A_impl_node_nodes : An := (.two .o (.two .o (.two (.two .o (.two (.at_ [3, 11, 12, 13] (.two .o (.two (.two .o .o) (.two (.two (.two .o .o) .o) .o))) .o) .o)) (.two .o .o))))
noncomputable def b_impl_node_nodes : Code := bodyOf Go.Proofs.Try.f75
theorem k_impl_node_nodes (F g : Nat) (a0 : AV) (h : H) : callD Go.Proofs.Try.prog (Env.add (fun _ _ _ => none : Env) 75 (u1 (c_impl_node_nodes F g))) 23 F b_impl_node_nodes [2] A_impl_node_nodes [a0] h = c_impl_node_nodes F (g + 1) a0 h := by kernel_rfl
theorem s_impl_node_nodes (F g : Nat) : ∀ args h r, u1 (c_impl_node_nodes F g) args h = some r → Tri Go.Proofs.Try.prog 75 args h r := by
  induction g with
  | zero => intro args h r e; obtain ⟨a0, rfl, e⟩ := u1_some e; cases e
  | succ g ih => intro args h r e; obtain ⟨a0, rfl, e1⟩ := u1_some e; exact fn_sound Go.Proofs.Try.func75 rfl rfl rfl Go.Proofs.Try.ntmps75 (Sound.add (Sound.none _) ih) ((k_impl_node_nodes F g a0 h).trans e1)

-- "slices.Grow[[]loop.example/treenumbers/impl.pairTree,loop.example/treenumbers/impl.pairTree]"
noncomputable def c_slices_Grow_11b6_j1 (F g : Nat) (vs : List AV) (h : H) : Option R := (fun x3 => some (x3, h)) (hd vs)
noncomputable def c_slices_Grow_11b6_j2 (F g : Nat) (vs : List AV) (h : H) : Option R := (fun x1 x2 => aCap x1 h fun x4 h => aLenK 1 x1 h fun x5 h => aArith isub x4 x5 h fun x6 h => aArith isub x2 x6 h fun x7 h => aCmpI (fun a b => ilt b a) x7 (AV.int 3 (Int.ofNat 0)) h fun x8 h => withBool x8 fun t9 => bc t9 (aCap x1 h fun x10 h => aSliceV 1 x1 none (some x10) none h fun x11 h => aAppZ 1 16 [(AV.leaf .nili)] x11 x7 h fun x12 h => aLenK 1 x1 h fun x13 h => aSliceV 1 x12 none (some x13) none h fun x14 h => (c_slices_Grow_11b6_j1 F g) [x14] h) ((c_slices_Grow_11b6_j1 F g) [x1] h)) (hd vs) (hd (tl vs))
noncomputable def c_slices_Grow_11b6 (F g : Nat) (a0 a1 : AV) (h : H) : Option R := aCmpI ilt a1 (AV.int 3 (Int.ofNat 0)) h fun x15 h => withBool x15 fun t16 => bc t16 (aMkIface 9 (AV.str [99, 97, 110, 110, 111, 116, 32, 98, 101, 32, 110, 101, 103, 97, 116, 105, 118, 101] 18) h fun x17 h => none) ((c_slices_Grow_11b6_j2 F g) [a0, a1] h)
noncomputable def A_slices_Grow_11b6 : An := (.two .o (.at_ [0, 1] (.two .o (.two .o .o)) (.at_ [0] (.two .o (.two .o (.two .o .o))) (.two .o .o))))
noncomputable def b_slices_Grow_11b6 : Code := bodyOf Go.Proofs.Try.f196
theorem k_slices_Grow_11b6 (F g : Nat) (a0 a1 : AV) (h : H) : callD Go.Proofs.Try.prog (fun _ _ _ => none : Env) 27 F b_slices_Grow_11b6 [4] A_slices_Grow_11b6 [a0, a1] h = c_slices_Grow_11b6 F g a0 a1 h := by kernel_rfl
theorem s_slices_Grow_11b6 (F g : Nat) : ∀ args h r, u2 (c_slices_Grow_11b6 F g) args h = some r → Tri Go.Proofs.Try.prog 196 args h r := by
  intro args h r e; obtain ⟨a0, a1, rfl, e1⟩ := u2_some e; exact fn_sound Go.Proofs.Try.func196 rfl rfl rfl Go.Proofs.Try.ntmps196 (Sound.none _) ((k_slices_Grow_11b6 F g a0 a1 h).trans e1)

-- "slices.Concat[[]loop.example/treenumbers/impl.pairTree,loop.example/treenumbers/impl.pairTree]"
noncomputable def c_slices_Concat_11b6_j1 (F g : Nat) (kc2 : List AV → H → Option R) (vs : List AV) (h : H) : Option R := (fun x10 x11 x12 x13 x14 => aArith iadd x14 (AV.int 3 (Int.ofNat 1)) h fun x15 h => kc2 [x10, x11, x12, x13, x15] h) (hd vs) (hd (tl vs)) (hd (tl (tl vs))) (hd (tl (tl (tl vs)))) (hd (tl (tl (tl (tl vs)))))
noncomputable def c_slices_Concat_11b6_l2 (F g : Nat) : List AV → H → (List AV → H → Option R) → Option R := fun vs h kc25 => (fun x26 x27 x28 x29 => aCmpI ilt x29 x28 h fun x30 h => withBool x30 fun t31 => bc t31 (aIdxAddr 1 x27 x29 h fun x32 h => aLoad x32 h fun x33 h => aAppend 1 16 x26 x33 h fun x34 h => aArith iadd x29 (AV.int 3 (Int.ofNat 1)) h fun x35 h => kc25 [x34, x27, x28, x35] h) (some (x26, h))) (hd vs) (hd (tl vs)) (hd (tl (tl vs))) (hd (tl (tl (tl vs))))
noncomputable def c_slices_Concat_11b6_l3 (F g : Nat) : List AV → H → (List AV → H → Option R) → Option R := fun vs h kc2 => (fun x3 x4 x5 x6 x7 => aCmpI ilt x7 x6 h fun x8 h => withBool x8 fun t9 => bc t9 (aIdxAddr 1 x5 x7 h fun x16 h => aLoad x16 h fun x17 h => aLenK 1 x17 h fun x18 h => aArith iadd x4 x18 h fun x19 h => aCmpI ilt x19 (AV.int 3 (Int.ofNat 0)) h fun x20 h => withBool x20 fun t21 => bc t21 (aMkIface 9 (AV.str [108, 101, 110, 32, 111, 117, 116, 32, 111, 102, 32, 114, 97, 110, 103, 101] 16) h fun x22 h => none) ((c_slices_Concat_11b6_j1 F g kc2) [x3, x19, x5, x6, x7] h)) (bindR (c_slices_Grow_11b6 F g (AV.leaf .nils) x4 h) fun x23 h => aLenK 1 x3 h fun x24 h => loopD F (c_slices_Concat_11b6_l2 F g) [x23, x3, x24, (AV.int 3 (Int.ofNat 0))] h)) (hd vs) (hd (tl vs)) (hd (tl (tl vs))) (hd (tl (tl (tl vs)))) (hd (tl (tl (tl (tl vs)))))
noncomputable def c_slices_Concat_11b6 (F g : Nat) (a0 : AV) (h : H) : Option R := aLenK 1 a0 h fun x1 h => loopD F (c_slices_Concat_11b6_l3 F g) [a0, (AV.int 3 (Int.ofNat 0)), a0, x1, (AV.int 3 (Int.ofNat 0))] h
noncomputable def A_slices_Concat_11b6 : An := (.two .o (.two .o (.two (.two .o (.two (.at_ [0, 3, 9, 10, 11] (.two .o (.two (.two .o .o) (.at_ [0, 3, 9, 10, 11] (.two (.two .o (.two .o (.two .o (.two .o .o)))) .o) .o))) .o) .o)) (.two .o (.two (.two .o (.two (.at_ [6, 25, 26, 27] (.two .o (.two (.two .o .o) (.two (.two (.two .o .o) .o) .o))) .o) .o)) (.two .o .o))))))
noncomputable def b_slices_Concat_11b6 : Code := bodyOf Go.Proofs.Try.f195
theorem k_slices_Concat_11b6 (F g : Nat) (a0 : AV) (h : H) : callD Go.Proofs.Try.prog (Env.add (fun _ _ _ => none : Env) 196 (u2 (c_slices_Grow_11b6 F g))) 36 F b_slices_Concat_11b6 [2] A_slices_Concat_11b6 [a0] h = c_slices_Concat_11b6 F g a0 h := by kernel_rfl
theorem s_slices_Concat_11b6 (F g : Nat) : ∀ args h r, u1 (c_slices_Concat_11b6 F g) args h = some r → Tri Go.Proofs.Try.prog 195 args h r := by
  intro args h r e; obtain ⟨a0, rfl, e1⟩ := u1_some e; exact fn_sound Go.Proofs.Try.func195 rfl rfl rfl Go.Proofs.Try.ntmps195 (Sound.add (Sound.none _) (s_slices_Grow_11b6 F g)) ((k_slices_Concat_11b6 F g a0 h).trans e1)

-- "(loop.example/treenumbers/impl.lone).nodes"
noncomputable def c_impl_lone_nodes (F g : Nat) (a0 : AV) (h : H) : Option R := aBox a0 h fun x1 h => aLoadN 0 x1 h fun x2 h => aMkIface 112 x2 h fun x3 h => aBuildSlice 1 1 [(0, 1, x3)] h fun x4 h => some (x4, h)
noncomputable def A_impl_lone_nodes : An := (.two .o (.two .o .o))
noncomputable def b_impl_lone_nodes : Code := bodyOf Go.Proofs.Try.f199
theorem k_impl_lone_nodes (F g : Nat) (a0 : AV) (h : H) : callD Go.Proofs.Try.prog (fun _ _ _ => none : Env) 6 F b_impl_lone_nodes [2] A_impl_lone_nodes [a0] h = c_impl_lone_nodes F g a0 h := by kernel_rfl
theorem s_impl_lone_nodes (F g : Nat) : ∀ args h r, u1 (c_impl_lone_nodes F g) args h = some r → Tri Go.Proofs.Try.prog 199 args h r := by
  intro args h r e; obtain ⟨a0, rfl, e1⟩ := u1_some e; exact fn_sound Go.Proofs.Try.func199 rfl rfl rfl Go.Proofs.Try.ntmps199 (Sound.none _) ((k_impl_lone_nodes F g a0 h).trans e1)

-- "(loop.example/treenumbers/impl.inner).nodes"
noncomputable def c_impl_inner_nodes (F g : Nat) : AV → H → Option R := Nat.rec (motive := fun _ => AV → H → Option R) (fun _ _ => none) (fun g self a0 h => aBox a0 h fun x1 h => (fun (W2 : List (Nat × List AV)) (lo3 : Nat) => (fun h => aLoadN4 2 W2 x1 h fun x4 h => aMkIface 92 x4 h fun x5 _ => bc (okL W2 h) (aField 0 x1 h fun x6 _ => bc (okL W2 h) (aLoad4 W2 x6 h fun x7 h => dInv (Env.add (Env.add (Env.add (fun _ _ _ => none : Env) 75 (u1 (c_impl_node_nodes F g))) 193 (u1 self)) 199 (u1 (c_impl_lone_nodes F g))) [(58, 75), (92, 193), (112, 199)] x7 [] h fun x8 h => bc (okL W2 h) (aField 1 x1 h fun x9 _ => bc (okL W2 h) (aLoad4 W2 x9 h fun x10 h => dInv (Env.add (Env.add (Env.add (fun _ _ _ => none : Env) 75 (u1 (c_impl_node_nodes F g))) 193 (u1 self)) 199 (u1 (c_impl_lone_nodes F g))) [(58, 75), (92, 193), (112, 199)] x10 [] h fun x11 h => bc (okL W2 h) (aBuildSlice 1 1 [(0, 1, x5)] h fun x12 h => bc (okL W2 h) (aBuildSlice 3 1 [(0, 1, x12), (1, 1, x8), (2, 1, x11)] h fun x13 h => bc (okL W2 h) (bindR (c_slices_Concat_11b6 F g x13 h) fun x14 h => bc (okL W2 h) (bc (okL W2 h) ((fun h => some (x14, h)) (H.unmark h lo3)) none) none) none) none) none) none) none) none) none) (H.mark h)) (watchP h [x1, x1, (AV.leaf .undef), x1, (AV.leaf .undef)]) h.lo) g
noncomputable def A_impl_inner_nodes : An := (.two .o (.two (.at_ [0, 1, 3, 4, 5, 6, 7, 8, 2, 9, 10, 11] .o .o) .o))
noncomputable def b_impl_inner_nodes : Code := bodyOf Go.Proofs.Try.f193
theorem k_impl_inner_nodes (F g : Nat) (a0 : AV) (h : H) : callD Go.Proofs.Try.prog (Env.add (Env.add (Env.add (Env.add (fun _ _ _ => none : Env) 75 (u1 (c_impl_node_nodes F g))) 199 (u1 (c_impl_lone_nodes F g))) 195 (u1 (c_slices_Concat_11b6 F g))) 193 (u1 (c_impl_inner_nodes F g))) 14 F b_impl_inner_nodes [2] A_impl_inner_nodes [a0] h = c_impl_inner_nodes F (g + 1) a0 h := by kernel_rfl
theorem s_impl_inner_nodes (F g : Nat) : ∀ args h r, u1 (c_impl_inner_nodes F g) args h = some r → Tri Go.Proofs.Try.prog 193 args h r := by
  induction g with
  | zero => intro args h r e; obtain ⟨a0, rfl, e⟩ := u1_some e; cases e
  | succ g ih => intro args h r e; obtain ⟨a0, rfl, e1⟩ := u1_some e; exact fn_sound Go.Proofs.Try.func193 rfl rfl rfl Go.Proofs.Try.ntmps193 (Sound.add (Sound.add (Sound.add (Sound.add (Sound.none _) (s_impl_node_nodes F g)) (s_impl_lone_nodes F g)) (s_slices_Concat_11b6 F g)) ih) ((k_impl_inner_nodes F g a0 h).trans e1)

-- "(*loop.example/treenumbers/impl.node).text"
noncomputable def c_impl_node_text_l1 (F g : Nat) (self : AV → H → Option R) : List AV → H → (List AV → H → Option R) → Option R := fun vs h kc5 => (fun x6 x7 x8 x9 => aCmpI ilt x9 x8 h fun x10 h => withBool x10 fun t11 => bc t11 (aIdxAddr 1 x7 x9 h fun x12 h => aLoad x12 h fun x13 h => bindR (self x13 h) fun x14 h => aSAdd x6 x14 h fun x15 h => aArith iadd x9 (AV.int 3 (Int.ofNat 1)) h fun x16 h => kc5 [x15, x7, x8, x16] h) (aSAdd x6 (AV.str [41] 1) h fun x17 h => some (x17, h))) (hd vs) (hd (tl vs)) (hd (tl (tl vs))) (hd (tl (tl (tl vs))))
noncomputable def c_impl_node_text (F g : Nat) : AV → H → Option R := Nat.rec (motive := fun _ => AV → H → Option R) (fun _ _ => none) (fun g self a0 h => aNilCheck a0 h fun x1 h => aField 2 x1 h fun x2 h => aLoad x2 h fun x3 h => aLenK 1 x3 h fun x4 h => loopD F (c_impl_node_text_l1 F g self) [(AV.str [40] 1), x3, x4, (AV.int 3 (Int.ofNat 0))] h) g
noncomputable def A_impl_node_text : An := (.two .o (.two .o (.two (.two .o (.two (.at_ [3, 9, 10, 11] (.two .o (.two (.two .o .o) (.two (.two (.two .o .o) .o) .o))) .o) .o)) (.two .o .o))))
noncomputable def b_impl_node_text : Code := bodyOf Go.Proofs.Try.f74
theorem k_impl_node_text (F g : Nat) (a0 : AV) (h : H) : callD Go.Proofs.Try.prog (Env.add (fun _ _ _ => none : Env) 74 (u1 (c_impl_node_text F g))) 22 F b_impl_node_text [2] A_impl_node_text [a0] h = c_impl_node_text F (g + 1) a0 h := by kernel_rfl
theorem s_impl_node_text (F g : Nat) : ∀ args h r, u1 (c_impl_node_text F g) args h = some r → Tri Go.Proofs.Try.prog 74 args h r := by
  induction g with
  | zero => intro args h r e; obtain ⟨a0, rfl, e⟩ := u1_some e; cases e
  | succ g ih => intro args h r e; obtain ⟨a0, rfl, e1⟩ := u1_some e; exact fn_sound Go.Proofs.Try.func74 rfl rfl rfl Go.Proofs.Try.ntmps74 (Sound.add (Sound.none _) ih) ((k_impl_node_text F g a0 h).trans e1)

-- "(loop.example/treenumbers/impl.lone).text"
noncomputable def c_impl_lone_text (F g : Nat) (a0 : AV) (h : H) : Option R := aBox a0 h fun x1 h => some ((AV.str [40, 41] 2), h)
noncomputable def A_impl_lone_text : An := (.two .o (.two .o .o))
noncomputable def b_impl_lone_text : Code := bodyOf Go.Proofs.Try.f200
theorem k_impl_lone_text (F g : Nat) (a0 : AV) (h : H) : callD Go.Proofs.Try.prog (fun _ _ _ => none : Env) 3 F b_impl_lone_text [2] A_impl_lone_text [a0] h = c_impl_lone_text F g a0 h := by kernel_rfl
theorem s_impl_lone_text (F g : Nat) : ∀ args h r, u1 (c_impl_lone_text F g) args h = some r → Tri Go.Proofs.Try.prog 200 args h r := by
  intro args h r e; obtain ⟨a0, rfl, e1⟩ := u1_some e; exact fn_sound Go.Proofs.Try.func200 rfl rfl rfl Go.Proofs.Try.ntmps200 (Sound.none _) ((k_impl_lone_text F g a0 h).trans e1)

-- "(loop.example/treenumbers/impl.inner).text"
noncomputable def c_impl_inner_text (F g : Nat) : AV → H → Option R := Nat.rec (motive := fun _ => AV → H → Option R) (fun _ _ => none) (fun g self a0 h => aBox a0 h fun x1 h => aField 0 x1 h fun x2 _ => aLoad x2 h fun x3 _ => dInvF (Env.add (Env.add (Env.add (fun _ _ _ => none : Env) 74 (u1 (c_impl_node_text F g))) 194 (u1 self)) 200 (u1 (c_impl_lone_text F g))) [(58, 74), (92, 194), (112, 200)] x3 [] h fun x4 _ => aSAdd (AV.str [40] 1) x4 h fun x5 _ => aField 1 x1 h fun x6 _ => aLoad x6 h fun x7 _ => dInvF (Env.add (Env.add (Env.add (fun _ _ _ => none : Env) 74 (u1 (c_impl_node_text F g))) 194 (u1 self)) 200 (u1 (c_impl_lone_text F g))) [(58, 74), (92, 194), (112, 200)] x7 [] h fun x8 _ => aSAdd x5 x8 h fun x9 _ => aSAdd x9 (AV.str [41] 1) h fun x10 _ => some (x10, h)) g
noncomputable def A_impl_inner_text : An := (.two .o (.two .o .o))
noncomputable def b_impl_inner_text : Code := bodyOf Go.Proofs.Try.f194
theorem k_impl_inner_text (F g : Nat) (a0 : AV) (h : H) : callD Go.Proofs.Try.prog (Env.add (Env.add (Env.add (fun _ _ _ => none : Env) 74 (u1 (c_impl_node_text F g))) 200 (u1 (c_impl_lone_text F g))) 194 (u1 (c_impl_inner_text F g))) 12 F b_impl_inner_text [2] A_impl_inner_text [a0] h = c_impl_inner_text F (g + 1) a0 h := by kernel_rfl
theorem s_impl_inner_text (F g : Nat) : ∀ args h r, u1 (c_impl_inner_text F g) args h = some r → Tri Go.Proofs.Try.prog 194 args h r := by
  induction g with
  | zero => intro args h r e; obtain ⟨a0, rfl, e⟩ := u1_some e; cases e
  | succ g ih => intro args h r e; obtain ⟨a0, rfl, e1⟩ := u1_some e; exact fn_sound Go.Proofs.Try.func194 rfl rfl rfl Go.Proofs.Try.ntmps194 (Sound.add (Sound.add (Sound.add (Sound.none _) (s_impl_node_text F g)) (s_impl_lone_text F g)) ih) ((k_impl_inner_text F g a0 h).trans e1)

-- "loop.example/treenumbers/impl.turnedAt"
noncomputable def c_impl_turnedAt (F g : Nat) (a0 a1 : AV) (h : H) : Option R := aIdxAddr 1 a0 a1 h fun x1 h => aLoad x1 h fun x2 h => aAssertC true 92 (AV.one .agg (AV.cons (AV.leaf .nili) (AV.cons (AV.leaf .nili) (AV.leaf .nil)))) x2 h fun x3 h => aExtract x3 0 h fun x4 h => aExtract x3 1 h fun x5 h => aAlloc [(AV.leaf .nili), (AV.leaf .nili)] h fun x6 h => aStoreN 2 x6 x4 h fun x7 h => aNot x5 h fun x8 h => withBool x8 fun t9 => bc t9 (some (AV.one .tup (AV.cons (AV.str [] 0) (AV.cons (AV.bool false) (AV.leaf .nil))), h)) (aField 0 x6 h fun x10 h => aLoad x10 h fun x11 h => aAssertC true 92 (AV.one .agg (AV.cons (AV.leaf .nili) (AV.cons (AV.leaf .nili) (AV.leaf .nil)))) x11 h fun x12 h => aExtract x12 0 h fun x13 h => aExtract x12 1 h fun x14 h => aAlloc [(AV.leaf .nili), (AV.leaf .nili)] h fun x15 h => aStoreN 2 x15 x13 h fun x16 h => aNot x14 h fun x17 h => withBool x17 fun t18 => bc t18 (some (AV.one .tup (AV.cons (AV.str [] 0) (AV.cons (AV.bool false) (AV.leaf .nil))), h)) (aLenK 1 a0 h fun x19 h => aMake 16 [(AV.leaf .nili)] x19 x19 h fun x20 h => aCopy 1 x20 a0 h fun x21 h => aArith iadd a1 (AV.int 3 (Int.ofNat 2)) h fun x22 h => aField 0 x15 h fun x23 h => aLoad x23 h fun x24 h => dInv (Env.add (Env.add (Env.add (fun _ _ _ => none : Env) 75 (u1 (c_impl_node_nodes F g))) 193 (u1 (c_impl_inner_nodes F g))) 199 (u1 (c_impl_lone_nodes F g))) [(58, 75), (92, 193), (112, 199)] x24 [] h fun x25 h => aLenK 1 x25 h fun x26 h => aArith iadd x22 x26 h fun x27 h => aArith iadd a1 (AV.int 3 (Int.ofNat 1)) h fun x28 h => aSliceV 1 x20 (some x28) (some x27) (some x27) h fun x29 h => aSliceV 1 x29 (some (AV.int 3 (Int.ofNat 1))) none none h fun x30 _ => aIdxAddr 1 x29 (AV.int 3 (Int.ofNat 0)) h fun x31 _ => aLoad x31 h fun x32 _ => aBuildSlice 1 1 [(0, 1, x32)] h fun x33 h => aAppend 1 16 x30 x33 h fun x34 h => aCopy 1 x29 x34 h fun x35 h => bindR (c_impl_grown F g x20 h) fun x36 h => aExtract x36 0 h fun x37 h => aExtract x36 1 h fun x38 h => dInv (Env.add (Env.add (Env.add (fun _ _ _ => none : Env) 74 (u1 (c_impl_node_text F g))) 194 (u1 (c_impl_inner_text F g))) 200 (u1 (c_impl_lone_text F g))) [(58, 74), (92, 194), (112, 200)] x37 [] h fun x39 h => some (AV.one .tup (AV.cons x39 (AV.cons (AV.bool true) (AV.leaf .nil))), h)))
noncomputable def A_impl_turnedAt : An := (.two .o (.two .o (.two (.two .o (.two (.two .o .o) .o)) (.two .o (.two (.two .o (.two (.two .o .o) .o)) (.two .o (.two .o (.two .o (.two .o (.two .o (.two .o (.two .o .o))))))))))))
noncomputable def b_impl_turnedAt : Code := bodyOf Go.Proofs.Try.f96
theorem k_impl_turnedAt (F g : Nat) (a0 a1 : AV) (h : H) : callD Go.Proofs.Try.prog (Env.add (Env.add (Env.add (Env.add (Env.add (Env.add (Env.add (fun _ _ _ => none : Env) 75 (u1 (c_impl_node_nodes F g))) 193 (u1 (c_impl_inner_nodes F g))) 199 (u1 (c_impl_lone_nodes F g))) 124 (u1 (c_impl_grown F g))) 74 (u1 (c_impl_node_text F g))) 194 (u1 (c_impl_inner_text F g))) 200 (u1 (c_impl_lone_text F g))) 67 F b_impl_turnedAt [4, 5] A_impl_turnedAt [a0, a1] h = c_impl_turnedAt F g a0 a1 h := by kernel_rfl
theorem s_impl_turnedAt (F g : Nat) : ∀ args h r, u2 (c_impl_turnedAt F g) args h = some r → Tri Go.Proofs.Try.prog 96 args h r := by
  intro args h r e; obtain ⟨a0, a1, rfl, e1⟩ := u2_some e; exact fn_sound Go.Proofs.Try.func96 rfl rfl rfl Go.Proofs.Try.ntmps96 (Sound.add (Sound.add (Sound.add (Sound.add (Sound.add (Sound.add (Sound.add (Sound.none _) (s_impl_node_nodes F g)) (s_impl_inner_nodes F g)) (s_impl_lone_nodes F g)) (s_impl_grown F g)) (s_impl_node_text F g)) (s_impl_inner_text F g)) (s_impl_lone_text F g)) ((k_impl_turnedAt F g a0 a1 h).trans e1)

-- "loop.example/treenumbers/impl.PairTurn"
noncomputable def c_impl_PairTurn_j1 (F g : Nat) (vs : List AV) (h : H) : Option R := (fun x8 x9 x10 x11 => aPick x10 (AV.bool true) x11 h fun x12 h => withBool x12 fun t13 => bc t13 (some (AV.one .tup (AV.cons (AV.str [] 0) (AV.cons (AV.bool false) (AV.leaf .nil))), h)) (bindR (c_impl_turnedAt F g x9 x8 h) fun x14 h => aExtract x14 0 h fun x15 h => aExtract x14 1 h fun x16 h => some (AV.one .tup (AV.cons x15 (AV.cons x16 (AV.leaf .nil))), h))) (hd vs) (hd (tl vs)) (hd (tl (tl vs))) (hd (tl (tl (tl vs))))
noncomputable def c_impl_PairTurn (F g : Nat) (a0 a1 : AV) (h : H) : Option R := bindR (c_impl_readPairs F g a0 h) fun x1 h => aExtract x1 0 h fun x2 h => aExtract x1 1 h fun x3 h => aNot x3 h fun x4 h => withBool x4 fun t5 => bc t5 (some (AV.one .tup (AV.cons (AV.str [] 0) (AV.cons (AV.bool false) (AV.leaf .nil))), h)) (dInv (Env.add (Env.add (Env.add (fun _ _ _ => none : Env) 75 (u1 (c_impl_node_nodes F g))) 193 (u1 (c_impl_inner_nodes F g))) 199 (u1 (c_impl_lone_nodes F g))) [(58, 75), (92, 193), (112, 199)] x2 [] h fun x6 h => aCmpI ilt a1 (AV.int 3 (Int.ofNat 0)) h fun x7 h => guardB false x7 (aLenK 1 x6 h fun x17 h => aCmpI (fun a b => ile b a) a1 x17 h fun x18 h => (c_impl_PairTurn_j1 F g) [a1, x6, x7, x18] h) ((c_impl_PairTurn_j1 F g) [a1, x6, x7, (AV.one .tup (AV.leaf .nil))] h))
noncomputable def A_impl_PairTurn : An := (.two .o (.two .o (.two (.two .o (.two (.two .o .o) .o)) (.two .o (.two (.two (.at_ [1, 8, 20, 24] .o .o) (.two (.two .o .o) .o)) (.two .o .o))))))
noncomputable def b_impl_PairTurn : Code := bodyOf Go.Proofs.Try.f49
theorem k_impl_PairTurn (F g : Nat) (a0 a1 : AV) (h : H) : callD Go.Proofs.Try.prog (Env.add (Env.add (Env.add (Env.add (Env.add (fun _ _ _ => none : Env) 87 (u1 (c_impl_readPairs F g))) 75 (u1 (c_impl_node_nodes F g))) 193 (u1 (c_impl_inner_nodes F g))) 199 (u1 (c_impl_lone_nodes F g))) 96 (u2 (c_impl_turnedAt F g))) 31 F b_impl_PairTurn [4, 5] A_impl_PairTurn [a0, a1] h = c_impl_PairTurn F g a0 a1 h := by kernel_rfl
theorem s_impl_PairTurn (F g : Nat) : ∀ args h r, u2 (c_impl_PairTurn F g) args h = some r → Tri Go.Proofs.Try.prog 49 args h r := by
  intro args h r e; obtain ⟨a0, a1, rfl, e1⟩ := u2_some e; exact fn_sound Go.Proofs.Try.func49 rfl rfl rfl Go.Proofs.Try.ntmps49 (Sound.add (Sound.add (Sound.add (Sound.add (Sound.add (Sound.none _) (s_impl_readPairs F g)) (s_impl_node_nodes F g)) (s_impl_inner_nodes F g)) (s_impl_lone_nodes F g)) (s_impl_turnedAt F g)) ((k_impl_PairTurn F g a0 a1 h).trans e1)

-- "loop.example/treenumbers/spec.l1End"
noncomputable def c_spec_l1End_j1 (F g : Nat) (kc1 : List AV → H → Option R) (vs : List AV) (h : H) : Option R := (fun x8 x9 x10 => aCmpI ieq x9 (AV.int 3 (Int.ofNat 0)) h fun x11 h => withBool x11 fun t12 => bc t12 (aArith iadd x10 (AV.int 3 (Int.ofNat 1)) h fun x13 h => some (x13, h)) (aCmpI ilt x9 (AV.int 3 (Int.ofNat 0)) h fun x14 h => withBool x14 fun t15 => bc t15 (some ((AV.int 3 (Int.negSucc 0)), h)) (aArith iadd x10 (AV.int 3 (Int.ofNat 1)) h fun x16 h => kc1 [x8, x9, x16] h))) (hd vs) (hd (tl vs)) (hd (tl (tl vs)))
noncomputable def c_spec_l1End_l2 (F g : Nat) : List AV → H → (List AV → H → Option R) → Option R := fun vs h kc1 => (fun x2 x3 x4 => aLenK 0 x2 h fun x5 h => aCmpI ilt x4 x5 h fun x6 h => withBool x6 fun t7 => bc t7 (aIdxStr x2 x4 h fun x17 h => aCmpI ieq x17 (AV.int 4 (Int.ofNat 40)) h fun x18 h => withBool x18 fun t19 => bc t19 (aArith iadd x3 (AV.int 3 (Int.ofNat 1)) h fun x20 h => (c_spec_l1End_j1 F g kc1) [x2, x20, x4] h) (aCmpI ieq x17 (AV.int 4 (Int.ofNat 41)) h fun x21 h => withBool x21 fun t22 => bc t22 (aArith isub x3 (AV.int 3 (Int.ofNat 1)) h fun x23 h => (c_spec_l1End_j1 F g kc1) [x2, x23, x4] h) (some ((AV.int 3 (Int.negSucc 0)), h)))) (some ((AV.int 3 (Int.negSucc 0)), h))) (hd vs) (hd (tl vs)) (hd (tl (tl vs)))
noncomputable def c_spec_l1End (F g : Nat) (a0 a1 : AV) (h : H) : Option R := loopD F (c_spec_l1End_l2 F g) [a0, (AV.int 3 (Int.ofNat 0)), a1] h
noncomputable def A_spec_l1End : An := (.two .o (.two .o (.two (.two .o (.two (.at_ [0, 5, 6] (.two (.two .o (.two .o .o)) (.two (.two (.at_ [0, 5, 6] (.two .o (.two (.two .o (.two .o (.two .o (.two .o (.two .o .o))))) .o)) (.two (.two .o (.two (.two .o .o) .o)) (.two .o (.two (.two .o .o) .o)))) .o) .o)) .o) .o)) (.two .o .o))))
noncomputable def b_spec_l1End : Code := bodyOf Go.Proofs.Try.f113
theorem k_spec_l1End (F g : Nat) (a0 a1 : AV) (h : H) : callD Go.Proofs.Try.prog (fun _ _ _ => none : Env) 31 F b_spec_l1End [4] A_spec_l1End [a0, a1] h = c_spec_l1End F g a0 a1 h := by kernel_rfl
theorem s_spec_l1End (F g : Nat) : ∀ args h r, u2 (c_spec_l1End F g) args h = some r → Tri Go.Proofs.Try.prog 113 args h r := by
  intro args h r e; obtain ⟨a0, a1, rfl, e1⟩ := u2_some e; exact fn_sound Go.Proofs.Try.func113 rfl rfl rfl Go.Proofs.Try.ntmps113 (Sound.none _) ((k_spec_l1End F g a0 a1 h).trans e1)

-- "loop.example/treenumbers/spec.l1Kids"
noncomputable def c_spec_l1Kids_l1 (F g : Nat) : List AV → H → (List AV → H → Option R) → Option R := fun vs h kc2 => (fun x3 x4 x5 => aLenK 0 x3 h fun x6 h => aArith isub x6 (AV.int 3 (Int.ofNat 1)) h fun x7 h => aCmpI ilt x5 x7 h fun x8 h => withBool x8 fun t9 => bc t9 (bindR (c_spec_l1End F g x3 x5 h) fun x10 h => aSliceS x3 (some x5) (some x10) none h fun x11 h => aBuildSlice 1 1 [(0, 1, x11)] h fun x12 h => aAppend 1 16 x4 x12 h fun x13 h => kc2 [x3, x13, x10] h) (some (x4, h))) (hd vs) (hd (tl vs)) (hd (tl (tl vs)))
noncomputable def c_spec_l1Kids (F g : Nat) (a0 : AV) (h : H) : Option R := aBuildSlice 0 1 [] h fun x1 h => loopD F (c_spec_l1Kids_l1 F g) [a0, x1, (AV.int 3 (Int.ofNat 1))] h
noncomputable def A_spec_l1Kids : An := (.two .o (.two .o (.two .o (.two (.two (.at_ [0, 3, 4] (.two (.two .o (.two .o .o)) (.two (.two .o (.two .o .o)) .o)) .o) .o) (.two .o .o)))))
noncomputable def b_spec_l1Kids : Code := bodyOf Go.Proofs.Try.f93
theorem k_spec_l1Kids (F g : Nat) (a0 : AV) (h : H) : callD Go.Proofs.Try.prog (Env.add (fun _ _ _ => none : Env) 113 (u2 (c_spec_l1End F g))) 24 F b_spec_l1Kids [2] A_spec_l1Kids [a0] h = c_spec_l1Kids F g a0 h := by kernel_rfl
theorem s_spec_l1Kids (F g : Nat) : ∀ args h r, u1 (c_spec_l1Kids F g) args h = some r → Tri Go.Proofs.Try.prog 93 args h r := by
  intro args h r e; obtain ⟨a0, rfl, e1⟩ := u1_some e; exact fn_sound Go.Proofs.Try.func93 rfl rfl rfl Go.Proofs.Try.ntmps93 (Sound.add (Sound.none _) (s_spec_l1End F g)) ((k_spec_l1Kids F g a0 h).trans e1)

-- "loop.example/treenumbers/spec.l8In"
noncomputable def c_spec_l8In_j1 (F g : Nat) (vs : List AV) (h : H) : Option R := (fun x16 x17 => aPick x16 (AV.bool true) x17 h fun x18 h => some (x18, h)) (hd vs) (hd (tl vs))
noncomputable def c_spec_l8In_l2 (F g : Nat) (self : AV → H → Option R) : List AV → H → (List AV → H → Option R) → Option R := fun vs h kc2 => (fun x3 x4 => aLenK 1 x3 h fun x5 h => aCmpI ilt x4 x5 h fun x6 h => withBool x6 fun t7 => bc t7 (aIdxAddr 1 x3 x4 h fun x8 h => aLoad x8 h fun x9 h => bindR (self x9 h) fun x10 h => aNot x10 h fun x11 h => withBool x11 fun t12 => bc t12 (some ((AV.bool false), h)) (aArith iadd x4 (AV.int 3 (Int.ofNat 1)) h fun x13 h => kc2 [x3, x13] h)) (aLenK 1 x3 h fun x14 h => aCmpI ieq x14 (AV.int 3 (Int.ofNat 0)) h fun x15 h => guardB false x15 (aLenK 1 x3 h fun x19 h => aCmpI ieq x19 (AV.int 3 (Int.ofNat 2)) h fun x20 h => (c_spec_l8In_j1 F g) [x15, x20] h) ((c_spec_l8In_j1 F g) [x15, (AV.one .tup (AV.leaf .nil))] h))) (hd vs) (hd (tl vs))
noncomputable def c_spec_l8In (F g : Nat) : AV → H → Option R := Nat.rec (motive := fun _ => AV → H → Option R) (fun _ _ => none) (fun g self a0 h => bindR (c_spec_l1Kids F g a0 h) fun x1 h => loopD F (c_spec_l8In_l2 F g self) [x1, (AV.int 3 (Int.ofNat 0))] h) g
noncomputable def A_spec_l8In : An := (.two .o (.two .o (.two (.two .o (.two (.at_ [3, 4] (.two (.two .o (.two .o .o)) (.two (.two (.two .o (.two (.two .o .o) .o)) .o) .o)) .o) .o)) (.two (.at_ [22, 25] .o .o) .o))))
noncomputable def b_spec_l8In : Code := bodyOf Go.Proofs.Try.f88
theorem k_spec_l8In (F g : Nat) (a0 : AV) (h : H) : callD Go.Proofs.Try.prog (Env.add (Env.add (fun _ _ _ => none : Env) 93 (u1 (c_spec_l1Kids F g))) 88 (u1 (c_spec_l8In F g))) 27 F b_spec_l8In [2] A_spec_l8In [a0] h = c_spec_l8In F (g + 1) a0 h := by kernel_rfl
theorem s_spec_l8In (F g : Nat) : ∀ args h r, u1 (c_spec_l8In F g) args h = some r → Tri Go.Proofs.Try.prog 88 args h r := by
  induction g with
  | zero => intro args h r e; obtain ⟨a0, rfl, e⟩ := u1_some e; cases e
  | succ g ih => intro args h r e; obtain ⟨a0, rfl, e1⟩ := u1_some e; exact fn_sound Go.Proofs.Try.func88 rfl rfl rfl Go.Proofs.Try.ntmps88 (Sound.add (Sound.add (Sound.none _) (s_spec_l1Kids F g)) ih) ((k_spec_l8In F g a0 h).trans e1)

-- "loop.example/treenumbers/spec.PairIn"
noncomputable def c_spec_PairIn_j1 (F g : Nat) (vs : List AV) (h : H) : Option R := (fun x2 x3 => aPick x2 x3 (AV.bool false) h fun x4 h => some (x4, h)) (hd vs) (hd (tl vs))
noncomputable def c_spec_PairIn (F g : Nat) (a0 : AV) (h : H) : Option R := bindR (c_spec_TreeIn F g a0 h) fun x1 h => guardB true x1 (bindR (c_spec_l8In F g a0 h) fun x5 h => (c_spec_PairIn_j1 F g) [x1, x5] h) ((c_spec_PairIn_j1 F g) [x1, (AV.one .tup (AV.leaf .nil))] h)
noncomputable def A_spec_PairIn : An := (.two .o (.two (.at_ [5, 7] .o .o) .o))
noncomputable def b_spec_PairIn : Code := bodyOf Go.Proofs.Try.f39
theorem k_spec_PairIn (F g : Nat) (a0 : AV) (h : H) : callD Go.Proofs.Try.prog (Env.add (Env.add (fun _ _ _ => none : Env) 68 (u1 (c_spec_TreeIn F g))) 88 (u1 (c_spec_l8In F g))) 9 F b_spec_PairIn [2] A_spec_PairIn [a0] h = c_spec_PairIn F g a0 h := by kernel_rfl
theorem s_spec_PairIn (F g : Nat) : ∀ args h r, u1 (c_spec_PairIn F g) args h = some r → Tri Go.Proofs.Try.prog 39 args h r := by
  intro args h r e; obtain ⟨a0, rfl, e1⟩ := u1_some e; exact fn_sound Go.Proofs.Try.func39 rfl rfl rfl Go.Proofs.Try.ntmps39 (Sound.add (Sound.add (Sound.none _) (s_spec_TreeIn F g)) (s_spec_l8In F g)) ((k_spec_PairIn F g a0 h).trans e1)

-- "loop.example/treenumbers/spec.l6In"
noncomputable def c_spec_l6In_j1 (F g : Nat) (vs : List AV) (h : H) : Option R := (fun x2 x3 => aPick x2 x3 (AV.bool false) h fun x4 h => some (x4, h)) (hd vs) (hd (tl vs))
noncomputable def c_spec_l6In (F g : Nat) (a0 a1 a2 : AV) (h : H) : Option R := aCmpI (fun a b => ile b a) a0 a1 h fun x1 h => guardB true x1 (aCmpI ile a0 a2 h fun x5 h => (c_spec_l6In_j1 F g) [x1, x5] h) ((c_spec_l6In_j1 F g) [x1, (AV.one .tup (AV.leaf .nil))] h)
noncomputable def A_spec_l6In : An := (.two .o (.two (.at_ [10, 13] .o .o) .o))
noncomputable def b_spec_l6In : Code := bodyOf Go.Proofs.Try.f79
theorem k_spec_l6In (F g : Nat) (a0 a1 a2 : AV) (h : H) : callD Go.Proofs.Try.prog (fun _ _ _ => none : Env) 15 F b_spec_l6In [6] A_spec_l6In [a0, a1, a2] h = c_spec_l6In F g a0 a1 a2 h := by kernel_rfl
theorem s_spec_l6In (F g : Nat) : ∀ args h r, u3 (c_spec_l6In F g) args h = some r → Tri Go.Proofs.Try.prog 79 args h r := by
  intro args h r e; obtain ⟨a0, a1, a2, rfl, e1⟩ := u3_some e; exact fn_sound Go.Proofs.Try.func79 rfl rfl rfl Go.Proofs.Try.ntmps79 (Sound.none _) ((k_spec_l6In F g a0 a1 a2 h).trans e1)

-- "loop.example/treenumbers/spec.l1Opens"
noncomputable def c_spec_l1Opens_j1 (F g : Nat) (kc2 : List AV → H → Option R) (vs : List AV) (h : H) : Option R := (fun x9 x10 x11 => aArith iadd x11 (AV.int 3 (Int.ofNat 1)) h fun x12 h => kc2 [x9, x10, x12] h) (hd vs) (hd (tl vs)) (hd (tl (tl vs)))
noncomputable def c_spec_l1Opens_l2 (F g : Nat) : List AV → H → (List AV → H → Option R) → Option R := fun vs h kc2 => (fun x3 x4 x5 => aLenK 0 x3 h fun x6 h => aCmpI ilt x5 x6 h fun x7 h => withBool x7 fun t8 => bc t8 (aIdxStr x3 x5 h fun x13 h => aCmpI ieq x13 (AV.int 4 (Int.ofNat 40)) h fun x14 h => withBool x14 fun t15 => bc t15 (aBuildSlice 1 1 [(0, 1, x5)] h fun x16 h => aAppend 1 8 x4 x16 h fun x17 h => (c_spec_l1Opens_j1 F g kc2) [x3, x17, x5] h) ((c_spec_l1Opens_j1 F g kc2) [x3, x4, x5] h)) (some (x4, h))) (hd vs) (hd (tl vs)) (hd (tl (tl vs)))
noncomputable def c_spec_l1Opens (F g : Nat) (a0 : AV) (h : H) : Option R := aBuildSlice 0 1 [] h fun x1 h => loopD F (c_spec_l1Opens_l2 F g) [a0, x1, (AV.int 3 (Int.ofNat 0))] h
noncomputable def A_spec_l1Opens : An := (.two .o (.two .o (.two (.two .o (.two (.at_ [0, 3, 4] (.two (.two .o (.two .o .o)) (.at_ [0, 3, 4] (.two (.two .o (.two .o .o)) .o) .o)) .o) .o)) (.two .o .o))))
noncomputable def b_spec_l1Opens : Code := bodyOf Go.Proofs.Try.f125
theorem k_spec_l1Opens (F g : Nat) (a0 : AV) (h : H) : callD Go.Proofs.Try.prog (fun _ _ _ => none : Env) 21 F b_spec_l1Opens [2] A_spec_l1Opens [a0] h = c_spec_l1Opens F g a0 h := by kernel_rfl
theorem s_spec_l1Opens (F g : Nat) : ∀ args h r, u1 (c_spec_l1Opens F g) args h = some r → Tri Go.Proofs.Try.prog 125 args h r := by
  intro args h r e; obtain ⟨a0, rfl, e1⟩ := u1_some e; exact fn_sound Go.Proofs.Try.func125 rfl rfl rfl Go.Proofs.Try.ntmps125 (Sound.none _) ((k_spec_l1Opens F g a0 h).trans e1)

-- "loop.example/treenumbers/spec.l8Turn"
noncomputable def c_spec_l8Turn_j1 (F g : Nat) (vs : List AV) (h : H) : Option R := (fun x4 x5 x6 => aPick x5 (AV.bool true) x6 h fun x7 h => withBool x7 fun t8 => bc t8 (some ((AV.str [] 0), h)) (aIdxAddr 1 x4 (AV.int 3 (Int.ofNat 0)) h fun x9 h => aLoad x9 h fun x10 h => bindR (c_spec_l1Kids F g x10 h) fun x11 h => aIdxAddr 1 x11 (AV.int 3 (Int.ofNat 0)) h fun x12 _ => aLoad x12 h fun x13 _ => aSAdd (AV.str [40] 1) x13 h fun x14 _ => aSAdd x14 (AV.str [40] 1) h fun x15 _ => aIdxAddr 1 x11 (AV.int 3 (Int.ofNat 1)) h fun x16 _ => aLoad x16 h fun x17 _ => aSAdd x15 x17 h fun x18 _ => aIdxAddr 1 x4 (AV.int 3 (Int.ofNat 1)) h fun x19 _ => aLoad x19 h fun x20 _ => aSAdd x18 x20 h fun x21 _ => aSAdd x21 (AV.str [41, 41] 2) h fun x22 _ => some (x22, h))) (hd vs) (hd (tl vs)) (hd (tl (tl vs)))
noncomputable def c_spec_l8Turn (F g : Nat) (a0 : AV) (h : H) : Option R := bindR (c_spec_l1Kids F g a0 h) fun x1 h => aLenK 1 x1 h fun x2 h => aCmpI ieq x2 (AV.int 3 (Int.ofNat 0)) h fun x3 h => guardB false x3 (aIdxAddr 1 x1 (AV.int 3 (Int.ofNat 0)) h fun x23 h => aLoad x23 h fun x24 h => aLenK 0 x24 h fun x25 h => aCmpI ieq x25 (AV.int 3 (Int.ofNat 2)) h fun x26 h => (c_spec_l8Turn_j1 F g) [x1, x3, x26] h) ((c_spec_l8Turn_j1 F g) [x1, x3, (AV.one .tup (AV.leaf .nil))] h)
noncomputable def A_spec_l8Turn : An := (.two .o (.two .o (.two (.two (.at_ [3, 10, 15] .o .o) (.two (.two .o .o) .o)) (.two .o (.two .o .o)))))
noncomputable def b_spec_l8Turn : Code := bodyOf Go.Proofs.Try.f126
theorem k_spec_l8Turn (F g : Nat) (a0 : AV) (h : H) : callD Go.Proofs.Try.prog (Env.add (fun _ _ _ => none : Env) 93 (u1 (c_spec_l1Kids F g))) 35 F b_spec_l8Turn [2] A_spec_l8Turn [a0] h = c_spec_l8Turn F g a0 h := by kernel_rfl
theorem s_spec_l8Turn (F g : Nat) : ∀ args h r, u1 (c_spec_l8Turn F g) args h = some r → Tri Go.Proofs.Try.prog 126 args h r := by
  intro args h r e; obtain ⟨a0, rfl, e1⟩ := u1_some e; exact fn_sound Go.Proofs.Try.func126 rfl rfl rfl Go.Proofs.Try.ntmps126 (Sound.add (Sound.none _) (s_spec_l1Kids F g)) ((k_spec_l8Turn F g a0 h).trans e1)

-- "loop.example/treenumbers/spec.l8At"
noncomputable def c_spec_l8At (F g : Nat) (a0 a1 : AV) (h : H) : Option R := bindR (c_spec_l1Opens F g a0 h) fun x1 h => aIdxAddr 1 x1 a1 h fun x2 h => aLoad x2 h fun x3 h => bindR (c_spec_l1End F g a0 x3 h) fun x4 h => aSliceS a0 (some x3) (some x4) none h fun x5 h => bindR (c_spec_l8Turn F g x5 h) fun x6 h => aCmpS eqL x6 (AV.str [] 0) h fun x7 h => withBool x7 fun t8 => bc t8 (some ((AV.str [] 0), h)) (aSliceS a0 none (some x3) none h fun x9 _ => aSAdd x9 x6 h fun x10 _ => aSliceS a0 (some x4) none none h fun x11 _ => aSAdd x10 x11 h fun x12 _ => some (x12, h))
noncomputable def A_spec_l8At : An := (.two .o (.two .o (.two .o (.two .o (.two (.two .o (.two (.two .o .o) .o)) (.two .o .o))))))
noncomputable def b_spec_l8At : Code := bodyOf Go.Proofs.Try.f97
theorem k_spec_l8At (F g : Nat) (a0 a1 : AV) (h : H) : callD Go.Proofs.Try.prog (Env.add (Env.add (Env.add (fun _ _ _ => none : Env) 125 (u1 (c_spec_l1Opens F g))) 113 (u2 (c_spec_l1End F g))) 126 (u1 (c_spec_l8Turn F g))) 32 F b_spec_l8At [4] A_spec_l8At [a0, a1] h = c_spec_l8At F g a0 a1 h := by kernel_rfl
theorem s_spec_l8At (F g : Nat) : ∀ args h r, u2 (c_spec_l8At F g) args h = some r → Tri Go.Proofs.Try.prog 97 args h r := by
  intro args h r e; obtain ⟨a0, a1, rfl, e1⟩ := u2_some e; exact fn_sound Go.Proofs.Try.func97 rfl rfl rfl Go.Proofs.Try.ntmps97 (Sound.add (Sound.add (Sound.add (Sound.none _) (s_spec_l1Opens F g)) (s_spec_l1End F g)) (s_spec_l8Turn F g)) ((k_spec_l8At F g a0 a1 h).trans e1)

-- "loop.example/treenumbers/spec.PairTurn"
noncomputable def c_spec_PairTurn_j1 (F g : Nat) (vs : List AV) (h : H) : Option R := (fun x3 x4 x5 x6 => aPick x5 (AV.bool true) x6 h fun x7 h => withBool x7 fun t8 => bc t8 (some (AV.one .tup (AV.cons (AV.str [] 0) (AV.cons (AV.bool false) (AV.leaf .nil))), h)) (bindR (c_spec_l8At F g x3 x4 h) fun x9 h => aCmpS (fun a b => bnot (eqL a b)) x9 (AV.str [] 0) h fun x10 h => some (AV.one .tup (AV.cons x9 (AV.cons x10 (AV.leaf .nil))), h))) (hd vs) (hd (tl vs)) (hd (tl (tl vs))) (hd (tl (tl (tl vs))))
noncomputable def c_spec_PairTurn (F g : Nat) (a0 a1 : AV) (h : H) : Option R := bindR (c_spec_PairIn F g a0 h) fun x1 h => aNot x1 h fun x2 h => guardB false x2 (aLenK 0 a0 h fun x11 h => aQuo x11 (AV.int 3 (Int.ofNat 2)) h fun x12 h => aArith isub x12 (AV.int 3 (Int.ofNat 1)) h fun x13 h => bindR (c_spec_l6In F g a1 (AV.int 3 (Int.ofNat 0)) x13 h) fun x14 h => aNot x14 h fun x15 h => (c_spec_PairTurn_j1 F g) [a0, a1, x2, x15] h) ((c_spec_PairTurn_j1 F g) [a0, a1, x2, (AV.one .tup (AV.leaf .nil))] h)
noncomputable def A_spec_PairTurn : An := (.two .o (.two (.two (.at_ [0, 1, 10, 17] .o .o) (.two (.two .o .o) .o)) (.two .o (.two .o .o))))
noncomputable def b_spec_PairTurn : Code := bodyOf Go.Proofs.Try.f50
theorem k_spec_PairTurn (F g : Nat) (a0 a1 : AV) (h : H) : callD Go.Proofs.Try.prog (Env.add (Env.add (Env.add (fun _ _ _ => none : Env) 39 (u1 (c_spec_PairIn F g))) 97 (u2 (c_spec_l8At F g))) 79 (u3 (c_spec_l6In F g))) 25 F b_spec_PairTurn [4, 5] A_spec_PairTurn [a0, a1] h = c_spec_PairTurn F g a0 a1 h := by kernel_rfl
theorem s_spec_PairTurn (F g : Nat) : ∀ args h r, u2 (c_spec_PairTurn F g) args h = some r → Tri Go.Proofs.Try.prog 50 args h r := by
  intro args h r e; obtain ⟨a0, a1, rfl, e1⟩ := u2_some e; exact fn_sound Go.Proofs.Try.func50 rfl rfl rfl Go.Proofs.Try.ntmps50 (Sound.add (Sound.add (Sound.add (Sound.none _) (s_spec_PairIn F g)) (s_spec_l8At F g)) (s_spec_l6In F g)) ((k_spec_PairTurn F g a0 a1 h).trans e1)

-- "loop.example/treenumbers/impl.PairIn"
noncomputable def c_impl_PairIn (F g : Nat) (a0 : AV) (h : H) : Option R := bindR (c_impl_readPairs F g a0 h) fun x1 h => aExtract x1 0 h fun x2 h => aExtract x1 1 h fun x3 h => some (x3, h)
noncomputable def A_impl_PairIn : An := (.two .o (.two .o (.two .o .o)))
noncomputable def b_impl_PairIn : Code := bodyOf Go.Proofs.Try.f38
theorem k_impl_PairIn (F g : Nat) (a0 : AV) (h : H) : callD Go.Proofs.Try.prog (Env.add (fun _ _ _ => none : Env) 87 (u1 (c_impl_readPairs F g))) 11 F b_impl_PairIn [2] A_impl_PairIn [a0] h = c_impl_PairIn F g a0 h := by kernel_rfl
theorem s_impl_PairIn (F g : Nat) : ∀ args h r, u1 (c_impl_PairIn F g) args h = some r → Tri Go.Proofs.Try.prog 38 args h r := by
  intro args h r e; obtain ⟨a0, rfl, e1⟩ := u1_some e; exact fn_sound Go.Proofs.Try.func38 rfl rfl rfl Go.Proofs.Try.ntmps38 (Sound.add (Sound.none _) (s_impl_readPairs F g)) ((k_impl_PairIn F g a0 h).trans e1)

-- "slices.Index[[]string,string]"
noncomputable def c_slices_Index_49de_l1 (F g : Nat) : List AV → H → (List AV → H → Option R) → Option R := fun vs h kc2 => (fun x3 x4 x5 x6 => aCmpI ilt x6 x5 h fun x7 h => withBool x7 fun t8 => bc t8 (aIdxAddr 1 x3 x6 h fun x9 h => aLoad x9 h fun x10 h => aCmpS eqL x4 x10 h fun x11 h => withBool x11 fun t12 => bc t12 (some (x6, h)) (aArith iadd x6 (AV.int 3 (Int.ofNat 1)) h fun x13 h => kc2 [x3, x4, x5, x13] h)) (some ((AV.int 3 (Int.negSucc 0)), h))) (hd vs) (hd (tl vs)) (hd (tl (tl vs))) (hd (tl (tl (tl vs))))
noncomputable def c_slices_Index_49de (F g : Nat) (a0 a1 : AV) (h : H) : Option R := aLenK 1 a0 h fun x1 h => loopD F (c_slices_Index_49de_l1 F g) [a0, a1, x1, (AV.int 3 (Int.ofNat 0))] h
noncomputable def A_slices_Index_49de : An := (.two .o (.two (.two .o (.two (.at_ [0, 1, 7, 8] (.two .o (.two (.two .o .o) (.two (.two (.two .o (.two .o (.two (.two .o .o) .o))) .o) .o))) .o) .o)) (.two .o .o)))
noncomputable def b_slices_Index_49de : Code := bodyOf Go.Proofs.Try.f127
theorem k_slices_Index_49de (F g : Nat) (a0 a1 : AV) (h : H) : callD Go.Proofs.Try.prog (fun _ _ _ => none : Env) 19 F b_slices_Index_49de [4] A_slices_Index_49de [a0, a1] h = c_slices_Index_49de F g a0 a1 h := by kernel_rfl
theorem s_slices_Index_49de (F g : Nat) : ∀ args h r, u2 (c_slices_Index_49de F g) args h = some r → Tri Go.Proofs.Try.prog 127 args h r := by
  intro args h r e; obtain ⟨a0, a1, rfl, e1⟩ := u2_some e; exact fn_sound Go.Proofs.Try.func127 rfl rfl rfl Go.Proofs.Try.ntmps127 (Sound.none _) ((k_slices_Index_49de F g a0 a1 h).trans e1)

-- "slices.Contains[[]string,string]"
noncomputable def c_slices_Contains_49de (F g : Nat) (a0 a1 : AV) (h : H) : Option R := bindR (c_slices_Index_49de F g a0 a1 h) fun x1 h => aCmpI (fun a b => ile b a) x1 (AV.int 3 (Int.ofNat 0)) h fun x2 h => some (x2, h)
noncomputable def A_slices_Contains_49de : An := (.two .o (.two .o .o))
noncomputable def b_slices_Contains_49de : Code := bodyOf Go.Proofs.Try.f98
theorem k_slices_Contains_49de (F g : Nat) (a0 a1 : AV) (h : H) : callD Go.Proofs.Try.prog (Env.add (fun _ _ _ => none : Env) 127 (u2 (c_slices_Index_49de F g))) 9 F b_slices_Contains_49de [4] A_slices_Contains_49de [a0, a1] h = c_slices_Contains_49de F g a0 a1 h := by kernel_rfl
theorem s_slices_Contains_49de (F g : Nat) : ∀ args h r, u2 (c_slices_Contains_49de F g) args h = some r → Tri Go.Proofs.Try.prog 98 args h r := by
  intro args h r e; obtain ⟨a0, a1, rfl, e1⟩ := u2_some e; exact fn_sound Go.Proofs.Try.func98 rfl rfl rfl Go.Proofs.Try.ntmps98 (Sound.add (Sound.none _) (s_slices_Index_49de F g)) ((k_slices_Contains_49de F g a0 a1 h).trans e1)

-- "slices.Clone[[]string,string]"
noncomputable def c_slices_Clone_49de (F g : Nat) (a0 : AV) (h : H) : Option R := aEq false 2 a0 (AV.leaf .nils) h fun x1 h => withBool x1 fun t2 => bc t2 (some ((AV.leaf .nils), h)) (aBuildSlice 0 1 [] h fun x3 h => aAppend 1 16 x3 a0 h fun x4 h => some (x4, h))
noncomputable def A_slices_Clone_49de : An := (.two .o (.two (.two .o (.two (.two .o .o) .o)) (.two .o .o)))
noncomputable def b_slices_Clone_49de : Code := bodyOf Go.Proofs.Try.f128
theorem k_slices_Clone_49de (F g : Nat) (a0 : AV) (h : H) : callD Go.Proofs.Try.prog (fun _ _ _ => none : Env) 8 F b_slices_Clone_49de [2] A_slices_Clone_49de [a0] h = c_slices_Clone_49de F g a0 h := by kernel_rfl
theorem s_slices_Clone_49de (F g : Nat) : ∀ args h r, u1 (c_slices_Clone_49de F g) args h = some r → Tri Go.Proofs.Try.prog 128 args h r := by
  intro args h r e; obtain ⟨a0, rfl, e1⟩ := u1_some e; exact fn_sound Go.Proofs.Try.func128 rfl rfl rfl Go.Proofs.Try.ntmps128 (Sound.none _) ((k_slices_Clone_49de F g a0 h).trans e1)

-- "math/bits.Len32"
noncomputable def c_math_bits_Len32_j1 (F g : Nat) (vs : List AV) (h : H) : Option R := (fun x3 x4 => aConvI 4 x3 h fun x5 h => aIdxStr (AV.str [0, 1, 2, 2, 3, 3, 3, 3, 4, 4, 4, 4, 4, 4, 4, 4, 5, 5, 5, 5, 5, 5, 5, 5, 5, 5, 5, 5, 5, 5, 5, 5, 6, 6, 6, 6, 6, 6, 6, 6, 6, 6, 6, 6, 6, 6, 6, 6, 6, 6, 6, 6, 6, 6, 6, 6, 6, 6, 6, 6, 6, 6, 6, 6, 7, 7, 7, 7, 7, 7, 7, 7, 7, 7, 7, 7, 7, 7, 7, 7, 7, 7, 7, 7, 7, 7, 7, 7, 7, 7, 7, 7, 7, 7, 7, 7, 7, 7, 7, 7, 7, 7, 7, 7, 7, 7, 7, 7, 7, 7, 7, 7, 7, 7, 7, 7, 7, 7, 7, 7, 7, 7, 7, 7, 7, 7, 7, 7, 8, 8, 8, 8, 8, 8, 8, 8, 8, 8, 8, 8, 8, 8, 8, 8, 8, 8, 8, 8, 8, 8, 8, 8, 8, 8, 8, 8, 8, 8, 8, 8, 8, 8, 8, 8, 8, 8, 8, 8, 8, 8, 8, 8, 8, 8, 8, 8, 8, 8, 8, 8, 8, 8, 8, 8, 8, 8, 8, 8, 8, 8, 8, 8, 8, 8, 8, 8, 8, 8, 8, 8, 8, 8, 8, 8, 8, 8, 8, 8, 8, 8, 8, 8, 8, 8, 8, 8, 8, 8, 8, 8, 8, 8, 8, 8, 8, 8, 8, 8, 8, 8, 8, 8, 8, 8, 8, 8, 8, 8, 8, 8, 8, 8, 8, 8, 8, 8, 8, 8, 8, 8, 8, 8, 8, 8, 8, 8] 256) x5 h fun x6 h => aConvI 3 x6 h fun x7 h => aArith iadd x4 x7 h fun x8 h => some (x8, h)) (hd vs) (hd (tl vs))
noncomputable def c_math_bits_Len32_j2 (F g : Nat) (vs : List AV) (h : H) : Option R := (fun x1 x2 => aCmpI (fun a b => ile b a) x1 (AV.int 6 (Int.ofNat 256)) h fun x9 h => withBool x9 fun t10 => bc t10 (aShr x1 (AV.int 7 (Int.ofNat 8)) h fun x11 h => aArith iadd x2 (AV.int 3 (Int.ofNat 8)) h fun x12 h => (c_math_bits_Len32_j1 F g) [x11, x12] h) ((c_math_bits_Len32_j1 F g) [x1, x2] h)) (hd vs) (hd (tl vs))
noncomputable def c_math_bits_Len32 (F g : Nat) (a0 : AV) (h : H) : Option R := aCmpI (fun a b => ile b a) a0 (AV.int 6 (Int.ofNat 65536)) h fun x13 h => withBool x13 fun t14 => bc t14 (aShr a0 (AV.int 7 (Int.ofNat 16)) h fun x15 h => (c_math_bits_Len32_j2 F g) [x15, (AV.int 3 (Int.ofNat 16))] h) ((c_math_bits_Len32_j2 F g) [a0, (AV.int 3 (Int.ofNat 0))] h)
noncomputable def A_math_bits_Len32 : An := (.two .o (.at_ [0, 2] (.two .o (.two (.two .o .o) .o)) (.at_ [0, 2] (.two .o (.two (.two .o .o) .o)) (.two .o .o))))
noncomputable def b_math_bits_Len32 : Code := bodyOf Go.Proofs.Try.f152
theorem k_math_bits_Len32 (F g : Nat) (a0 : AV) (h : H) : callD Go.Proofs.Try.prog (fun _ _ _ => none : Env) 19 F b_math_bits_Len32 [2] A_math_bits_Len32 [a0] h = c_math_bits_Len32 F g a0 h := by kernel_rfl
theorem s_math_bits_Len32 (F g : Nat) : ∀ args h r, u1 (c_math_bits_Len32 F g) args h = some r → Tri Go.Proofs.Try.prog 152 args h r := by
  intro args h r e; obtain ⟨a0, rfl, e1⟩ := u1_some e; exact fn_sound Go.Proofs.Try.func152 rfl rfl rfl Go.Proofs.Try.ntmps152 (Sound.none _) ((k_math_bits_Len32 F g a0 h).trans e1)

-- "math/bits.Len64"
noncomputable def c_math_bits_Len64_j1 (F g : Nat) (vs : List AV) (h : H) : Option R := (fun x5 x6 => aConvI 4 x5 h fun x7 h => aIdxStr (AV.str [0, 1, 2, 2, 3, 3, 3, 3, 4, 4, 4, 4, 4, 4, 4, 4, 5, 5, 5, 5, 5, 5, 5, 5, 5, 5, 5, 5, 5, 5, 5, 5, 6, 6, 6, 6, 6, 6, 6, 6, 6, 6, 6, 6, 6, 6, 6, 6, 6, 6, 6, 6, 6, 6, 6, 6, 6, 6, 6, 6, 6, 6, 6, 6, 7, 7, 7, 7, 7, 7, 7, 7, 7, 7, 7, 7, 7, 7, 7, 7, 7, 7, 7, 7, 7, 7, 7, 7, 7, 7, 7, 7, 7, 7, 7, 7, 7, 7, 7, 7, 7, 7, 7, 7, 7, 7, 7, 7, 7, 7, 7, 7, 7, 7, 7, 7, 7, 7, 7, 7, 7, 7, 7, 7, 7, 7, 7, 7, 8, 8, 8, 8, 8, 8, 8, 8, 8, 8, 8, 8, 8, 8, 8, 8, 8, 8, 8, 8, 8, 8, 8, 8, 8, 8, 8, 8, 8, 8, 8, 8, 8, 8, 8, 8, 8, 8, 8, 8, 8, 8, 8, 8, 8, 8, 8, 8, 8, 8, 8, 8, 8, 8, 8, 8, 8, 8, 8, 8, 8, 8, 8, 8, 8, 8, 8, 8, 8, 8, 8, 8, 8, 8, 8, 8, 8, 8, 8, 8, 8, 8, 8, 8, 8, 8, 8, 8, 8, 8, 8, 8, 8, 8, 8, 8, 8, 8, 8, 8, 8, 8, 8, 8, 8, 8, 8, 8, 8, 8, 8, 8, 8, 8, 8, 8, 8, 8, 8, 8, 8, 8, 8, 8, 8, 8, 8, 8] 256) x7 h fun x8 h => aConvI 3 x8 h fun x9 h => aArith iadd x6 x9 h fun x10 h => some (x10, h)) (hd vs) (hd (tl vs))
noncomputable def c_math_bits_Len64_j2 (F g : Nat) (vs : List AV) (h : H) : Option R := (fun x3 x4 => aCmpI (fun a b => ile b a) x3 (AV.int 7 (Int.ofNat 256)) h fun x11 h => withBool x11 fun t12 => bc t12 (aShr x3 (AV.int 7 (Int.ofNat 8)) h fun x13 h => aArith iadd x4 (AV.int 3 (Int.ofNat 8)) h fun x14 h => (c_math_bits_Len64_j1 F g) [x13, x14] h) ((c_math_bits_Len64_j1 F g) [x3, x4] h)) (hd vs) (hd (tl vs))
noncomputable def c_math_bits_Len64_j3 (F g : Nat) (vs : List AV) (h : H) : Option R := (fun x1 x2 => aCmpI (fun a b => ile b a) x1 (AV.int 7 (Int.ofNat 65536)) h fun x15 h => withBool x15 fun t16 => bc t16 (aShr x1 (AV.int 7 (Int.ofNat 16)) h fun x17 h => aArith iadd x2 (AV.int 3 (Int.ofNat 16)) h fun x18 h => (c_math_bits_Len64_j2 F g) [x17, x18] h) ((c_math_bits_Len64_j2 F g) [x1, x2] h)) (hd vs) (hd (tl vs))
noncomputable def c_math_bits_Len64 (F g : Nat) (a0 : AV) (h : H) : Option R := aCmpI (fun a b => ile b a) a0 (AV.int 7 (Int.ofNat 4294967296)) h fun x19 h => withBool x19 fun t20 => bc t20 (aShr a0 (AV.int 7 (Int.ofNat 32)) h fun x21 h => (c_math_bits_Len64_j3 F g) [x21, (AV.int 3 (Int.ofNat 32))] h) ((c_math_bits_Len64_j3 F g) [a0, (AV.int 3 (Int.ofNat 0))] h)
noncomputable def A_math_bits_Len64 : An := (.two .o (.at_ [0, 2] (.two .o (.two (.two .o .o) .o)) (.at_ [0, 2] (.two .o (.two (.two .o .o) .o)) (.at_ [0, 2] (.two .o (.two (.two .o .o) .o)) (.two .o .o)))))
noncomputable def b_math_bits_Len64 : Code := bodyOf Go.Proofs.Try.f153
theorem k_math_bits_Len64 (F g : Nat) (a0 : AV) (h : H) : callD Go.Proofs.Try.prog (fun _ _ _ => none : Env) 25 F b_math_bits_Len64 [2] A_math_bits_Len64 [a0] h = c_math_bits_Len64 F g a0 h := by kernel_rfl
theorem s_math_bits_Len64 (F g : Nat) : ∀ args h r, u1 (c_math_bits_Len64 F g) args h = some r → Tri Go.Proofs.Try.prog 153 args h r := by
  intro args h r e; obtain ⟨a0, rfl, e1⟩ := u1_some e; exact fn_sound Go.Proofs.Try.func153 rfl rfl rfl Go.Proofs.Try.ntmps153 (Sound.none _) ((k_math_bits_Len64 F g a0 h).trans e1)

-- "math/bits.Len"
noncomputable def c_math_bits_Len (F g : Nat) (a0 : AV) (h : H) : Option R := withBool (AV.bool false) fun t1 => bc t1 (aConvI 6 a0 h fun x2 h => bindR (c_math_bits_Len32 F g x2 h) fun x3 h => some (x3, h)) (bindR (c_math_bits_Len64 F g a0 h) fun x4 h => some (x4, h))
noncomputable def A_math_bits_Len : An := (.two .o (.two (.two (.two .o .o) .o) (.two .o .o)))
noncomputable def b_math_bits_Len : Code := bodyOf Go.Proofs.Try.f132
theorem k_math_bits_Len (F g : Nat) (a0 : AV) (h : H) : callD Go.Proofs.Try.prog (Env.add (Env.add (fun _ _ _ => none : Env) 152 (u1 (c_math_bits_Len32 F g))) 153 (u1 (c_math_bits_Len64 F g))) 8 F b_math_bits_Len [2] A_math_bits_Len [a0] h = c_math_bits_Len F g a0 h := by kernel_rfl
theorem s_math_bits_Len (F g : Nat) : ∀ args h r, u1 (c_math_bits_Len F g) args h = some r → Tri Go.Proofs.Try.prog 132 args h r := by
  intro args h r e; obtain ⟨a0, rfl, e1⟩ := u1_some e; exact fn_sound Go.Proofs.Try.func132 rfl rfl rfl Go.Proofs.Try.ntmps132 (Sound.add (Sound.add (Sound.none _) (s_math_bits_Len32 F g)) (s_math_bits_Len64 F g)) ((k_math_bits_Len F g a0 h).trans e1)

-- "cmp.isNaN[string]"
noncomputable def c_cmp_isNaN_ecb2 (F g : Nat) (a0 : AV) (h : H) : Option R := aCmpS (fun a b => bnot (eqL a b)) a0 a0 h fun x1 h => some (x1, h)
noncomputable def A_cmp_isNaN_ecb2 : An := (.two .o (.two .o .o))
noncomputable def b_cmp_isNaN_ecb2 : Code := bodyOf Go.Proofs.Try.f171
theorem k_cmp_isNaN_ecb2 (F g : Nat) (a0 : AV) (h : H) : callD Go.Proofs.Try.prog (fun _ _ _ => none : Env) 6 F b_cmp_isNaN_ecb2 [2] A_cmp_isNaN_ecb2 [a0] h = c_cmp_isNaN_ecb2 F g a0 h := by kernel_rfl
theorem s_cmp_isNaN_ecb2 (F g : Nat) : ∀ args h r, u1 (c_cmp_isNaN_ecb2 F g) args h = some r → Tri Go.Proofs.Try.prog 171 args h r := by
  intro args h r e; obtain ⟨a0, rfl, e1⟩ := u1_some e; exact fn_sound Go.Proofs.Try.func171 rfl rfl rfl Go.Proofs.Try.ntmps171 (Sound.none _) ((k_cmp_isNaN_ecb2 F g a0 h).trans e1)

-- "cmp.Less[string]"
noncomputable def c_cmp_Less_ecb2_j1 (F g : Nat) (vs : List AV) (h : H) : Option R := (fun x7 x8 => aPick x7 (AV.bool true) x8 h fun x9 h => some (x9, h)) (hd vs) (hd (tl vs))
noncomputable def c_cmp_Less_ecb2_j2 (F g : Nat) (vs : List AV) (h : H) : Option R := (fun x2 x3 x4 x5 => aPick x4 x5 (AV.bool false) h fun x6 h => guardB false x6 (aCmpS ltL x2 x3 h fun x10 h => (c_cmp_Less_ecb2_j1 F g) [x6, x10] h) ((c_cmp_Less_ecb2_j1 F g) [x6, (AV.one .tup (AV.leaf .nil))] h)) (hd vs) (hd (tl vs)) (hd (tl (tl vs))) (hd (tl (tl (tl vs))))
noncomputable def c_cmp_Less_ecb2 (F g : Nat) (a0 a1 : AV) (h : H) : Option R := bindR (c_cmp_isNaN_ecb2 F g a0 h) fun x1 h => guardB true x1 (bindR (c_cmp_isNaN_ecb2 F g a1 h) fun x11 h => aNot x11 h fun x12 h => (c_cmp_Less_ecb2_j2 F g) [a0, a1, x1, x12] h) ((c_cmp_Less_ecb2_j2 F g) [a0, a1, x1, (AV.one .tup (AV.leaf .nil))] h)
noncomputable def A_cmp_Less_ecb2 : An := (.two .o (.two (.at_ [0, 1, 7, 10] .o (.at_ [12, 15] .o .o)) .o))
noncomputable def b_cmp_Less_ecb2 : Code := bodyOf Go.Proofs.Try.f149
theorem k_cmp_Less_ecb2 (F g : Nat) (a0 a1 : AV) (h : H) : callD Go.Proofs.Try.prog (Env.add (fun _ _ _ => none : Env) 171 (u1 (c_cmp_isNaN_ecb2 F g))) 17 F b_cmp_Less_ecb2 [4] A_cmp_Less_ecb2 [a0, a1] h = c_cmp_Less_ecb2 F g a0 a1 h := by kernel_rfl
theorem s_cmp_Less_ecb2 (F g : Nat) : ∀ args h r, u2 (c_cmp_Less_ecb2 F g) args h = some r → Tri Go.Proofs.Try.prog 149 args h r := by
  intro args h r e; obtain ⟨a0, a1, rfl, e1⟩ := u2_some e; exact fn_sound Go.Proofs.Try.func149 rfl rfl rfl Go.Proofs.Try.ntmps149 (Sound.add (Sound.none _) (s_cmp_isNaN_ecb2 F g)) ((k_cmp_Less_ecb2 F g a0 a1 h).trans e1)

-- "slices.insertionSortOrdered[string]"
noncomputable def c_slices_insertionSortOrdered_ecb2_j1 (F g : Nat) (kc2 : List AV → H → Option R) (kc9 : List AV → H → Option R) (vs : List AV) (h : H) : Option R := (fun x16 x17 x18 x19 x20 x21 x22 => aPick x21 x22 (AV.bool false) h fun x23 _ => withBool x23 fun t24 => bc t24 (aArith isub x20 (AV.int 3 (Int.ofNat 1)) h fun x25 _ => aArith isub x20 (AV.int 3 (Int.ofNat 1)) h fun x26 _ => aIdxAddr 1 x16 x26 h fun x27 _ => aLoad x27 h fun x28 _ => aIdxAddr 1 x16 x20 h fun x29 _ => aLoad x29 h fun x30 _ => aIdxAddr 1 x16 x20 h fun x31 _ => aStore x31 x28 h fun x32 h => aIdxAddr 1 x16 x25 h fun x33 _ => aStore x33 x30 h fun x34 h => aArith isub x20 (AV.int 3 (Int.ofNat 1)) h fun x35 h => kc9 [x16, x17, x18, x19, x35] h) (aArith iadd x19 (AV.int 3 (Int.ofNat 1)) h fun x36 h => kc2 [x16, x17, x18, x36] h)) (hd vs) (hd (tl vs)) (hd (tl (tl vs))) (hd (tl (tl (tl vs)))) (hd (tl (tl (tl (tl vs))))) (hd (tl (tl (tl (tl (tl vs)))))) (hd (tl (tl (tl (tl (tl (tl vs)))))))
noncomputable def c_slices_insertionSortOrdered_ecb2_l2 (F g : Nat) (kc2 : List AV → H → Option R) : List AV → H → (List AV → H → Option R) → Option R := fun vs h kc9 => (fun x10 x11 x12 x13 x14 => aCmpI (fun a b => ilt b a) x14 x11 h fun x15 _ => guardB true x15 (aIdxAddr 1 x10 x14 h fun x37 _ => aLoad x37 h fun x38 _ => aArith isub x14 (AV.int 3 (Int.ofNat 1)) h fun x39 _ => aIdxAddr 1 x10 x39 h fun x40 _ => aLoad x40 h fun x41 _ => bindR (c_cmp_Less_ecb2 F g x38 x41 h) fun x42 h => (c_slices_insertionSortOrdered_ecb2_j1 F g kc2 kc9) [x10, x11, x12, x13, x14, x15, x42] h) ((c_slices_insertionSortOrdered_ecb2_j1 F g kc2 kc9) [x10, x11, x12, x13, x14, x15, (AV.one .tup (AV.leaf .nil))] h)) (hd vs) (hd (tl vs)) (hd (tl (tl vs))) (hd (tl (tl (tl vs)))) (hd (tl (tl (tl (tl vs)))))
noncomputable def c_slices_insertionSortOrdered_ecb2_l3 (F g : Nat) : List AV → H → (List AV → H → Option R) → Option R := fun vs h kc2 => (fun x3 x4 x5 x6 => aCmpI ilt x6 x5 h fun x7 h => withBool x7 fun t8 => bc t8 (loopD F (c_slices_insertionSortOrdered_ecb2_l2 F g kc2) [x3, x4, x5, x6, x6] h) (some (AV.one .tup (AV.leaf .nil), h))) (hd vs) (hd (tl vs)) (hd (tl (tl vs))) (hd (tl (tl (tl vs))))
noncomputable def c_slices_insertionSortOrdered_ecb2 (F g : Nat) (a0 a1 a2 : AV) (h : H) : Option R := aArith iadd a1 (AV.int 3 (Int.ofNat 1)) h fun x1 h => loopD F (c_slices_insertionSortOrdered_ecb2_l3 F g) [a0, a1, a2, x1] h
noncomputable def A_slices_insertionSortOrdered_ecb2 : An := (.two .o (.two (.at_ [0, 1, 2, 6] (.two (.two .o (.two .o .o)) (.two (.two (.two .o (.two (.at_ [0, 1, 2, 6, 7] (.two (.two (.at_ [0, 1, 2, 6, 7, 19, 29] .o .o) (.two .o .o)) (.two (.two .o .o) .o)) .o) .o)) .o) .o)) .o) .o))
noncomputable def b_slices_insertionSortOrdered_ecb2 : Code := bodyOf Go.Proofs.Try.f143
theorem k_slices_insertionSortOrdered_ecb2 (F g : Nat) (a0 a1 a2 : AV) (h : H) : callD Go.Proofs.Try.prog (Env.add (fun _ _ _ => none : Env) 149 (u2 (c_cmp_Less_ecb2 F g))) 49 F b_slices_insertionSortOrdered_ecb2 [] A_slices_insertionSortOrdered_ecb2 [a0, a1, a2] h = c_slices_insertionSortOrdered_ecb2 F g a0 a1 a2 h := by kernel_rfl
theorem s_slices_insertionSortOrdered_ecb2 (F g : Nat) : ∀ args h r, u3 (c_slices_insertionSortOrdered_ecb2 F g) args h = some r → Tri Go.Proofs.Try.prog 143 args h r := by
  intro args h r e; obtain ⟨a0, a1, a2, rfl, e1⟩ := u3_some e; exact fn_sound Go.Proofs.Try.func143 rfl rfl rfl Go.Proofs.Try.ntmps143 (Sound.add (Sound.none _) (s_cmp_Less_ecb2 F g)) ((k_slices_insertionSortOrdered_ecb2 F g a0 a1 a2 h).trans e1)

-- "slices.pdqsortOrdered[string]"
noncomputable def c_slices_pdqsortOrdered_ecb2_j1 (F g : Nat) (vs : List AV) (h : H) : Option R := (fun x14 x15 x16 x17 x18 x19 x20 => none) (hd vs) (hd (tl vs)) (hd (tl (tl vs))) (hd (tl (tl (tl vs)))) (hd (tl (tl (tl (tl vs))))) (hd (tl (tl (tl (tl (tl vs)))))) (hd (tl (tl (tl (tl (tl (tl vs)))))))
noncomputable def c_slices_pdqsortOrdered_ecb2_l2 (F g : Nat) : List AV → H → (List AV → H → Option R) → Option R := fun vs h kc1 => (fun x2 x3 x4 x5 x6 x7 => aArith isub x4 x3 h fun x8 h => aCmpI ile x8 (AV.int 3 (Int.ofNat 12)) h fun x9 h => withBool x9 fun t10 => bc t10 (bindR (c_slices_insertionSortOrdered_ecb2 F g x2 x3 x4 h) fun x11 h => some (AV.one .tup (AV.leaf .nil), h)) (aCmpI ieq x5 (AV.int 3 (Int.ofNat 0)) h fun x12 h => withBool x12 fun t13 => bc t13 (none) (aNot x6 h fun x21 h => withBool x21 fun t22 => bc t22 (none) ((c_slices_pdqsortOrdered_ecb2_j1 F g) [x2, x3, x4, x5, x6, x7, x8] h)))) (hd vs) (hd (tl vs)) (hd (tl (tl vs))) (hd (tl (tl (tl vs)))) (hd (tl (tl (tl (tl vs))))) (hd (tl (tl (tl (tl (tl vs))))))
noncomputable def c_slices_pdqsortOrdered_ecb2 (F g : Nat) (a0 a1 a2 a3 : AV) (h : H) : Option R := loopD F (c_slices_pdqsortOrdered_ecb2_l2 F g) [a0, a1, a2, a3, (AV.bool true), (AV.bool true)] h
noncomputable def A_slices_pdqsortOrdered_ecb2 : An := (.two .o (.two .o (.two (.at_ [0, 1, 2, 3, 8, 9] (.two (.two .o (.two (.two .o (.two (.two .o .o) .o)) (.two (.two .o (.two (.two .o .o) .o)) (.at_ [0, 1, 2, 3, 8, 9, 10] (.two .o (.two (.two .o .o) .o)) (.two .o (.at_ [0, 1, 2, 3, 8, 9, 10, 11, 12] (.two .o (.two (.two .o (.two .o .o)) .o)) (.at_ [0, 1, 2, 3, 8, 9, 10, 11] (.two (.at_ [0, 1, 2, 3, 8, 9, 10, 11, 12, 62, 63] .o (.at_ [0, 1, 2, 3, 8, 9, 10, 11, 65, 67] .o .o)) (.two (.two .o (.two .o .o)) .o)) (.two (.two (.at_ [0, 1, 2, 3, 8, 9, 10, 11, 75, 86] .o .o) (.two (.two .o (.two .o .o)) .o)) (.two .o (.two .o (.two .o (.two .o (.two .o (.two (.two .o (.two .o .o)) (.two .o (.two .o .o)))))))))))))))) .o) .o) .o)))
noncomputable def b_slices_pdqsortOrdered_ecb2 : Code := bodyOf Go.Proofs.Try.f131
theorem k_slices_pdqsortOrdered_ecb2 (F g : Nat) (a0 a1 a2 a3 : AV) (h : H) : callD Go.Proofs.Try.prog (Env.add (fun _ _ _ => none : Env) 143 (u3 (c_slices_insertionSortOrdered_ecb2 F g))) 134 F b_slices_pdqsortOrdered_ecb2 [] A_slices_pdqsortOrdered_ecb2 [a0, a1, a2, a3] h = c_slices_pdqsortOrdered_ecb2 F g a0 a1 a2 a3 h := by kernel_rfl
theorem s_slices_pdqsortOrdered_ecb2 (F g : Nat) : ∀ args h r, u4 (c_slices_pdqsortOrdered_ecb2 F g) args h = some r → Tri Go.Proofs.Try.prog 131 args h r := by
  intro args h r e; obtain ⟨a0, a1, a2, a3, rfl, e1⟩ := u4_some e; exact fn_sound Go.Proofs.Try.func131 rfl rfl rfl Go.Proofs.Try.ntmps131 (Sound.add (Sound.none _) (s_slices_insertionSortOrdered_ecb2 F g)) ((k_slices_pdqsortOrdered_ecb2 F g a0 a1 a2 a3 h).trans e1)

-- "slices.Sort[[]string,string]"
noncomputable def c_slices_Sort_49de (F g : Nat) (a0 : AV) (h : H) : Option R := aLenK 1 a0 h fun x1 h => aConvI 7 x1 h fun x2 h => bindR (c_math_bits_Len F g x2 h) fun x3 h => bindR (c_slices_pdqsortOrdered_ecb2 F g a0 (AV.int 3 (Int.ofNat 0)) x1 x3 h) fun x4 h => some (AV.one .tup (AV.leaf .nil), h)
noncomputable def A_slices_Sort_49de : An := (.two .o .o)
noncomputable def b_slices_Sort_49de : Code := bodyOf Go.Proofs.Try.f100
theorem k_slices_Sort_49de (F g : Nat) (a0 : AV) (h : H) : callD Go.Proofs.Try.prog (Env.add (Env.add (fun _ _ _ => none : Env) 132 (u1 (c_math_bits_Len F g))) 131 (u4 (c_slices_pdqsortOrdered_ecb2 F g))) 11 F b_slices_Sort_49de [] A_slices_Sort_49de [a0] h = c_slices_Sort_49de F g a0 h := by kernel_rfl
theorem s_slices_Sort_49de (F g : Nat) : ∀ args h r, u1 (c_slices_Sort_49de F g) args h = some r → Tri Go.Proofs.Try.prog 100 args h r := by
  intro args h r e; obtain ⟨a0, rfl, e1⟩ := u1_some e; exact fn_sound Go.Proofs.Try.func100 rfl rfl rfl Go.Proofs.Try.ntmps100 (Sound.add (Sound.add (Sound.none _) (s_math_bits_Len F g)) (s_slices_pdqsortOrdered_ecb2 F g)) ((k_slices_Sort_49de F g a0 h).trans e1)

-- "loop.example/treenumbers/impl.PairTurns"
noncomputable def c_impl_PairTurns_j1 (F g : Nat) (kc9 : List AV → H → Option R) (vs : List AV) (h : H) : Option R := (fun x16 x17 x18 x19 => aArith iadd x19 (AV.int 3 (Int.ofNat 1)) h fun x20 h => kc9 [x16, x17, x18, x20] h) (hd vs) (hd (tl vs)) (hd (tl (tl vs))) (hd (tl (tl (tl vs))))
noncomputable def c_impl_PairTurns_l2 (F g : Nat) : List AV → H → (List AV → H → Option R) → Option R := fun vs h kc9 => (fun x10 x11 x12 x13 => aCmpI ilt x13 x12 h fun x14 h => withBool x14 fun t15 => bc t15 (bindR (c_impl_turnedAt F g x11 x13 h) fun x21 h => aExtract x21 0 h fun x22 h => aExtract x21 1 h fun x23 h => withBool x23 fun t24 => bc t24 (aBuildSlice 1 1 [(0, 1, x22)] h fun x25 h => aAppend 1 16 x10 x25 h fun x26 h => (c_impl_PairTurns_j1 F g kc9) [x26, x11, x12, x13] h) ((c_impl_PairTurns_j1 F g kc9) [x10, x11, x12, x13] h)) (bindR (c_slices_Sort_49de F g x10 h) fun x27 h => some (AV.one .tup (AV.cons x10 (AV.cons (AV.bool true) (AV.leaf .nil))), h))) (hd vs) (hd (tl vs)) (hd (tl (tl vs))) (hd (tl (tl (tl vs))))
noncomputable def c_impl_PairTurns (F g : Nat) (a0 : AV) (h : H) : Option R := bindR (c_impl_readPairs F g a0 h) fun x1 h => aExtract x1 0 h fun x2 h => aExtract x1 1 h fun x3 h => aNot x3 h fun x4 h => withBool x4 fun t5 => bc t5 (some (AV.one .tup (AV.cons (AV.leaf .nils) (AV.cons (AV.bool false) (AV.leaf .nil))), h)) (aBuildSlice 0 1 [] h fun x6 h => dInv (Env.add (Env.add (Env.add (fun _ _ _ => none : Env) 75 (u1 (c_impl_node_nodes F g))) 193 (u1 (c_impl_inner_nodes F g))) 199 (u1 (c_impl_lone_nodes F g))) [(58, 75), (92, 193), (112, 199)] x2 [] h fun x7 h => aLenK 1 x7 h fun x8 h => loopD F (c_impl_PairTurns_l2 F g) [x6, x7, x8, (AV.int 3 (Int.ofNat 0))] h)
noncomputable def A_impl_PairTurns : An := (.two .o (.two .o (.two (.two .o (.two (.two .o .o) .o)) (.two .o (.two .o (.two (.two .o (.two (.at_ [6, 7, 22, 23] (.two .o (.two (.two .o .o) (.at_ [6, 7, 22, 23] (.two (.two .o (.two .o (.two .o (.two .o .o)))) .o) .o))) .o) .o)) (.two .o (.two .o .o))))))))
noncomputable def b_impl_PairTurns : Code := bodyOf Go.Proofs.Try.f52
theorem k_impl_PairTurns (F g : Nat) (a0 : AV) (h : H) : callD Go.Proofs.Try.prog (Env.add (Env.add (Env.add (Env.add (Env.add (Env.add (fun _ _ _ => none : Env) 87 (u1 (c_impl_readPairs F g))) 75 (u1 (c_impl_node_nodes F g))) 193 (u1 (c_impl_inner_nodes F g))) 199 (u1 (c_impl_lone_nodes F g))) 96 (u2 (c_impl_turnedAt F g))) 100 (u1 (c_slices_Sort_49de F g))) 41 F b_impl_PairTurns [2, 3] A_impl_PairTurns [a0] h = c_impl_PairTurns F g a0 h := by kernel_rfl
theorem s_impl_PairTurns (F g : Nat) : ∀ args h r, u1 (c_impl_PairTurns F g) args h = some r → Tri Go.Proofs.Try.prog 52 args h r := by
  intro args h r e; obtain ⟨a0, rfl, e1⟩ := u1_some e; exact fn_sound Go.Proofs.Try.func52 rfl rfl rfl Go.Proofs.Try.ntmps52 (Sound.add (Sound.add (Sound.add (Sound.add (Sound.add (Sound.add (Sound.none _) (s_impl_readPairs F g)) (s_impl_node_nodes F g)) (s_impl_inner_nodes F g)) (s_impl_lone_nodes F g)) (s_impl_turnedAt F g)) (s_slices_Sort_49de F g)) ((k_impl_PairTurns F g a0 h).trans e1)

-- "slices.Reverse[[]*loop.example/treenumbers/impl.node,*loop.example/treenumbers/impl.node]"
noncomputable def c_slices_Reverse_4168_l1 (F g : Nat) : List AV → H → (List AV → H → Option R) → Option R := fun vs h kc3 => (fun x4 x5 x6 => aCmpI ilt x5 x6 h fun x7 h => withBool x7 fun t8 => bc t8 (aIdxAddr 1 x4 x6 h fun x9 _ => aLoad x9 h fun x10 _ => aIdxAddr 1 x4 x5 h fun x11 _ => aLoad x11 h fun x12 _ => aIdxAddr 1 x4 x5 h fun x13 _ => aStore x13 x10 h fun x14 h => aIdxAddr 1 x4 x6 h fun x15 _ => aStore x15 x12 h fun x16 h => aArith iadd x5 (AV.int 3 (Int.ofNat 1)) h fun x17 h => aArith isub x6 (AV.int 3 (Int.ofNat 1)) h fun x18 h => kc3 [x4, x17, x18] h) (some (AV.one .tup (AV.leaf .nil), h))) (hd vs) (hd (tl vs)) (hd (tl (tl vs)))
noncomputable def c_slices_Reverse_4168 (F g : Nat) (a0 : AV) (h : H) : Option R := aLenK 1 a0 h fun x1 h => aArith isub x1 (AV.int 3 (Int.ofNat 1)) h fun x2 h => loopD F (c_slices_Reverse_4168_l1 F g) [a0, (AV.int 3 (Int.ofNat 0)), x2] h
noncomputable def A_slices_Reverse_4168 : An := (.two .o (.two (.at_ [0, 2, 3] (.two (.two .o (.two .o .o)) (.two (.two .o .o) .o)) .o) .o))
noncomputable def b_slices_Reverse_4168 : Code := bodyOf Go.Proofs.Try.f123
theorem k_slices_Reverse_4168 (F g : Nat) (a0 : AV) (h : H) : callD Go.Proofs.Try.prog (fun _ _ _ => none : Env) 28 F b_slices_Reverse_4168 [] A_slices_Reverse_4168 [a0] h = c_slices_Reverse_4168 F g a0 h := by kernel_rfl
theorem s_slices_Reverse_4168 (F g : Nat) : ∀ args h r, u1 (c_slices_Reverse_4168 F g) args h = some r → Tri Go.Proofs.Try.prog 123 args h r := by
  intro args h r e; obtain ⟨a0, rfl, e1⟩ := u1_some e; exact fn_sound Go.Proofs.Try.func123 rfl rfl rfl Go.Proofs.Try.ntmps123 (Sound.none _) ((k_slices_Reverse_4168 F g a0 h).trans e1)

-- "(*loop.example/treenumbers/impl.node).turn"
noncomputable def c_impl_node_turn_l1 (F g : Nat) (self : AV → H → Option R) : List AV → H → (List AV → H → Option R) → Option R := fun vs h kc9 => (fun x10 x11 x12 => aCmpI ilt x12 x11 h fun x13 h => withBool x13 fun t14 => bc t14 (aIdxAddr 1 x10 x12 h fun x15 h => aLoad x15 h fun x16 h => bindR (self x16 h) fun x17 h => aArith iadd x12 (AV.int 3 (Int.ofNat 1)) h fun x18 h => kc9 [x10, x11, x18] h) (some (AV.one .tup (AV.leaf .nil), h))) (hd vs) (hd (tl vs)) (hd (tl (tl vs)))
noncomputable def c_impl_node_turn (F g : Nat) : AV → H → Option R := Nat.rec (motive := fun _ => AV → H → Option R) (fun _ _ => none) (fun g self a0 h => aNilCheck a0 h fun x1 h => aField 2 x1 h fun x2 h => aLoad x2 h fun x3 h => bindR (c_slices_Reverse_4168 F g x3 h) fun x4 h => aNilCheck a0 h fun x5 h => aField 2 x5 h fun x6 h => aLoad x6 h fun x7 h => aLenK 1 x7 h fun x8 h => loopD F (c_impl_node_turn_l1 F g self) [x7, x8, (AV.int 3 (Int.ofNat 0))] h) g
noncomputable def A_impl_node_turn : An := (.two .o (.two .o (.two (.at_ [12, 13, 14] (.two .o (.two (.two .o .o) (.two (.two (.two .o .o) .o) .o))) .o) .o)))
noncomputable def b_impl_node_turn : Code := bodyOf Go.Proofs.Try.f89
theorem k_impl_node_turn (F g : Nat) (a0 : AV) (h : H) : callD Go.Proofs.Try.prog (Env.add (Env.add (fun _ _ _ => none : Env) 123 (u1 (c_slices_Reverse_4168 F g))) 89 (u1 (c_impl_node_turn F g))) 21 F b_impl_node_turn [] A_impl_node_turn [a0] h = c_impl_node_turn F (g + 1) a0 h := by kernel_rfl
theorem s_impl_node_turn (F g : Nat) : ∀ args h r, u1 (c_impl_node_turn F g) args h = some r → Tri Go.Proofs.Try.prog 89 args h r := by
  induction g with
  | zero => intro args h r e; obtain ⟨a0, rfl, e⟩ := u1_some e; cases e
  | succ g ih => intro args h r e; obtain ⟨a0, rfl, e1⟩ := u1_some e; exact fn_sound Go.Proofs.Try.func89 rfl rfl rfl Go.Proofs.Try.ntmps89 (Sound.add (Sound.add (Sound.none _) (s_slices_Reverse_4168 F g)) ih) ((k_impl_node_turn F g a0 h).trans e1)

-- "loop.example/treenumbers/impl.TreeTurned"
noncomputable def c_impl_TreeTurned (F g : Nat) (a0 : AV) (h : H) : Option R := bindR (c_impl_readTree F g a0 h) fun x1 h => aExtract x1 0 h fun x2 h => aExtract x1 1 h fun x3 h => aNot x3 h fun x4 h => withBool x4 fun t5 => bc t5 (some (AV.one .tup (AV.cons (AV.str [] 0) (AV.cons (AV.bool false) (AV.leaf .nil))), h)) (bindR (c_impl_node_turn F g x2 h) fun x6 h => bindR (c_impl_node_text F g x2 h) fun x7 h => some (AV.one .tup (AV.cons x7 (AV.cons (AV.bool true) (AV.leaf .nil))), h))
noncomputable def A_impl_TreeTurned : An := (.two .o (.two .o (.two (.two .o (.two (.two .o .o) .o)) (.two .o (.two .o .o)))))
noncomputable def b_impl_TreeTurned : Code := bodyOf Go.Proofs.Try.f41
theorem k_impl_TreeTurned (F g : Nat) (a0 : AV) (h : H) : callD Go.Proofs.Try.prog (Env.add (Env.add (Env.add (fun _ _ _ => none : Env) 72 (u1 (c_impl_readTree F g))) 89 (u1 (c_impl_node_turn F g))) 74 (u1 (c_impl_node_text F g))) 17 F b_impl_TreeTurned [2, 3] A_impl_TreeTurned [a0] h = c_impl_TreeTurned F g a0 h := by kernel_rfl
theorem s_impl_TreeTurned (F g : Nat) : ∀ args h r, u1 (c_impl_TreeTurned F g) args h = some r → Tri Go.Proofs.Try.prog 41 args h r := by
  intro args h r e; obtain ⟨a0, rfl, e1⟩ := u1_some e; exact fn_sound Go.Proofs.Try.func41 rfl rfl rfl Go.Proofs.Try.ntmps41 (Sound.add (Sound.add (Sound.add (Sound.none _) (s_impl_readTree F g)) (s_impl_node_turn F g)) (s_impl_node_text F g)) ((k_impl_TreeTurned F g a0 h).trans e1)

-- "loop.example/treenumbers/impl.besides"
noncomputable def c_impl_besides_l1 (F g : Nat) : List AV → H → (List AV → H → Option R) → Option R := fun vs h kc11 => (fun x12 x13 x14 x15 => aCmpI ilt x15 x14 h fun x16 h => withBool x16 fun t17 => bc t17 (aIdxAddr 1 x13 x15 h fun x18 h => aLoad x18 h fun x19 h => bindR (c_impl_TreeTurned F g x19 h) fun x20 h => aExtract x20 0 h fun x21 h => aExtract x20 1 h fun x22 h => aBuildSlice 1 1 [(0, 1, x21)] h fun x23 h => aAppend 1 16 x12 x23 h fun x24 h => aArith iadd x15 (AV.int 3 (Int.ofNat 1)) h fun x25 h => kc11 [x24, x13, x14, x25] h) (some (x12, h))) (hd vs) (hd (tl vs)) (hd (tl (tl vs))) (hd (tl (tl (tl vs))))
noncomputable def c_impl_besides (F g : Nat) (a0 : AV) (h : H) : Option R := bindR (c_impl_PairTurns F g a0 h) fun x1 h => aExtract x1 0 h fun x2 h => aExtract x1 1 h fun x3 h => bindR (c_impl_TreeTurned F g a0 h) fun x4 h => aExtract x4 0 h fun x5 h => aExtract x4 1 h fun x6 h => bindR (c_impl_PairTurns F g x5 h) fun x7 h => aExtract x7 0 h fun x8 h => aExtract x7 1 h fun x9 h => aLenK 1 x8 h fun x10 h => loopD F (c_impl_besides_l1 F g) [x2, x8, x10, (AV.int 3 (Int.ofNat 0))] h
noncomputable def A_impl_besides : An := (.two .o (.two .o (.two .o (.two .o (.two (.two .o (.two (.at_ [3, 28, 29, 30] (.two .o (.two (.two .o .o) (.two (.two (.two .o (.two .o .o)) .o) .o))) .o) .o)) (.two .o .o))))))
noncomputable def b_impl_besides : Code := bodyOf Go.Proofs.Try.f129
theorem k_impl_besides (F g : Nat) (a0 : AV) (h : H) : callD Go.Proofs.Try.prog (Env.add (Env.add (fun _ _ _ => none : Env) 52 (u1 (c_impl_PairTurns F g))) 41 (u1 (c_impl_TreeTurned F g))) 45 F b_impl_besides [2] A_impl_besides [a0] h = c_impl_besides F g a0 h := by kernel_rfl
theorem s_impl_besides (F g : Nat) : ∀ args h r, u1 (c_impl_besides F g) args h = some r → Tri Go.Proofs.Try.prog 129 args h r := by
  intro args h r e; obtain ⟨a0, rfl, e1⟩ := u1_some e; exact fn_sound Go.Proofs.Try.func129 rfl rfl rfl Go.Proofs.Try.ntmps129 (Sound.add (Sound.add (Sound.none _) (s_impl_PairTurns F g)) (s_impl_TreeTurned F g)) ((k_impl_besides F g a0 h).trans e1)

-- "slices.Compact[[]string,string]"
noncomputable def c_slices_Compact_49de_j1 (F g : Nat) (kc18 : List AV → H → Option R) (vs : List AV) (h : H) : Option R := (fun x26 x27 x28 x29 => aArith iadd x29 (AV.int 3 (Int.ofNat 1)) h fun x30 h => kc18 [x26, x27, x28, x30] h) (hd vs) (hd (tl vs)) (hd (tl (tl vs))) (hd (tl (tl (tl vs))))
noncomputable def c_slices_Compact_49de_l2 (F g : Nat) : List AV → H → (List AV → H → Option R) → Option R := fun vs h kc18 => (fun x19 x20 x21 x22 => aLenK 1 x21 h fun x23 h => aCmpI ilt x22 x23 h fun x24 h => withBool x24 fun t25 => bc t25 (aIdxAddr 1 x21 x22 h fun x31 _ => aLoad x31 h fun x32 _ => aArith isub x22 (AV.int 3 (Int.ofNat 1)) h fun x33 _ => aIdxAddr 1 x21 x33 h fun x34 _ => aLoad x34 h fun x35 _ => aCmpS (fun a b => bnot (eqL a b)) x32 x35 h fun x36 _ => withBool x36 fun t37 => bc t37 (aIdxAddr 1 x21 x22 h fun x38 h => aLoad x38 h fun x39 h => aIdxAddr 1 x19 x20 h fun x40 h => aStore x40 x39 h fun x41 h => aArith iadd x20 (AV.int 3 (Int.ofNat 1)) h fun x42 h => (c_slices_Compact_49de_j1 F g kc18) [x19, x42, x21, x22] h) ((c_slices_Compact_49de_j1 F g kc18) [x19, x20, x21, x22] h)) (aSliceV 1 x19 (some x20) none none h fun x43 h => aClearS 1 [(AV.str [] 0)] x43 h fun x44 h => aSliceV 1 x19 none (some x20) none h fun x45 h => some (x45, h))) (hd vs) (hd (tl vs)) (hd (tl (tl vs))) (hd (tl (tl (tl vs))))
noncomputable def c_slices_Compact_49de_l3 (F g : Nat) : List AV → H → (List AV → H → Option R) → Option R := fun vs h kc4 => (fun x5 x6 => aLenK 1 x5 h fun x7 h => aCmpI ilt x6 x7 h fun x8 h => withBool x8 fun t9 => bc t9 (aIdxAddr 1 x5 x6 h fun x10 _ => aLoad x10 h fun x11 _ => aArith isub x6 (AV.int 3 (Int.ofNat 1)) h fun x12 _ => aIdxAddr 1 x5 x12 h fun x13 _ => aLoad x13 h fun x14 _ => aCmpS eqL x11 x14 h fun x15 _ => withBool x15 fun t16 => bc t16 (aSliceV 1 x5 (some x6) none none h fun x17 h => loopD F (c_slices_Compact_49de_l2 F g) [x5, x6, x17, (AV.int 3 (Int.ofNat 1))] h) (aArith iadd x6 (AV.int 3 (Int.ofNat 1)) h fun x46 h => kc4 [x5, x46] h)) (some (x5, h))) (hd vs) (hd (tl vs))
noncomputable def c_slices_Compact_49de (F g : Nat) (a0 : AV) (h : H) : Option R := aLenK 1 a0 h fun x1 h => aCmpI ilt x1 (AV.int 3 (Int.ofNat 2)) h fun x2 h => withBool x2 fun t3 => bc t3 (some (a0, h)) (loopD F (c_slices_Compact_49de_l3 F g) [a0, (AV.int 3 (Int.ofNat 1))] h)
noncomputable def A_slices_Compact_49de : An := (.two .o (.two (.two .o (.two (.two .o .o) .o)) (.two (.two .o (.two (.at_ [0, 3] (.two (.two .o (.two .o .o)) (.two (.two (.two .o (.two (.two .o (.two (.two .o (.two (.at_ [0, 3, 4, 5] (.two (.two .o (.two .o .o)) (.at_ [0, 3, 4, 5] (.two (.two .o (.two (.two .o .o) .o)) .o) .o)) .o) .o)) (.two .o (.two .o .o)))) .o)) .o) .o)) .o) .o)) (.two .o .o))))
noncomputable def b_slices_Compact_49de : Code := bodyOf Go.Proofs.Try.f130
theorem k_slices_Compact_49de (F g : Nat) (a0 : AV) (h : H) : callD Go.Proofs.Try.prog (fun _ _ _ => none : Env) 61 F b_slices_Compact_49de [2] A_slices_Compact_49de [a0] h = c_slices_Compact_49de F g a0 h := by kernel_rfl
theorem s_slices_Compact_49de (F g : Nat) : ∀ args h r, u1 (c_slices_Compact_49de F g) args h = some r → Tri Go.Proofs.Try.prog 130 args h r := by
  intro args h r e; obtain ⟨a0, rfl, e1⟩ := u1_some e; exact fn_sound Go.Proofs.Try.func130 rfl rfl rfl Go.Proofs.Try.ntmps130 (Sound.none _) ((k_slices_Compact_49de F g a0 h).trans e1)

-- "loop.example/treenumbers/impl.withBesides"
noncomputable def c_impl_withBesides_l1 (F g : Nat) : List AV → H → (List AV → H → Option R) → Option R := fun vs h kc3 => (fun x4 x5 x6 x7 => aCmpI ilt x7 x6 h fun x8 h => withBool x8 fun t9 => bc t9 (aIdxAddr 1 x5 x7 h fun x10 h => aLoad x10 h fun x11 h => bindR (c_impl_besides F g x11 h) fun x12 h => aAppend 1 16 x4 x12 h fun x13 h => aArith iadd x7 (AV.int 3 (Int.ofNat 1)) h fun x14 h => kc3 [x13, x5, x6, x14] h) (bindR (c_slices_Sort_49de F g x4 h) fun x15 h => bindR (c_slices_Compact_49de F g x4 h) fun x16 h => some (x16, h))) (hd vs) (hd (tl vs)) (hd (tl (tl vs))) (hd (tl (tl (tl vs))))
noncomputable def c_impl_withBesides (F g : Nat) (a0 : AV) (h : H) : Option R := bindR (c_slices_Clone_49de F g a0 h) fun x1 h => aLenK 1 a0 h fun x2 h => loopD F (c_impl_withBesides_l1 F g) [x1, a0, x2, (AV.int 3 (Int.ofNat 0))] h
noncomputable def A_impl_withBesides : An := (.two .o (.two .o (.two (.two .o (.two (.at_ [3, 8, 9, 10] (.two .o (.two (.two .o .o) (.two (.two (.two .o .o) .o) .o))) .o) .o)) (.two .o (.two .o .o)))))
noncomputable def b_impl_withBesides : Code := bodyOf Go.Proofs.Try.f99
theorem k_impl_withBesides (F g : Nat) (a0 : AV) (h : H) : callD Go.Proofs.Try.prog (Env.add (Env.add (Env.add (Env.add (fun _ _ _ => none : Env) 128 (u1 (c_slices_Clone_49de F g))) 129 (u1 (c_impl_besides F g))) 100 (u1 (c_slices_Sort_49de F g))) 130 (u1 (c_slices_Compact_49de F g))) 23 F b_impl_withBesides [2] A_impl_withBesides [a0] h = c_impl_withBesides F g a0 h := by kernel_rfl
theorem s_impl_withBesides (F g : Nat) : ∀ args h r, u1 (c_impl_withBesides F g) args h = some r → Tri Go.Proofs.Try.prog 99 args h r := by
  intro args h r e; obtain ⟨a0, rfl, e1⟩ := u1_some e; exact fn_sound Go.Proofs.Try.func99 rfl rfl rfl Go.Proofs.Try.ntmps99 (Sound.add (Sound.add (Sound.add (Sound.add (Sound.none _) (s_slices_Clone_49de F g)) (s_impl_besides F g)) (s_slices_Sort_49de F g)) (s_slices_Compact_49de F g)) ((k_impl_withBesides F g a0 h).trans e1)

-- "loop.example/treenumbers/impl.PairFar"
noncomputable def c_impl_PairFar_l1 (F g : Nat) : List AV → H → (List AV → H → Option R) → Option R := fun vs h kc10 => (fun x11 x12 x13 => bindR (c_slices_Contains_49de F g x12 x11 h) fun x14 h => withBool x14 fun t15 => bc t15 (some (AV.one .tup (AV.cons x13 (AV.cons (AV.bool true) (AV.leaf .nil))), h)) (bindR (c_impl_withBesides F g x12 h) fun x16 h => aLenK 1 x16 h fun x17 h => aLenK 1 x12 h fun x18 h => aCmpI ieq x17 x18 h fun x19 h => withBool x19 fun t20 => bc t20 (some (AV.one .tup (AV.cons (AV.int 3 (Int.ofNat 0)) (AV.cons (AV.bool false) (AV.leaf .nil))), h)) (aArith iadd x13 (AV.int 3 (Int.ofNat 1)) h fun x21 h => kc10 [x11, x16, x21] h))) (hd vs) (hd (tl vs)) (hd (tl (tl vs)))
noncomputable def c_impl_PairFar_j2 (F g : Nat) (vs : List AV) (h : H) : Option R := (fun x3 x4 x5 x6 => aPick x5 (AV.bool true) x6 h fun x7 h => withBool x7 fun t8 => bc t8 (some (AV.one .tup (AV.cons (AV.int 3 (Int.ofNat 0)) (AV.cons (AV.bool false) (AV.leaf .nil))), h)) (aBuildSlice 1 1 [(0, 1, x3)] h fun x9 h => loopD F (c_impl_PairFar_l1 F g) [x4, x9, (AV.int 3 (Int.ofNat 0))] h)) (hd vs) (hd (tl vs)) (hd (tl (tl vs))) (hd (tl (tl (tl vs))))
noncomputable def c_impl_PairFar (F g : Nat) (a0 a1 : AV) (h : H) : Option R := bindR (c_impl_PairIn F g a0 h) fun x1 h => aNot x1 h fun x2 h => guardB false x2 (bindR (c_impl_PairIn F g a1 h) fun x22 h => aNot x22 h fun x23 h => (c_impl_PairFar_j2 F g) [a0, a1, x2, x23] h) ((c_impl_PairFar_j2 F g) [a0, a1, x2, (AV.one .tup (AV.leaf .nil))] h)
noncomputable def A_impl_PairFar : An := (.two .o (.two (.two (.at_ [0, 1, 12, 15] .o .o) (.two (.two .o .o) .o)) (.two .o (.two .o (.two (.at_ [1, 6, 7] (.two (.two (.two (.two .o (.two (.two .o .o) .o)) (.two .o (.two (.two .o (.two (.two .o .o) .o)) .o))) .o) .o) .o) .o)))))
noncomputable def b_impl_PairFar : Code := bodyOf Go.Proofs.Try.f51
theorem k_impl_PairFar (F g : Nat) (a0 a1 : AV) (h : H) : callD Go.Proofs.Try.prog (Env.add (Env.add (Env.add (fun _ _ _ => none : Env) 38 (u1 (c_impl_PairIn F g))) 98 (u2 (c_slices_Contains_49de F g))) 99 (u1 (c_impl_withBesides F g))) 33 F b_impl_PairFar [4, 5] A_impl_PairFar [a0, a1] h = c_impl_PairFar F g a0 a1 h := by kernel_rfl
theorem s_impl_PairFar (F g : Nat) : ∀ args h r, u2 (c_impl_PairFar F g) args h = some r → Tri Go.Proofs.Try.prog 51 args h r := by
  intro args h r e; obtain ⟨a0, a1, rfl, e1⟩ := u2_some e; exact fn_sound Go.Proofs.Try.func51 rfl rfl rfl Go.Proofs.Try.ntmps51 (Sound.add (Sound.add (Sound.add (Sound.none _) (s_impl_PairIn F g)) (s_slices_Contains_49de F g)) (s_impl_withBesides F g)) ((k_impl_PairFar F g a0 a1 h).trans e1)

-- "slices.IndexFunc[[]string,string]"
noncomputable abbrev D_slices_IndexFunc_49de (F g : Nat) (E : Env) : Env := E
noncomputable abbrev G_slices_IndexFunc_49de (F g : Nat) (E : Env) : Env := (D_slices_IndexFunc_49de F g E)
noncomputable def c_slices_IndexFunc_49de_l1 (F g : Nat) (E : Env) : List AV → H → (List AV → H → Option R) → Option R := fun vs h kc2 => (fun x3 x4 x5 x6 => aCmpI ilt x6 x5 h fun x7 h => withBool x7 fun t8 => bc t8 (aIdxAddr 1 x3 x6 h fun x9 h => aLoad x9 h fun x10 h => dCall (G_slices_IndexFunc_49de F g E) x4 [x10] h fun x11 h => withBool x11 fun t12 => bc t12 (some (x6, h)) (aArith iadd x6 (AV.int 3 (Int.ofNat 1)) h fun x13 h => kc2 [x3, x4, x5, x13] h)) (some ((AV.int 3 (Int.negSucc 0)), h))) (hd vs) (hd (tl vs)) (hd (tl (tl vs))) (hd (tl (tl (tl vs))))
noncomputable def c_slices_IndexFunc_49de (F g : Nat) (E : Env) (a0 a1 : AV) (h : H) : Option R := aLenK 1 a0 h fun x1 h => loopD F (c_slices_IndexFunc_49de_l1 F g E) [a0, a1, x1, (AV.int 3 (Int.ofNat 0))] h
noncomputable def A_slices_IndexFunc_49de : An := (.two .o (.two (.two .o (.two (.at_ [0, 1, 7, 8] (.two .o (.two (.two .o .o) (.two (.two (.two .o (.two .o (.two (.two .o .o) .o))) .o) .o))) .o) .o)) (.two .o .o)))
noncomputable def b_slices_IndexFunc_49de : Code := bodyOf Go.Proofs.Try.f154
theorem k_slices_IndexFunc_49de (F g : Nat) (E : Env) (a0 a1 : AV) (h : H) : callD Go.Proofs.Try.prog (G_slices_IndexFunc_49de F g E) 19 F b_slices_IndexFunc_49de [4] A_slices_IndexFunc_49de [a0, a1] h = c_slices_IndexFunc_49de F g E a0 a1 h := by kernel_rfl
theorem s_slices_IndexFunc_49de (F g : Nat) (E : Env) (hE : Sound Go.Proofs.Try.prog E) : ∀ args h r, u2 (c_slices_IndexFunc_49de F g E) args h = some r → Tri Go.Proofs.Try.prog 154 args h r := by
  intro args h r e; obtain ⟨a0, a1, rfl, e1⟩ := u2_some e; exact fn_sound Go.Proofs.Try.func154 rfl rfl rfl Go.Proofs.Try.ntmps154 hE ((k_slices_IndexFunc_49de F g E a0 a1 h).trans e1)

-- "slices.ContainsFunc[[]string,string]"
noncomputable abbrev D_slices_ContainsFunc_49de (F g : Nat) (E : Env) : Env := E
noncomputable abbrev G_slices_ContainsFunc_49de (F g : Nat) (E : Env) : Env := (Env.add (D_slices_ContainsFunc_49de F g E) 154 (u2 (c_slices_IndexFunc_49de F g (D_slices_ContainsFunc_49de F g E))))
noncomputable def c_slices_ContainsFunc_49de (F g : Nat) (E : Env) (a0 a1 : AV) (h : H) : Option R := bindR (c_slices_IndexFunc_49de F g (D_slices_ContainsFunc_49de F g E) a0 a1 h) fun x1 h => aCmpI (fun a b => ile b a) x1 (AV.int 3 (Int.ofNat 0)) h fun x2 h => some (x2, h)
noncomputable def A_slices_ContainsFunc_49de : An := (.two .o (.two .o .o))
noncomputable def b_slices_ContainsFunc_49de : Code := bodyOf Go.Proofs.Try.f133
theorem k_slices_ContainsFunc_49de (F g : Nat) (E : Env) (a0 a1 : AV) (h : H) : callD Go.Proofs.Try.prog (G_slices_ContainsFunc_49de F g E) 9 F b_slices_ContainsFunc_49de [4] A_slices_ContainsFunc_49de [a0, a1] h = c_slices_ContainsFunc_49de F g E a0 a1 h := by kernel_rfl
theorem s_slices_ContainsFunc_49de (F g : Nat) (E : Env) (hE : Sound Go.Proofs.Try.prog E) : ∀ args h r, u2 (c_slices_ContainsFunc_49de F g E) args h = some r → Tri Go.Proofs.Try.prog 133 args h r := by
  intro args h r e; obtain ⟨a0, a1, rfl, e1⟩ := u2_some e; exact fn_sound Go.Proofs.Try.func133 rfl rfl rfl Go.Proofs.Try.ntmps133 (Sound.add hE (s_slices_IndexFunc_49de F g (D_slices_ContainsFunc_49de F g E) hE)) ((k_slices_ContainsFunc_49de F g E a0 a1 h).trans e1)

-- "loop.example/treenumbers/impl.leads$1"
noncomputable def c_impl_leads_d1 (F g : Nat) (f : AV → AV → H → Option R) (a0 a1 : AV) (h : H) : Option R := aLoad a1 h fun x1 h => bindR (f a0 x1 h) fun x2 h => some (x2, h)
noncomputable def A_impl_leads_d1 : An := (.two .o (.two .o .o))
noncomputable def b_impl_leads_d1 : Code := bodyOf Go.Proofs.Try.f134
theorem k_impl_leads_d1 (F g : Nat) (f : AV → AV → H → Option R) (a0 a1 : AV) (h : H) : callD Go.Proofs.Try.prog (Env.add (fun _ _ _ => none : Env) 101 (u2 f)) 7 F b_impl_leads_d1 [3] A_impl_leads_d1 [a0, a1] h = c_impl_leads_d1 F g f a0 a1 h := by kernel_rfl
theorem s_impl_leads_d1 (F g : Nat) (f : AV → AV → H → Option R) (hf : ∀ args h r, u2 f args h = some r → Tri Go.Proofs.Try.prog 101 args h r) : ∀ args h r, u2 (c_impl_leads_d1 F g f) args h = some r → Tri Go.Proofs.Try.prog 134 args h r := by
  intro args h r e; obtain ⟨a0, a1, rfl, e1⟩ := u2_some e; exact fn_sound Go.Proofs.Try.func134 rfl rfl rfl Go.Proofs.Try.ntmps134 (Sound.add (Sound.none _) hf) ((k_impl_leads_d1 F g f a0 a1 h).trans e1)

-- "loop.example/treenumbers/impl.leads"
noncomputable abbrev D_impl_leads (F g : Nat) (f : AV → AV → H → Option R) (E : Env) : Env := (Env.add E 134 (u2 (c_impl_leads_d1 F g f)))
noncomputable abbrev G_impl_leads (F g : Nat) (f : AV → AV → H → Option R) (E : Env) : Env := (Env.add (Env.add (D_impl_leads F g f E) 52 (u1 (c_impl_PairTurns F g))) 133 (u2 (c_slices_ContainsFunc_49de F g (D_impl_leads F g f E))))
noncomputable def c_impl_leads_j1 (F g : Nat) (vs : List AV) (h : H) : Option R := (fun x7 x8 => aPick x7 (AV.bool true) x8 h fun x9 h => some (x9, h)) (hd vs) (hd (tl vs))
noncomputable def c_impl_leads (F g : Nat) (f : AV → AV → H → Option R) (E : Env) (a0 a1 : AV) (h : H) : Option R := aBox a1 h fun x1 h => bindR (c_impl_PairTurns F g a0 h) fun x2 h => aExtract x2 0 h fun x3 h => aExtract x2 1 h fun x4 h => aLoad x1 h fun x5 h => aCmpS eqL a0 x5 h fun x6 h => guardB false x6 (aMakeF (.func 134) [] [x1] h fun x10 h => bindR (c_slices_ContainsFunc_49de F g (D_impl_leads F g f E) x3 x10 h) fun x11 h => (c_impl_leads_j1 F g) [x6, x11] h) ((c_impl_leads_j1 F g) [x6, (AV.one .tup (AV.leaf .nil))] h)
noncomputable def A_impl_leads : An := (.two .o (.two .o (.two (.at_ [15, 18] .o .o) .o)))
noncomputable def b_impl_leads : Code := bodyOf Go.Proofs.Try.f101
theorem k_impl_leads (F g : Nat) (f : AV → AV → H → Option R) (E : Env) (a0 a1 : AV) (h : H) : callD Go.Proofs.Try.prog (G_impl_leads F g f E) 20 F b_impl_leads [4] A_impl_leads [a0, a1] h = c_impl_leads F g f E a0 a1 h := by kernel_rfl
theorem s_impl_leads (F g : Nat) (f : AV → AV → H → Option R) (hf : ∀ args h r, u2 f args h = some r → Tri Go.Proofs.Try.prog 101 args h r) (E : Env) (hE : Sound Go.Proofs.Try.prog E) : ∀ args h r, u2 (c_impl_leads F g f E) args h = some r → Tri Go.Proofs.Try.prog 101 args h r := by
  intro args h r e; obtain ⟨a0, a1, rfl, e1⟩ := u2_some e; exact fn_sound Go.Proofs.Try.func101 rfl rfl rfl Go.Proofs.Try.ntmps101 (Sound.add (Sound.add (Sound.add hE (s_impl_leads_d1 F g f hf)) (s_impl_PairTurns F g)) (s_slices_ContainsFunc_49de F g (D_impl_leads F g f E) (Sound.add hE (s_impl_leads_d1 F g f hf)))) ((k_impl_leads F g f E a0 a1 h).trans e1)
noncomputable def leadsR (F g : Nat) (E : Env) : Nat → AV → AV → H → Option R := Nat.rec (motive := fun _ => AV → AV → H → Option R) (fun _ _ _ => none) (fun _ r => c_impl_leads F g r E)
theorem s_leadsR (F g : Nat) (E : Env) (hE : Sound Go.Proofs.Try.prog E) : ∀ k, ∀ args h r, u2 (leadsR F g E k) args h = some r → Tri Go.Proofs.Try.prog 101 args h r
  | 0 => fun args h r e => by obtain ⟨a0, a1, rfl, e⟩ := u2_some e; cases e
  | k + 1 => s_impl_leads F g (leadsR F g E k) (s_leadsR F g E hE k) E hE


-- "loop.example/treenumbers/impl.PairBelow"
noncomputable abbrev D_impl_PairBelow (F g : Nat) : Env := (fun _ _ _ => none : Env)
noncomputable def c_impl_PairBelow_j1 (F g : Nat) (vs : List AV) (h : H) : Option R := (fun x7 x8 => aPick x7 x8 (AV.bool false) h fun x9 h => some (x9, h)) (hd vs) (hd (tl vs))
noncomputable def c_impl_PairBelow_j2 (F g : Nat) (vs : List AV) (h : H) : Option R := (fun x2 x3 x4 x5 => aPick x4 x5 (AV.bool false) h fun x6 h => guardB true x6 (bindR (leadsR F g (D_impl_PairBelow F g) 12 x2 x3 h) fun x10 h => (c_impl_PairBelow_j1 F g) [x6, x10] h) ((c_impl_PairBelow_j1 F g) [x6, (AV.one .tup (AV.leaf .nil))] h)) (hd vs) (hd (tl vs)) (hd (tl (tl vs))) (hd (tl (tl (tl vs))))
noncomputable def c_impl_PairBelow (F g : Nat) (a0 a1 : AV) (h : H) : Option R := bindR (c_impl_PairIn F g a0 h) fun x1 h => guardB true x1 (bindR (c_impl_PairIn F g a1 h) fun x11 h => (c_impl_PairBelow_j2 F g) [a0, a1, x1, x11] h) ((c_impl_PairBelow_j2 F g) [a0, a1, x1, (AV.one .tup (AV.leaf .nil))] h)
noncomputable def A_impl_PairBelow : An := (.two .o (.two (.at_ [0, 1, 7, 9] .o (.at_ [11, 14] .o .o)) .o))
noncomputable def b_impl_PairBelow : Code := bodyOf Go.Proofs.Try.f53
theorem k_impl_PairBelow (F g : Nat) (a0 a1 : AV) (h : H) : callD Go.Proofs.Try.prog (Env.add (Env.add (fun _ _ _ => none : Env) 38 (u1 (c_impl_PairIn F g))) 101 (u2 (leadsR F g (D_impl_PairBelow F g) 12))) 16 F b_impl_PairBelow [4] A_impl_PairBelow [a0, a1] h = c_impl_PairBelow F g a0 a1 h := by kernel_rfl
theorem s_impl_PairBelow (F g : Nat) : ∀ args h r, u2 (c_impl_PairBelow F g) args h = some r → Tri Go.Proofs.Try.prog 53 args h r := by
  intro args h r e; obtain ⟨a0, a1, rfl, e1⟩ := u2_some e; exact fn_sound Go.Proofs.Try.func53 rfl rfl rfl Go.Proofs.Try.ntmps53 (Sound.add (Sound.add (Sound.none _) (s_impl_PairIn F g)) (s_leadsR F g (D_impl_PairBelow F g) (Sound.none _) 12)) ((k_impl_PairBelow F g a0 a1 h).trans e1)

-- "loop.example/treenumbers/laws.FnTurn"
noncomputable def c_laws_FnTurn_j1 (F g : Nat) (vs : List AV) (h : H) : Option R := (fun x32 x33 => aPick x32 x33 (AV.bool false) h fun x34 h => some (x34, h)) (hd vs) (hd (tl vs))
noncomputable def c_laws_FnTurn_j2 (F g : Nat) (kc42 : List AV → H → Option R) (vs : List AV) (h : H) : Option R := (fun x54 x55 x56 x57 x58 x59 x60 x61 x62 => aPick x61 (AV.bool true) x62 h fun x63 h => aArith iadd x60 (AV.int 3 (Int.ofNat 1)) h fun x64 h => kc42 [x54, x55, x56, x57, x58, x59, x63, x64] h) (hd vs) (hd (tl vs)) (hd (tl (tl vs))) (hd (tl (tl (tl vs)))) (hd (tl (tl (tl (tl vs))))) (hd (tl (tl (tl (tl (tl vs)))))) (hd (tl (tl (tl (tl (tl (tl vs))))))) (hd (tl (tl (tl (tl (tl (tl (tl vs)))))))) (hd (tl (tl (tl (tl (tl (tl (tl (tl vs)))))))))
noncomputable def c_laws_FnTurn_j3 (F g : Nat) (vs : List AV) (h : H) : Option R := (fun x91 x92 => aPick x91 x92 (AV.bool false) h fun x93 h => some (x93, h)) (hd vs) (hd (tl vs))
noncomputable def c_laws_FnTurn_j4 (F g : Nat) (vs : List AV) (h : H) : Option R := (fun x86 x87 x88 x89 => aPick x88 x89 (AV.bool false) h fun x90 h => guardB true x90 (bindR (c_impl_PairBelow F g x87 x86 h) fun x94 h => aNot x94 h fun x95 h => (c_laws_FnTurn_j3 F g) [x90, x95] h) ((c_laws_FnTurn_j3 F g) [x90, (AV.one .tup (AV.leaf .nil))] h)) (hd vs) (hd (tl vs)) (hd (tl (tl vs))) (hd (tl (tl (tl vs))))
noncomputable def c_laws_FnTurn_j5 (F g : Nat) (vs : List AV) (h : H) : Option R := (fun x81 x82 x83 x84 => aPick x83 x84 (AV.bool false) h fun x85 h => guardB true x85 (bindR (c_impl_PairBelow F g x81 x82 h) fun x96 h => (c_laws_FnTurn_j4 F g) [x81, x82, x85, x96] h) ((c_laws_FnTurn_j4 F g) [x81, x82, x85, (AV.one .tup (AV.leaf .nil))] h)) (hd vs) (hd (tl vs)) (hd (tl (tl vs))) (hd (tl (tl (tl vs))))
noncomputable def c_laws_FnTurn_j6 (F g : Nat) (vs : List AV) (h : H) : Option R := (fun x75 x76 x77 x78 x79 => aPick x78 x79 (AV.bool false) h fun x80 h => guardB true x80 (aCmpI ieq x77 (AV.int 3 (Int.ofNat 1)) h fun x97 h => (c_laws_FnTurn_j5 F g) [x75, x76, x80, x97] h) ((c_laws_FnTurn_j5 F g) [x75, x76, x80, (AV.one .tup (AV.leaf .nil))] h)) (hd vs) (hd (tl vs)) (hd (tl (tl vs))) (hd (tl (tl (tl vs)))) (hd (tl (tl (tl (tl vs)))))
noncomputable def c_laws_FnTurn_j7 (F g : Nat) (vs : List AV) (h : H) : Option R := (fun x68 x69 x70 x71 x72 x73 => aPick x72 x73 (AV.bool false) h fun x74 h => guardB true x74 ((c_laws_FnTurn_j6 F g) [x68, x69, x70, x74, x71] h) ((c_laws_FnTurn_j6 F g) [x68, x69, x70, x74, (AV.one .tup (AV.leaf .nil))] h)) (hd vs) (hd (tl vs)) (hd (tl (tl vs))) (hd (tl (tl (tl vs)))) (hd (tl (tl (tl (tl vs))))) (hd (tl (tl (tl (tl (tl vs))))))
noncomputable def c_laws_FnTurn_l8 (F g : Nat) : List AV → H → (List AV → H → Option R) → Option R := fun vs h kc42 => (fun x43 x44 x45 x46 x47 x48 x49 x50 => aLenK 1 x47 h fun x51 h => aCmpI ilt x50 x51 h fun x52 h => withBool x52 fun t53 => bc t53 (guardB false x49 (aIdxAddr 1 x47 x50 h fun x65 h => aLoad x65 h fun x66 h => aCmpS eqL x66 x44 h fun x67 h => (c_laws_FnTurn_j2 F g kc42) [x43, x44, x45, x46, x47, x48, x50, x49, x67] h) ((c_laws_FnTurn_j2 F g kc42) [x43, x44, x45, x46, x47, x48, x50, x49, (AV.one .tup (AV.leaf .nil))] h)) (guardB true x46 ((c_laws_FnTurn_j7 F g) [x43, x44, x45, x49, x46, x48] h) ((c_laws_FnTurn_j7 F g) [x43, x44, x45, x49, x46, (AV.one .tup (AV.leaf .nil))] h))) (hd vs) (hd (tl vs)) (hd (tl (tl vs))) (hd (tl (tl (tl vs)))) (hd (tl (tl (tl (tl vs))))) (hd (tl (tl (tl (tl (tl vs)))))) (hd (tl (tl (tl (tl (tl (tl vs))))))) (hd (tl (tl (tl (tl (tl (tl (tl vs))))))))
noncomputable def c_laws_FnTurn_j9 (F g : Nat) (vs : List AV) (h : H) : Option R := (fun x22 x23 x24 x25 x26 x27 x28 => aPick x27 (AV.bool true) x28 h fun x29 h => withBool x29 fun t30 => bc t30 (aEq false 0 x24 x26 h fun x31 h => guardB true x31 (aCmpS eqL x23 x25 h fun x35 h => (c_laws_FnTurn_j1 F g) [x31, x35] h) ((c_laws_FnTurn_j1 F g) [x31, (AV.one .tup (AV.leaf .nil))] h)) (bindR (c_impl_PairFar F g x22 x23 h) fun x36 h => aExtract x36 0 h fun x37 h => aExtract x36 1 h fun x38 h => bindR (c_impl_PairTurns F g x22 h) fun x39 h => aExtract x39 0 h fun x40 h => aExtract x39 1 h fun x41 h => loopD F (c_laws_FnTurn_l8 F g) [x22, x23, x37, x38, x40, x41, (AV.bool false), (AV.int 3 (Int.ofNat 0))] h)) (hd vs) (hd (tl vs)) (hd (tl (tl vs))) (hd (tl (tl (tl vs)))) (hd (tl (tl (tl (tl vs))))) (hd (tl (tl (tl (tl (tl vs)))))) (hd (tl (tl (tl (tl (tl (tl vs)))))))
noncomputable def c_laws_FnTurn_j10 (F g : Nat) (vs : List AV) (h : H) : Option R := (fun x14 x15 x16 x17 x18 x19 x20 => aPick x19 (AV.bool true) x20 h fun x21 h => guardB false x21 (aNot x16 h fun x98 h => (c_laws_FnTurn_j9 F g) [x14, x15, x16, x17, x18, x21, x98] h) ((c_laws_FnTurn_j9 F g) [x14, x15, x16, x17, x18, x21, (AV.one .tup (AV.leaf .nil))] h)) (hd vs) (hd (tl vs)) (hd (tl (tl vs))) (hd (tl (tl (tl vs)))) (hd (tl (tl (tl (tl vs))))) (hd (tl (tl (tl (tl (tl vs)))))) (hd (tl (tl (tl (tl (tl (tl vs)))))))
noncomputable def c_laws_FnTurn_r11 (F g : Nat) (x4 : AV) (h : H) : Option R := aExtract x4 0 h fun x5 h => aExtract x4 1 h fun x6 h => bindR (c_impl_PairTurn F g x5 x6 h) fun x7 h => aExtract x7 0 h fun x8 h => aExtract x7 1 h fun x9 h => bindR (c_spec_PairTurn F g x5 x6 h) fun x10 h => aExtract x10 0 h fun x11 h => aExtract x10 1 h fun x12 h => aEq true 0 x9 x12 h fun x13 h => guardB false x13 (aCmpS (fun a b => bnot (eqL a b)) x8 x11 h fun x99 h => (c_laws_FnTurn_j10 F g) [x5, x8, x9, x11, x12, x13, x99] h) ((c_laws_FnTurn_j10 F g) [x5, x8, x9, x11, x12, x13, (AV.one .tup (AV.leaf .nil))] h)
noncomputable def c_laws_FnTurn (F g : Nat) (a0 : AV) (h : H) : Option R := aLenK 1 a0 h fun x1 h => aCmpI (fun a b => ilt b a) x1 (AV.int 3 (Int.ofNat 1048576)) h fun x2 h => withBool x2 fun t3 => bc t3 (some ((AV.bool true), h)) (bindR (c_spec_DrawPairTurn F g a0 h) fun x4 h => c_laws_FnTurn_r11 F g x4 h)
noncomputable def A_laws_FnTurn : An := (.two .o (.two (.two .o (.two (.two .o .o) .o)) (.two .o (.two .o (.two .o (.two (.two (.at_ [3, 5, 6, 7, 8, 38, 41] .o (.at_ [3, 5, 6, 7, 8, 43, 45] .o .o)) (.two (.two (.at_ [50, 53] .o .o) .o) .o)) (.two .o (.two .o (.two .o (.two (.two .o (.two (.at_ [3, 5, 9, 10, 11, 12, 13, 14] (.two (.two .o (.two .o .o)) (.two (.two (.at_ [3, 5, 9, 10, 11, 12, 14, 73, 79] .o .o) .o) .o)) .o) .o)) (.two (.at_ [3, 5, 9, 13, 82, 83] .o (.at_ [3, 5, 9, 85, 86] .o (.at_ [3, 5, 88, 90] .o (.at_ [3, 5, 92, 95] .o (.at_ [97, 101] .o .o))))) .o)))))))))))
noncomputable def b_laws_FnTurn : Code := bodyOf Go.Proofs.Try.f12
theorem k_laws_FnTurn (F g : Nat) (a0 : AV) (h : H) : callD Go.Proofs.Try.prog (Env.add (Env.add (Env.add (Env.add (Env.add (Env.add (fun _ _ _ => none : Env) 48 (u1 (c_spec_DrawPairTurn F g))) 49 (u2 (c_impl_PairTurn F g))) 50 (u2 (c_spec_PairTurn F g))) 51 (u2 (c_impl_PairFar F g))) 52 (u1 (c_impl_PairTurns F g))) 53 (u2 (c_impl_PairBelow F g))) 103 F b_laws_FnTurn [2] A_laws_FnTurn [a0] h = c_laws_FnTurn F g a0 h := by kernel_rfl
theorem s_laws_FnTurn (F g : Nat) : ∀ args h r, u1 (c_laws_FnTurn F g) args h = some r → Tri Go.Proofs.Try.prog 12 args h r := by
  intro args h r e; obtain ⟨a0, rfl, e1⟩ := u1_some e; exact fn_sound Go.Proofs.Try.func12 rfl rfl rfl Go.Proofs.Try.ntmps12 (Sound.add (Sound.add (Sound.add (Sound.add (Sound.add (Sound.add (Sound.none _) (s_spec_DrawPairTurn F g)) (s_impl_PairTurn F g)) (s_spec_PairTurn F g)) (s_impl_PairFar F g)) (s_impl_PairTurns F g)) (s_impl_PairBelow F g)) ((k_laws_FnTurn F g a0 h).trans e1)

end
end Go.AI.T
