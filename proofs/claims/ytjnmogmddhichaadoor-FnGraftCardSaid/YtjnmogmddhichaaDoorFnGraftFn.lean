/- The functions that the law FnGraft reaches, as the evaluator reads them. -/
import Derived.Test.YtjnmogmddhichaaDoorLdg
import Derived.Test.YtjnmogmddhichaaDoorProg
import Derived.KernelRfl
namespace Go.AI
open Go Go.RowKit Go.AI
set_option linter.unusedVariables false
set_option linter.unusedSimpArgs false
set_option maxRecDepth 100000
noncomputable section
-- "loop.example/treenumbers/spec.DrawCutGraft"
noncomputable def C_spec_DrawCutGraft (F g : Nat) (q_spec_l6Open : AV → H → Option R) (q_spec_l91Tree : AV → AV → H → Option R) (q_spec_l6Rd_pick : AV → AV → H → Option R) (a0 : AV) (h : H) : Option R := bindR (q_spec_l6Open a0 h) fun x1 h => bindR (q_spec_l91Tree x1 (AV.int 3 (Int.ofNat 5)) h) fun x2 h => aLenK 0 x2 h fun x3 h => aQuo x3 (AV.int 3 (Int.ofNat 2)) h fun x4 h => bindR (q_spec_l6Rd_pick x1 (AV.int 3 (Int.ofNat 24)) h) fun x5 h => aQuo x5 (AV.int 3 (Int.ofNat 23)) h fun x6 h => aArith iadd x4 x6 h fun x7 h => bindR (q_spec_l6Rd_pick x1 x7 h) fun x8 h => bindR (q_spec_l6Rd_pick x1 (AV.int 3 (Int.ofNat 24)) h) fun x9 h => aQuo x9 (AV.int 3 (Int.ofNat 23)) h fun x10 h => aArith isub x8 x10 h fun x11 h => bindR (q_spec_l91Tree x1 (AV.int 3 (Int.ofNat 4)) h) fun x12 h => some (AV.one .tup (AV.cons x2 (AV.cons x11 (AV.cons x12 (AV.leaf .nil)))), h)
noncomputable def c_spec_DrawCutGraft (F g : Nat) (a0 : AV) (h : H) : Option R := C_spec_DrawCutGraft F g (c_spec_l6Open F g) (c_spec_l91Tree F g) (c_spec_l6Rd_pick F g) a0 h
noncomputable def A_spec_DrawCutGraft : An := (.two .o (.two .o (.two .o (.two .o (.two .o .o)))))
noncomputable def b_spec_DrawCutGraft : Code := bodyOf Go.Proofs.Tryd.f13
theorem K_spec_DrawCutGraft (F g : Nat) (q_spec_l6Open : AV → H → Option R) (q_spec_l91Tree : AV → AV → H → Option R) (q_spec_l6Rd_pick : AV → AV → H → Option R) (a0 : AV) (h : H) : callD Go.Proofs.Tryd.prog (Env.add (Env.add (Env.add (fun _ _ _ => none : Env) 31 (u1 q_spec_l6Open)) 32 (u2 q_spec_l91Tree)) 33 (u2 q_spec_l6Rd_pick)) 29 F b_spec_DrawCutGraft [2, 3, 4] A_spec_DrawCutGraft [a0] h = C_spec_DrawCutGraft F g q_spec_l6Open q_spec_l91Tree q_spec_l6Rd_pick a0 h := by kernel_rfl
theorem k_spec_DrawCutGraft (F g : Nat) (a0 : AV) (h : H) : callD Go.Proofs.Tryd.prog (Env.add (Env.add (Env.add (fun _ _ _ => none : Env) 31 (u1 (c_spec_l6Open F g))) 32 (u2 (c_spec_l91Tree F g))) 33 (u2 (c_spec_l6Rd_pick F g))) 29 F b_spec_DrawCutGraft [2, 3, 4] A_spec_DrawCutGraft [a0] h = c_spec_DrawCutGraft F g a0 h := K_spec_DrawCutGraft F g (c_spec_l6Open F g) (c_spec_l91Tree F g) (c_spec_l6Rd_pick F g) a0 h
theorem s_spec_DrawCutGraft (F g : Nat) : ∀ args h r, u1 (c_spec_DrawCutGraft F g) args h = some r → Tri Go.Proofs.Tryd.prog 13 args h r := by
  intro args h r e; obtain ⟨a0, rfl, e1⟩ := u1_some e; exact fn_sound Go.Proofs.Tryd.func13 rfl rfl rfl Go.Proofs.Tryd.ntmps13 (Sound.add (Sound.add (Sound.add (Sound.none _) (s_spec_l6Open F g)) (s_spec_l91Tree F g)) (s_spec_l6Rd_pick F g)) ((k_spec_DrawCutGraft F g a0 h).trans e1)

end
end Go.AI
namespace Go.AI
open Go Go.RowKit Go.AI
set_option linter.unusedVariables false
set_option linter.unusedSimpArgs false
set_option maxRecDepth 100000
noncomputable section
theorem graft_ok {F g : Nat} {a : AV} {c : Nat} {L : List AV} {h : H} (hF : 10000 < F) (ha : (a = .leaf .nils ∧ c = 0) ∨ a = .osl 1 0 c 1) (h0 : 0 < c → ∃ fl, h.get 1 = .cells fl L) (hb : ∀ i, i < c → ∃ v, L[i]? = some (.int 4 (.ofNat v)) ∧ v < 256) (hn : 2 ≤ h.n) (hlo : 2 ≤ h.lo) :
    ∃ s z t h', (s.length ≤ 300 ∧ (isTree s = true → s.length ≤ 10)) ∧ (z = .negSucc 0 ∨ ∃ j, z = .ofNat j ∧ j ≤ s.length / 2) ∧ (t.length ≤ 300 ∧ (isTree t = true → t.length ≤ 8)) ∧ c_spec_DrawCutGraft F g a h = some ((.one .tup (.cons (.str s s.length) (.cons (.int 3 z) (.cons (.str t t.length) (.leaf .nil))))), h') ∧ 2 ≤ h'.lo := by
  obtain ⟨b, m, h1, e1, r1, _⟩ := open_ok (F := F) (g := g) ha h0 hb hn hlo
  obtain ⟨l, p', h2, g1, g2, g3, r2⟩ := tree_ok' (F := F) (g := g) (n := 5) r1 hF (by omega) (by omega)
  have g1' : l.length ≤ 300 ∧ (isTree l = true → l.length ≤ 10) := g1
  obtain ⟨a3, h3, hv3, e3, r3, _, _⟩ := r2.pick (F := F) (g := g) (n := 24) (by omega) (by omega)
  obtain ⟨a4, h4, hv4, e4, r4, _, _⟩ := r3.pick (F := F) (g := g) (n := l.length / 2 + a3 / 23) (by omega) (by omega)
  obtain ⟨a5, h5, hv5, e5, r5, _, _⟩ := r4.pick (F := F) (g := g) (n := 24) (by omega) (by omega)
  obtain ⟨l2, p2, h6, q1, q2, q3, r6⟩ := tree_ok' (F := F) (g := g) (n := 4) r5 hF (by omega) (by omega)
  have q1' : l2.length ≤ 300 ∧ (isTree l2 = true → l2.length ≤ 8) := q1
  have hlen : ∀ (h : H) (k : AV → H → Option R), aLenK 0 (.str l l.length) h k = k (nI l.length) h := fun h k => rfl
  have run : ∃ z, (z = .negSucc 0 ∨ ∃ j, z = .ofNat j ∧ j ≤ l.length / 2) ∧ ∀ (h : H) (k : AV → H → Option R), aArith isub (nI a4) (nI (a5 / 23)) h k = k (.int 3 z) h := by
    by_cases h01 : a5 / 23 ≤ a4
    · exact ⟨.ofNat (a4 - a5 / 23), .inr ⟨_, rfl, by omega⟩, fun h k => subN h01 (by omega)⟩
    · obtain rfl : a4 = 0 := by omega
      have h1 : a5 / 23 = 1 := by omega
      exact ⟨.negSucc 0, .inl rfl, fun h k => by rw [h1]; rfl⟩
  obtain ⟨z, hz, hrun⟩ := run
  refine ⟨l, z, l2, h6, g1', hz, q1', ?_, r6.lo⟩
  delta c_spec_DrawCutGraft C_spec_DrawCutGraft
  rw [e1, bindR_some', show AV.int 3 (Int.ofNat 5) = nI 5 from rfl, g3, bindR_some', hlen, show AV.int 3 (Int.ofNat 2) = nI 2 from rfl, quoN (by omega) (by omega), show AV.int 3 (Int.ofNat 24) = nI 24 from rfl, e3, bindR_some', show AV.int 3 (Int.ofNat 23) = nI 23 from rfl, quoN (by omega) (by omega), addN (by omega), e4, bindR_some', e5, bindR_some', quoN (by omega) (by omega), hrun, show AV.int 3 (Int.ofNat 4) = nI 4 from rfl, q3, bindR_some']
end
end Go.AI
namespace Go.AI.T
open Go Go.RowKit Go.AI
set_option linter.unusedVariables false
set_option linter.unusedSimpArgs false
set_option maxRecDepth 100000
noncomputable section
def c_spec_DrawCutGraft (F g : Nat) (a0 : AV) (h : H) : Option R := quietC (Go.AI.c_spec_DrawCutGraft 20000 20) a0 h
theorem s_spec_DrawCutGraft (F g : Nat) : ∀ args h r, u1 (c_spec_DrawCutGraft F g) args h = some r → Tri Go.Proofs.Tryd.prog id_spec_DrawCutGraft args h r := quietC_sound (Go.AI.s_spec_DrawCutGraft 20000 20)
theorem draw_FnGraft (F g : Nat) {a0 : AV} {n : Nat} {L : List AV} {B : Blk} (ha : (a0 = .leaf .nils ∧ n = 0) ∨ a0 = .osl 1 0 n 1) (hB : 0 < n → B = .cells 2 L) (hb : ∀ i, i < n → ∃ v, L[i]? = some (.int 4 (.ofNat v)) ∧ v < 256) :
    ∃ s z t, (s.length ≤ 300 ∧ (isTree s = true → s.length ≤ 10)) ∧ (z = .negSucc 0 ∨ ∃ j, z = .ofNat j ∧ j ≤ s.length / 2) ∧ (t.length ≤ 300 ∧ (isTree t = true → t.length ≤ 8)) ∧ c_spec_DrawCutGraft F g a0 (hCode B) = some ((.one .tup (.cons (.str s s.length) (.cons (.int 3 z) (.cons (.str t t.length) (.leaf .nil))))), hCode B) := by
  obtain ⟨s, z, t, h', hs, hz, ht, e, hlo⟩ := graft_ok (F := 20000) (g := 20) (h := hCode B) (by omega) ha (fun hn => ⟨2, hB hn⟩) hb (Nat.le_refl _) (Nat.le_refl _)
  exact ⟨s, z, t, hs, hz, ht, quietC_ok e rfl hlo⟩
end
end Go.AI.T
namespace Go.AI.T
open Go Go.RowKit Go.AI
set_option linter.unusedVariables false
set_option linter.unusedSimpArgs false
set_option maxRecDepth 100000
noncomputable section
-- "(*loop.example/treenumbers/impl.node).nodes"
noncomputable def c_impl_node_nodes_l1 (F g : Nat) (self : AV → H → Option R) : List AV → H → (List AV → H → Option R) → Option R := fun vs h kc6 => (fun x7 x8 x9 x10 => aCmpI ilt x10 x9 h fun x11 h => withBool x11 fun t12 => bc t12 (aIdxAddr 1 x8 x10 h fun x13 h => aLoad x13 h fun x14 h => bindR (self x14 h) fun x15 h => aAppend 1 8 x7 x15 h fun x16 h => aArith iadd x10 (AV.int 3 (Int.ofNat 1)) h fun x17 h => kc6 [x16, x8, x9, x17] h) (some (x7, h))) (hd vs) (hd (tl vs)) (hd (tl (tl vs))) (hd (tl (tl (tl vs))))
noncomputable def c_impl_node_nodes (F g : Nat) : AV → H → Option R := Nat.rec (motive := fun _ => AV → H → Option R) (fun _ _ => none) (fun g self a0 h => aBuildSlice 1 1 [(0, 1, a0)] h fun x1 h => aNilCheck a0 h fun x2 h => aField 2 x2 h fun x3 h => aLoad x3 h fun x4 h => aLenK 1 x4 h fun x5 h => loopD F (c_impl_node_nodes_l1 F g self) [x1, x4, x5, (AV.int 3 (Int.ofNat 0))] h) g
noncomputable def A_impl_node_nodes : An := (.two .o (.two .o (.two (.two .o (.two (.at_ [3, 11, 12, 13] (.two .o (.two (.two .o .o) (.two (.two (.two .o .o) .o) .o))) .o) .o)) (.two .o .o))))
noncomputable def b_impl_node_nodes : Code := bodyOf Go.Proofs.Tryd.f43
theorem k_impl_node_nodes (F g : Nat) (a0 : AV) (h : H) : callD Go.Proofs.Tryd.prog (Env.add (fun _ _ _ => none : Env) 43 (u1 (c_impl_node_nodes F g))) 23 F b_impl_node_nodes [2] A_impl_node_nodes [a0] h = c_impl_node_nodes F (g + 1) a0 h := by kernel_rfl
theorem s_impl_node_nodes (F g : Nat) : ∀ args h r, u1 (c_impl_node_nodes F g) args h = some r → Tri Go.Proofs.Tryd.prog 43 args h r := by
  induction g with
  | zero => intro args h r e; obtain ⟨a0, rfl, e⟩ := u1_some e; cases e
  | succ g ih => intro args h r e; obtain ⟨a0, rfl, e1⟩ := u1_some e; exact fn_sound Go.Proofs.Tryd.func43 rfl rfl rfl Go.Proofs.Tryd.ntmps43 (Sound.add (Sound.none _) ih) ((k_impl_node_nodes F g a0 h).trans e1)

-- "loop.example/treenumbers/impl.nodeIn"
noncomputable def c_impl_nodeIn_j1 (F g : Nat) (vs : List AV) (h : H) : Option R := (fun x10 x11 x12 x13 => aPick x12 (AV.bool true) x13 h fun x14 h => withBool x14 fun t15 => bc t15 (aBuild [(AV.int 3 (Int.ofNat 0))] [(0, 1, x10)] h fun x16 h => aMkIface 74 x16 h fun x17 h => some (AV.one .tup (AV.cons (AV.leaf .nilp) (AV.cons x17 (AV.leaf .nil))), h)) (aIdxAddr 1 x11 x10 h fun x18 h => aLoad x18 h fun x19 h => some (AV.one .tup (AV.cons x19 (AV.cons (AV.leaf .nili) (AV.leaf .nil))), h))) (hd vs) (hd (tl vs)) (hd (tl (tl vs))) (hd (tl (tl (tl vs))))
noncomputable def c_impl_nodeIn (F g : Nat) (a0 a1 : AV) (h : H) : Option R := bindR (c_impl_readTree F g a0 h) fun x1 h => aExtract x1 0 h fun x2 h => aExtract x1 1 h fun x3 h => aNot x3 h fun x4 h => withBool x4 fun t5 => bc t5 (aBuild [(AV.int 3 (Int.ofNat 0))] [(0, 1, a1)] h fun x6 h => aMkIface 74 x6 h fun x7 h => some (AV.one .tup (AV.cons (AV.leaf .nilp) (AV.cons x7 (AV.leaf .nil))), h)) (bindR (c_impl_node_nodes F g x2 h) fun x8 h => aCmpI ilt a1 (AV.int 3 (Int.ofNat 0)) h fun x9 h => guardB false x9 (aLenK 1 x8 h fun x20 h => aCmpI (fun a b => ile b a) a1 x20 h fun x21 h => (c_impl_nodeIn_j1 F g) [a1, x8, x9, x21] h) ((c_impl_nodeIn_j1 F g) [a1, x8, x9, (AV.one .tup (AV.leaf .nil))] h))
noncomputable def A_impl_nodeIn : An := (.two .o (.two .o (.two (.two .o (.two (.two .o .o) .o)) (.two .o (.two (.two (.at_ [1, 8, 23, 27] .o .o) (.two (.two .o .o) .o)) (.two .o .o))))))
noncomputable def b_impl_nodeIn : Code := bodyOf Go.Proofs.Tryd.f34
theorem k_impl_nodeIn (F g : Nat) (a0 a1 : AV) (h : H) : callD Go.Proofs.Tryd.prog (Env.add (Env.add (fun _ _ _ => none : Env) 23 (u1 (c_impl_readTree F g))) 43 (u1 (c_impl_node_nodes F g))) 36 F b_impl_nodeIn [4, 5] A_impl_nodeIn [a0, a1] h = c_impl_nodeIn F g a0 a1 h := by kernel_rfl
theorem s_impl_nodeIn (F g : Nat) : ∀ args h r, u2 (c_impl_nodeIn F g) args h = some r → Tri Go.Proofs.Tryd.prog 34 args h r := by
  intro args h r e; obtain ⟨a0, a1, rfl, e1⟩ := u2_some e; exact fn_sound Go.Proofs.Tryd.func34 rfl rfl rfl Go.Proofs.Tryd.ntmps34 (Sound.add (Sound.add (Sound.none _) (s_impl_readTree F g)) (s_impl_node_nodes F g)) ((k_impl_nodeIn F g a0 a1 h).trans e1)

-- "(*loop.example/treenumbers/impl.node).root"
noncomputable def c_impl_node_root_l1 (F g : Nat) : List AV → H → (List AV → H → Option R) → Option R := fun vs h kc1 => (fun x2 => aNilCheck x2 h fun x3 h => aField 1 x3 h fun x4 h => aLoad x4 h fun x5 h => aEq true 1 x5 (AV.leaf .nilp) h fun x6 h => withBool x6 fun t7 => bc t7 (aNilCheck x2 h fun x8 h => aField 1 x8 h fun x9 h => aLoad x9 h fun x10 h => kc1 [x10] h) (some (x2, h))) (hd vs)
noncomputable def c_impl_node_root (F g : Nat) (a0 : AV) (h : H) : Option R := loopD F (c_impl_node_root_l1 F g) [a0] h
noncomputable def A_impl_node_root : An := (.two .o (.two .o (.two (.two (.at_ [3] (.two (.two .o (.two .o .o)) (.two .o .o)) .o) .o) (.two .o .o))))
noncomputable def b_impl_node_root : Code := bodyOf Go.Proofs.Tryd.f36
theorem k_impl_node_root (F g : Nat) (a0 : AV) (h : H) : callD Go.Proofs.Tryd.prog (fun _ _ _ => none : Env) 15 F b_impl_node_root [2] A_impl_node_root [a0] h = c_impl_node_root F g a0 h := by kernel_rfl
theorem s_impl_node_root (F g : Nat) : ∀ args h r, u1 (c_impl_node_root F g) args h = some r → Tri Go.Proofs.Tryd.prog 36 args h r := by
  intro args h r e; obtain ⟨a0, rfl, e1⟩ := u1_some e; exact fn_sound Go.Proofs.Tryd.func36 rfl rfl rfl Go.Proofs.Tryd.ntmps36 (Sound.none _) ((k_impl_node_root F g a0 h).trans e1)

-- "(*loop.example/treenumbers/impl.node).size"
noncomputable def c_impl_node_size (F g : Nat) (a0 : AV) (h : H) : Option R := bindR (c_impl_node_nodes F g a0 h) fun x1 h => aLenK 1 x1 h fun x2 h => some (x2, h)
noncomputable def A_impl_node_size : An := (.two .o (.two .o .o))
noncomputable def b_impl_node_size : Code := bodyOf Go.Proofs.Tryd.f37
theorem k_impl_node_size (F g : Nat) (a0 : AV) (h : H) : callD Go.Proofs.Tryd.prog (Env.add (fun _ _ _ => none : Env) 43 (u1 (c_impl_node_nodes F g))) 6 F b_impl_node_size [2] A_impl_node_size [a0] h = c_impl_node_size F g a0 h := by kernel_rfl
theorem s_impl_node_size (F g : Nat) : ∀ args h r, u1 (c_impl_node_size F g) args h = some r → Tri Go.Proofs.Tryd.prog 37 args h r := by
  intro args h r e; obtain ⟨a0, rfl, e1⟩ := u1_some e; exact fn_sound Go.Proofs.Tryd.func37 rfl rfl rfl Go.Proofs.Tryd.ntmps37 (Sound.add (Sound.none _) (s_impl_node_nodes F g)) ((k_impl_node_size F g a0 h).trans e1)

-- "(*loop.example/treenumbers/impl.node).text"
noncomputable def c_impl_node_text_l1 (F g : Nat) (self : AV → H → Option R) : List AV → H → (List AV → H → Option R) → Option R := fun vs h kc5 => (fun x6 x7 x8 x9 => aCmpI ilt x9 x8 h fun x10 h => withBool x10 fun t11 => bc t11 (aIdxAddr 1 x7 x9 h fun x12 h => aLoad x12 h fun x13 h => bindR (self x13 h) fun x14 h => aSAdd x6 x14 h fun x15 h => aArith iadd x9 (AV.int 3 (Int.ofNat 1)) h fun x16 h => kc5 [x15, x7, x8, x16] h) (aSAdd x6 (AV.str [41] 1) h fun x17 h => some (x17, h))) (hd vs) (hd (tl vs)) (hd (tl (tl vs))) (hd (tl (tl (tl vs))))
noncomputable def c_impl_node_text (F g : Nat) : AV → H → Option R := Nat.rec (motive := fun _ => AV → H → Option R) (fun _ _ => none) (fun g self a0 h => aNilCheck a0 h fun x1 h => aField 2 x1 h fun x2 h => aLoad x2 h fun x3 h => aLenK 1 x3 h fun x4 h => loopD F (c_impl_node_text_l1 F g self) [(AV.str [40] 1), x3, x4, (AV.int 3 (Int.ofNat 0))] h) g
noncomputable def A_impl_node_text : An := (.two .o (.two .o (.two (.two .o (.two (.at_ [3, 9, 10, 11] (.two .o (.two (.two .o .o) (.two (.two (.two .o .o) .o) .o))) .o) .o)) (.two .o .o))))
noncomputable def b_impl_node_text : Code := bodyOf Go.Proofs.Tryd.f38
theorem k_impl_node_text (F g : Nat) (a0 : AV) (h : H) : callD Go.Proofs.Tryd.prog (Env.add (fun _ _ _ => none : Env) 38 (u1 (c_impl_node_text F g))) 22 F b_impl_node_text [2] A_impl_node_text [a0] h = c_impl_node_text F (g + 1) a0 h := by kernel_rfl
theorem s_impl_node_text (F g : Nat) : ∀ args h r, u1 (c_impl_node_text F g) args h = some r → Tri Go.Proofs.Tryd.prog 38 args h r := by
  induction g with
  | zero => intro args h r e; obtain ⟨a0, rfl, e⟩ := u1_some e; cases e
  | succ g ih => intro args h r e; obtain ⟨a0, rfl, e1⟩ := u1_some e; exact fn_sound Go.Proofs.Tryd.func38 rfl rfl rfl Go.Proofs.Tryd.ntmps38 (Sound.add (Sound.none _) ih) ((k_impl_node_text F g a0 h).trans e1)

-- "loop.example/treenumbers/impl.CutGraft"
noncomputable def c_impl_CutGraft_j1 (F g : Nat) (vs : List AV) (h : H) : Option R := (fun x8 x9 x10 x11 => aPick x10 (AV.bool true) x11 h fun x12 h => withBool x12 fun t13 => bc t13 (some (AV.one .tup (AV.cons (AV.str [] 0) (AV.cons (AV.bool false) (AV.leaf .nil))), h)) (aNilCheck x8 h fun x14 h => aField 2 x14 h fun x15 h => aLoad x15 h fun x16 h => aBuildSlice 1 1 [(0, 1, x9)] h fun x17 h => aAppend 1 8 x16 x17 h fun x18 h => aNilCheck x8 h fun x19 h => aField 2 x19 h fun x20 h => aStore x20 x18 h fun x21 h => bindR (c_impl_node_root F g x8 h) fun x22 h => bindR (c_impl_node_size F g x22 h) fun x23 h => aCmpI (fun a b => ilt b a) x23 (AV.int 3 (Int.ofNat 9)) h fun x24 h => withBool x24 fun t25 => bc t25 (some (AV.one .tup (AV.cons (AV.str [] 0) (AV.cons (AV.bool false) (AV.leaf .nil))), h)) (bindR (c_impl_node_text F g x22 h) fun x26 h => some (AV.one .tup (AV.cons x26 (AV.cons (AV.bool true) (AV.leaf .nil))), h)))) (hd vs) (hd (tl vs)) (hd (tl (tl vs))) (hd (tl (tl (tl vs))))
noncomputable def c_impl_CutGraft (F g : Nat) (a0 a1 a2 : AV) (h : H) : Option R := bindR (c_impl_nodeIn F g a0 a1 h) fun x1 h => aExtract x1 0 h fun x2 h => aExtract x1 1 h fun x3 h => bindR (c_impl_readTree F g a2 h) fun x4 h => aExtract x4 0 h fun x5 h => aExtract x4 1 h fun x6 h => bindR (c_impl_isNoNode F g x3 h) fun x7 h => guardB false x7 (aNot x6 h fun x27 h => (c_impl_CutGraft_j1 F g) [x2, x5, x7, x27] h) ((c_impl_CutGraft_j1 F g) [x2, x5, x7, (AV.one .tup (AV.leaf .nil))] h)
noncomputable def A_impl_CutGraft : An := (.two .o (.two .o (.two .o (.two (.two (.at_ [8, 10, 26, 28] .o .o) (.two (.two .o .o) .o)) (.two .o (.two .o (.two (.two .o (.two (.two .o .o) .o)) (.two .o .o))))))))
noncomputable def b_impl_CutGraft : Code := bodyOf Go.Proofs.Tryd.f14
theorem k_impl_CutGraft (F g : Nat) (a0 a1 a2 : AV) (h : H) : callD Go.Proofs.Tryd.prog (Env.add (Env.add (Env.add (Env.add (Env.add (Env.add (fun _ _ _ => none : Env) 34 (u2 (c_impl_nodeIn F g))) 23 (u1 (c_impl_readTree F g))) 35 (u1 (c_impl_isNoNode F g))) 36 (u1 (c_impl_node_root F g))) 37 (u1 (c_impl_node_size F g))) 38 (u1 (c_impl_node_text F g))) 47 F b_impl_CutGraft [6, 7] A_impl_CutGraft [a0, a1, a2] h = c_impl_CutGraft F g a0 a1 a2 h := by kernel_rfl
theorem s_impl_CutGraft (F g : Nat) : ∀ args h r, u3 (c_impl_CutGraft F g) args h = some r → Tri Go.Proofs.Tryd.prog 14 args h r := by
  intro args h r e; obtain ⟨a0, a1, a2, rfl, e1⟩ := u3_some e; exact fn_sound Go.Proofs.Tryd.func14 rfl rfl rfl Go.Proofs.Tryd.ntmps14 (Sound.add (Sound.add (Sound.add (Sound.add (Sound.add (Sound.add (Sound.none _) (s_impl_nodeIn F g)) (s_impl_readTree F g)) (s_impl_isNoNode F g)) (s_impl_node_root F g)) (s_impl_node_size F g)) (s_impl_node_text F g)) ((k_impl_CutGraft F g a0 a1 a2 h).trans e1)

-- "loop.example/treenumbers/spec.l6In"
noncomputable def c_spec_l6In_j1 (F g : Nat) (vs : List AV) (h : H) : Option R := (fun x2 x3 => aPick x2 x3 (AV.bool false) h fun x4 h => some (x4, h)) (hd vs) (hd (tl vs))
noncomputable def c_spec_l6In (F g : Nat) (a0 a1 a2 : AV) (h : H) : Option R := aCmpI (fun a b => ile b a) a0 a1 h fun x1 h => guardB true x1 (aCmpI ile a0 a2 h fun x5 h => (c_spec_l6In_j1 F g) [x1, x5] h) ((c_spec_l6In_j1 F g) [x1, (AV.one .tup (AV.leaf .nil))] h)
noncomputable def A_spec_l6In : An := (.two .o (.two (.at_ [10, 13] .o .o) .o))
noncomputable def b_spec_l6In : Code := bodyOf Go.Proofs.Tryd.f54
theorem k_spec_l6In (F g : Nat) (a0 a1 a2 : AV) (h : H) : callD Go.Proofs.Tryd.prog (fun _ _ _ => none : Env) 15 F b_spec_l6In [6] A_spec_l6In [a0, a1, a2] h = c_spec_l6In F g a0 a1 a2 h := by kernel_rfl
theorem s_spec_l6In (F g : Nat) : ∀ args h r, u3 (c_spec_l6In F g) args h = some r → Tri Go.Proofs.Tryd.prog 54 args h r := by
  intro args h r e; obtain ⟨a0, a1, a2, rfl, e1⟩ := u3_some e; exact fn_sound Go.Proofs.Tryd.func54 rfl rfl rfl Go.Proofs.Tryd.ntmps54 (Sound.none _) ((k_spec_l6In F g a0 a1 a2 h).trans e1)

-- "loop.example/treenumbers/spec.l1Node"
noncomputable def c_spec_l1Node_j1 (F g : Nat) (vs : List AV) (h : H) : Option R := (fun x2 x3 => aPick x2 x3 (AV.bool false) h fun x4 h => some (x4, h)) (hd vs) (hd (tl vs))
noncomputable def c_spec_l1Node (F g : Nat) (a0 a1 : AV) (h : H) : Option R := bindR (c_spec_TreeIn F g a0 h) fun x1 h => guardB true x1 (aLenK 0 a0 h fun x5 h => aQuo x5 (AV.int 3 (Int.ofNat 2)) h fun x6 h => aArith isub x6 (AV.int 3 (Int.ofNat 1)) h fun x7 h => bindR (c_spec_l6In F g a1 (AV.int 3 (Int.ofNat 0)) x7 h) fun x8 h => (c_spec_l1Node_j1 F g) [x1, x8] h) ((c_spec_l1Node_j1 F g) [x1, (AV.one .tup (AV.leaf .nil))] h)
noncomputable def A_spec_l1Node : An := (.two .o (.two (.at_ [7, 13] .o .o) .o))
noncomputable def b_spec_l1Node : Code := bodyOf Go.Proofs.Tryd.f39
theorem k_spec_l1Node (F g : Nat) (a0 a1 : AV) (h : H) : callD Go.Proofs.Tryd.prog (Env.add (Env.add (fun _ _ _ => none : Env) 26 (u1 (c_spec_TreeIn F g))) 54 (u3 (c_spec_l6In F g))) 15 F b_spec_l1Node [4] A_spec_l1Node [a0, a1] h = c_spec_l1Node F g a0 a1 h := by kernel_rfl
theorem s_spec_l1Node (F g : Nat) : ∀ args h r, u2 (c_spec_l1Node F g) args h = some r → Tri Go.Proofs.Tryd.prog 39 args h r := by
  intro args h r e; obtain ⟨a0, a1, rfl, e1⟩ := u2_some e; exact fn_sound Go.Proofs.Tryd.func39 rfl rfl rfl Go.Proofs.Tryd.ntmps39 (Sound.add (Sound.add (Sound.none _) (s_spec_TreeIn F g)) (s_spec_l6In F g)) ((k_spec_l1Node F g a0 a1 h).trans e1)

-- "loop.example/treenumbers/spec.l1Opens"
noncomputable def c_spec_l1Opens_j1 (F g : Nat) (kc2 : List AV → H → Option R) (vs : List AV) (h : H) : Option R := (fun x9 x10 x11 => aArith iadd x11 (AV.int 3 (Int.ofNat 1)) h fun x12 h => kc2 [x9, x10, x12] h) (hd vs) (hd (tl vs)) (hd (tl (tl vs)))
noncomputable def c_spec_l1Opens_l2 (F g : Nat) : List AV → H → (List AV → H → Option R) → Option R := fun vs h kc2 => (fun x3 x4 x5 => aLenK 0 x3 h fun x6 h => aCmpI ilt x5 x6 h fun x7 h => withBool x7 fun t8 => bc t8 (aIdxStr x3 x5 h fun x13 h => aCmpI ieq x13 (AV.int 4 (Int.ofNat 40)) h fun x14 h => withBool x14 fun t15 => bc t15 (aBuildSlice 1 1 [(0, 1, x5)] h fun x16 h => aAppend 1 8 x4 x16 h fun x17 h => (c_spec_l1Opens_j1 F g kc2) [x3, x17, x5] h) ((c_spec_l1Opens_j1 F g kc2) [x3, x4, x5] h)) (some (x4, h))) (hd vs) (hd (tl vs)) (hd (tl (tl vs)))
noncomputable def c_spec_l1Opens (F g : Nat) (a0 : AV) (h : H) : Option R := aBuildSlice 0 1 [] h fun x1 h => loopD F (c_spec_l1Opens_l2 F g) [a0, x1, (AV.int 3 (Int.ofNat 0))] h
noncomputable def A_spec_l1Opens : An := (.two .o (.two .o (.two (.two .o (.two (.at_ [0, 3, 4] (.two (.two .o (.two .o .o)) (.at_ [0, 3, 4] (.two (.two .o (.two .o .o)) .o) .o)) .o) .o)) (.two .o .o))))
noncomputable def b_spec_l1Opens : Code := bodyOf Go.Proofs.Tryd.f41
theorem k_spec_l1Opens (F g : Nat) (a0 : AV) (h : H) : callD Go.Proofs.Tryd.prog (fun _ _ _ => none : Env) 21 F b_spec_l1Opens [2] A_spec_l1Opens [a0] h = c_spec_l1Opens F g a0 h := by kernel_rfl
theorem s_spec_l1Opens (F g : Nat) : ∀ args h r, u1 (c_spec_l1Opens F g) args h = some r → Tri Go.Proofs.Tryd.prog 41 args h r := by
  intro args h r e; obtain ⟨a0, rfl, e1⟩ := u1_some e; exact fn_sound Go.Proofs.Tryd.func41 rfl rfl rfl Go.Proofs.Tryd.ntmps41 (Sound.none _) ((k_spec_l1Opens F g a0 h).trans e1)

-- "loop.example/treenumbers/spec.l1End"
noncomputable def c_spec_l1End_j1 (F g : Nat) (kc1 : List AV → H → Option R) (vs : List AV) (h : H) : Option R := (fun x8 x9 x10 => aCmpI ieq x9 (AV.int 3 (Int.ofNat 0)) h fun x11 h => withBool x11 fun t12 => bc t12 (aArith iadd x10 (AV.int 3 (Int.ofNat 1)) h fun x13 h => some (x13, h)) (aCmpI ilt x9 (AV.int 3 (Int.ofNat 0)) h fun x14 h => withBool x14 fun t15 => bc t15 (some ((AV.int 3 (Int.negSucc 0)), h)) (aArith iadd x10 (AV.int 3 (Int.ofNat 1)) h fun x16 h => kc1 [x8, x9, x16] h))) (hd vs) (hd (tl vs)) (hd (tl (tl vs)))
noncomputable def c_spec_l1End_l2 (F g : Nat) : List AV → H → (List AV → H → Option R) → Option R := fun vs h kc1 => (fun x2 x3 x4 => aLenK 0 x2 h fun x5 h => aCmpI ilt x4 x5 h fun x6 h => withBool x6 fun t7 => bc t7 (aIdxStr x2 x4 h fun x17 h => aCmpI ieq x17 (AV.int 4 (Int.ofNat 40)) h fun x18 h => withBool x18 fun t19 => bc t19 (aArith iadd x3 (AV.int 3 (Int.ofNat 1)) h fun x20 h => (c_spec_l1End_j1 F g kc1) [x2, x20, x4] h) (aCmpI ieq x17 (AV.int 4 (Int.ofNat 41)) h fun x21 h => withBool x21 fun t22 => bc t22 (aArith isub x3 (AV.int 3 (Int.ofNat 1)) h fun x23 h => (c_spec_l1End_j1 F g kc1) [x2, x23, x4] h) (some ((AV.int 3 (Int.negSucc 0)), h)))) (some ((AV.int 3 (Int.negSucc 0)), h))) (hd vs) (hd (tl vs)) (hd (tl (tl vs)))
noncomputable def c_spec_l1End (F g : Nat) (a0 a1 : AV) (h : H) : Option R := loopD F (c_spec_l1End_l2 F g) [a0, (AV.int 3 (Int.ofNat 0)), a1] h
noncomputable def A_spec_l1End : An := (.two .o (.two .o (.two (.two .o (.two (.at_ [0, 5, 6] (.two (.two .o (.two .o .o)) (.two (.two (.at_ [0, 5, 6] (.two .o (.two (.two .o (.two .o (.two .o (.two .o (.two .o .o))))) .o)) (.two (.two .o (.two (.two .o .o) .o)) (.two .o (.two (.two .o .o) .o)))) .o) .o)) .o) .o)) (.two .o .o))))
noncomputable def b_spec_l1End : Code := bodyOf Go.Proofs.Tryd.f40
theorem k_spec_l1End (F g : Nat) (a0 a1 : AV) (h : H) : callD Go.Proofs.Tryd.prog (fun _ _ _ => none : Env) 31 F b_spec_l1End [4] A_spec_l1End [a0, a1] h = c_spec_l1End F g a0 a1 h := by kernel_rfl
theorem s_spec_l1End (F g : Nat) : ∀ args h r, u2 (c_spec_l1End F g) args h = some r → Tri Go.Proofs.Tryd.prog 40 args h r := by
  intro args h r e; obtain ⟨a0, a1, rfl, e1⟩ := u2_some e; exact fn_sound Go.Proofs.Tryd.func40 rfl rfl rfl Go.Proofs.Tryd.ntmps40 (Sound.none _) ((k_spec_l1End F g a0 a1 h).trans e1)

-- "loop.example/treenumbers/spec.l1Done"
noncomputable def c_spec_l1Done (F g : Nat) (a0 : AV) (h : H) : Option R := bindR (c_spec_TreeIn F g a0 h) fun x1 h => aNot x1 h fun x2 h => withBool x2 fun t3 => bc t3 (some (AV.one .tup (AV.cons (AV.str [] 0) (AV.cons (AV.bool false) (AV.leaf .nil))), h)) (some (AV.one .tup (AV.cons a0 (AV.cons (AV.bool true) (AV.leaf .nil))), h))
noncomputable def A_spec_l1Done : An := (.two .o (.two (.two .o (.two (.two .o .o) .o)) (.two .o .o)))
noncomputable def b_spec_l1Done : Code := bodyOf Go.Proofs.Tryd.f42
theorem k_spec_l1Done (F g : Nat) (a0 : AV) (h : H) : callD Go.Proofs.Tryd.prog (Env.add (fun _ _ _ => none : Env) 26 (u1 (c_spec_TreeIn F g))) 8 F b_spec_l1Done [2, 3] A_spec_l1Done [a0] h = c_spec_l1Done F g a0 h := by kernel_rfl
theorem s_spec_l1Done (F g : Nat) : ∀ args h r, u1 (c_spec_l1Done F g) args h = some r → Tri Go.Proofs.Tryd.prog 42 args h r := by
  intro args h r e; obtain ⟨a0, rfl, e1⟩ := u1_some e; exact fn_sound Go.Proofs.Tryd.func42 rfl rfl rfl Go.Proofs.Tryd.ntmps42 (Sound.add (Sound.none _) (s_spec_TreeIn F g)) ((k_spec_l1Done F g a0 h).trans e1)

-- "loop.example/treenumbers/spec.CutGraft"
noncomputable def c_spec_CutGraft_j1 (F g : Nat) (vs : List AV) (h : H) : Option R := (fun x3 x4 x5 x6 x7 => aPick x6 (AV.bool true) x7 h fun x8 h => withBool x8 fun t9 => bc t9 (some (AV.one .tup (AV.cons (AV.str [] 0) (AV.cons (AV.bool false) (AV.leaf .nil))), h)) (bindR (c_spec_l1Opens F g x3 h) fun x10 h => aIdxAddr 1 x10 x4 h fun x11 h => aLoad x11 h fun x12 h => bindR (c_spec_l1End F g x3 x12 h) fun x13 h => aArith isub x13 (AV.int 3 (Int.ofNat 1)) h fun x14 h => aSliceS x3 none (some x14) none h fun x15 _ => aSAdd x15 x5 h fun x16 _ => aSliceS x3 (some x14) none none h fun x17 _ => aSAdd x16 x17 h fun x18 _ => bindR (c_spec_l1Done F g x18 h) fun x19 h => aExtract x19 0 h fun x20 _ => aExtract x19 1 h fun x21 _ => some (AV.one .tup (AV.cons x20 (AV.cons x21 (AV.leaf .nil))), h))) (hd vs) (hd (tl vs)) (hd (tl (tl vs))) (hd (tl (tl (tl vs)))) (hd (tl (tl (tl (tl vs)))))
noncomputable def c_spec_CutGraft (F g : Nat) (a0 a1 a2 : AV) (h : H) : Option R := bindR (c_spec_l1Node F g a0 a1 h) fun x1 h => aNot x1 h fun x2 h => guardB false x2 (bindR (c_spec_TreeIn F g a2 h) fun x22 h => aNot x22 h fun x23 h => (c_spec_CutGraft_j1 F g) [a0, a1, a2, x2, x23] h) ((c_spec_CutGraft_j1 F g) [a0, a1, a2, x2, (AV.one .tup (AV.leaf .nil))] h)
noncomputable def A_spec_CutGraft : An := (.two .o (.two (.two (.at_ [0, 1, 2, 13, 16] .o .o) (.two (.two .o .o) .o)) (.two .o (.two .o .o))))
noncomputable def b_spec_CutGraft : Code := bodyOf Go.Proofs.Tryd.f15
theorem k_spec_CutGraft (F g : Nat) (a0 a1 a2 : AV) (h : H) : callD Go.Proofs.Tryd.prog (Env.add (Env.add (Env.add (Env.add (Env.add (fun _ _ _ => none : Env) 39 (u2 (c_spec_l1Node F g))) 41 (u1 (c_spec_l1Opens F g))) 40 (u2 (c_spec_l1End F g))) 42 (u1 (c_spec_l1Done F g))) 26 (u1 (c_spec_TreeIn F g))) 38 F b_spec_CutGraft [6, 7] A_spec_CutGraft [a0, a1, a2] h = c_spec_CutGraft F g a0 a1 a2 h := by kernel_rfl
theorem s_spec_CutGraft (F g : Nat) : ∀ args h r, u3 (c_spec_CutGraft F g) args h = some r → Tri Go.Proofs.Tryd.prog 15 args h r := by
  intro args h r e; obtain ⟨a0, a1, a2, rfl, e1⟩ := u3_some e; exact fn_sound Go.Proofs.Tryd.func15 rfl rfl rfl Go.Proofs.Tryd.ntmps15 (Sound.add (Sound.add (Sound.add (Sound.add (Sound.add (Sound.none _) (s_spec_l1Node F g)) (s_spec_l1Opens F g)) (s_spec_l1End F g)) (s_spec_l1Done F g)) (s_spec_TreeIn F g)) ((k_spec_CutGraft F g a0 a1 a2 h).trans e1)

-- "loop.example/treenumbers/impl.TreePart"
noncomputable def c_impl_TreePart_j1 (F g : Nat) (vs : List AV) (h : H) : Option R := (fun x8 x9 x10 x11 => aPick x10 (AV.bool true) x11 h fun x12 h => withBool x12 fun t13 => bc t13 (some (AV.one .tup (AV.cons (AV.str [] 0) (AV.cons (AV.bool false) (AV.leaf .nil))), h)) (aIdxAddr 1 x9 x8 h fun x14 h => aLoad x14 h fun x15 h => bindR (c_impl_node_text F g x15 h) fun x16 h => some (AV.one .tup (AV.cons x16 (AV.cons (AV.bool true) (AV.leaf .nil))), h))) (hd vs) (hd (tl vs)) (hd (tl (tl vs))) (hd (tl (tl (tl vs))))
noncomputable def c_impl_TreePart (F g : Nat) (a0 a1 : AV) (h : H) : Option R := bindR (c_impl_readTree F g a0 h) fun x1 h => aExtract x1 0 h fun x2 h => aExtract x1 1 h fun x3 h => aNot x3 h fun x4 h => withBool x4 fun t5 => bc t5 (some (AV.one .tup (AV.cons (AV.str [] 0) (AV.cons (AV.bool false) (AV.leaf .nil))), h)) (bindR (c_impl_node_nodes F g x2 h) fun x6 h => aCmpI ilt a1 (AV.int 3 (Int.ofNat 0)) h fun x7 h => guardB false x7 (aLenK 1 x6 h fun x17 h => aCmpI (fun a b => ile b a) a1 x17 h fun x18 h => (c_impl_TreePart_j1 F g) [a1, x6, x7, x18] h) ((c_impl_TreePart_j1 F g) [a1, x6, x7, (AV.one .tup (AV.leaf .nil))] h))
noncomputable def A_impl_TreePart : An := (.two .o (.two .o (.two (.two .o (.two (.two .o .o) .o)) (.two .o (.two (.two (.at_ [1, 8, 20, 24] .o .o) (.two (.two .o .o) .o)) (.two .o .o))))))
noncomputable def b_impl_TreePart : Code := bodyOf Go.Proofs.Tryd.f16
theorem k_impl_TreePart (F g : Nat) (a0 a1 : AV) (h : H) : callD Go.Proofs.Tryd.prog (Env.add (Env.add (Env.add (fun _ _ _ => none : Env) 23 (u1 (c_impl_readTree F g))) 43 (u1 (c_impl_node_nodes F g))) 38 (u1 (c_impl_node_text F g))) 31 F b_impl_TreePart [4, 5] A_impl_TreePart [a0, a1] h = c_impl_TreePart F g a0 a1 h := by kernel_rfl
theorem s_impl_TreePart (F g : Nat) : ∀ args h r, u2 (c_impl_TreePart F g) args h = some r → Tri Go.Proofs.Tryd.prog 16 args h r := by
  intro args h r e; obtain ⟨a0, a1, rfl, e1⟩ := u2_some e; exact fn_sound Go.Proofs.Tryd.func16 rfl rfl rfl Go.Proofs.Tryd.ntmps16 (Sound.add (Sound.add (Sound.add (Sound.none _) (s_impl_readTree F g)) (s_impl_node_nodes F g)) (s_impl_node_text F g)) ((k_impl_TreePart F g a0 a1 h).trans e1)

-- "slices.IndexFunc[[]*loop.example/treenumbers/impl.node,*loop.example/treenumbers/impl.node]"
noncomputable abbrev D_slices_IndexFunc_4168 (F g : Nat) (E : Env) : Env := E
noncomputable abbrev G_slices_IndexFunc_4168 (F g : Nat) (E : Env) : Env := (D_slices_IndexFunc_4168 F g E)
noncomputable def c_slices_IndexFunc_4168_l1 (F g : Nat) (E : Env) : List AV → H → (List AV → H → Option R) → Option R := fun vs h kc2 => (fun x3 x4 x5 x6 => aCmpI ilt x6 x5 h fun x7 h => withBool x7 fun t8 => bc t8 (aIdxAddr 1 x3 x6 h fun x9 h => aLoad x9 h fun x10 h => dCall (G_slices_IndexFunc_4168 F g E) x4 [x10] h fun x11 h => withBool x11 fun t12 => bc t12 (some (x6, h)) (aArith iadd x6 (AV.int 3 (Int.ofNat 1)) h fun x13 h => kc2 [x3, x4, x5, x13] h)) (some ((AV.int 3 (Int.negSucc 0)), h))) (hd vs) (hd (tl vs)) (hd (tl (tl vs))) (hd (tl (tl (tl vs))))
noncomputable def c_slices_IndexFunc_4168 (F g : Nat) (E : Env) (a0 a1 : AV) (h : H) : Option R := aLenK 1 a0 h fun x1 h => loopD F (c_slices_IndexFunc_4168_l1 F g E) [a0, a1, x1, (AV.int 3 (Int.ofNat 0))] h
noncomputable def A_slices_IndexFunc_4168 : An := (.two .o (.two (.two .o (.two (.at_ [0, 1, 7, 8] (.two .o (.two (.two .o .o) (.two (.two (.two .o (.two .o (.two (.two .o .o) .o))) .o) .o))) .o) .o)) (.two .o .o)))
noncomputable def b_slices_IndexFunc_4168 : Code := bodyOf Go.Proofs.Tryd.f55
theorem k_slices_IndexFunc_4168 (F g : Nat) (E : Env) (a0 a1 : AV) (h : H) : callD Go.Proofs.Tryd.prog (G_slices_IndexFunc_4168 F g E) 19 F b_slices_IndexFunc_4168 [4] A_slices_IndexFunc_4168 [a0, a1] h = c_slices_IndexFunc_4168 F g E a0 a1 h := by kernel_rfl
theorem s_slices_IndexFunc_4168 (F g : Nat) (E : Env) (hE : Sound Go.Proofs.Tryd.prog E) : ∀ args h r, u2 (c_slices_IndexFunc_4168 F g E) args h = some r → Tri Go.Proofs.Tryd.prog 55 args h r := by
  intro args h r e; obtain ⟨a0, a1, rfl, e1⟩ := u2_some e; exact fn_sound Go.Proofs.Tryd.func55 rfl rfl rfl Go.Proofs.Tryd.ntmps55 hE ((k_slices_IndexFunc_4168 F g E a0 a1 h).trans e1)

-- "slices.DeleteFunc[[]*loop.example/treenumbers/impl.node,*loop.example/treenumbers/impl.node]"
noncomputable abbrev D_slices_DeleteFunc_4168 (F g : Nat) (E : Env) : Env := E
noncomputable abbrev G_slices_DeleteFunc_4168 (F g : Nat) (E : Env) : Env := (Env.add (D_slices_DeleteFunc_4168 F g E) 55 (u2 (c_slices_IndexFunc_4168 F g (D_slices_DeleteFunc_4168 F g E))))
noncomputable def c_slices_DeleteFunc_4168_j1 (F g : Nat) (kc5 : List AV → H → Option R) (vs : List AV) (h : H) : Option R := (fun x13 x14 x15 x16 => aArith iadd x16 (AV.int 3 (Int.ofNat 1)) h fun x17 h => kc5 [x13, x14, x15, x17] h) (hd vs) (hd (tl vs)) (hd (tl (tl vs))) (hd (tl (tl (tl vs))))
noncomputable def c_slices_DeleteFunc_4168_l2 (F g : Nat) (E : Env) : List AV → H → (List AV → H → Option R) → Option R := fun vs h kc5 => (fun x6 x7 x8 x9 => aLenK 1 x6 h fun x10 h => aCmpI ilt x9 x10 h fun x11 h => withBool x11 fun t12 => bc t12 (aIdxAddr 1 x6 x9 h fun x18 h => aLoad x18 h fun x19 h => dCall (G_slices_DeleteFunc_4168 F g E) x7 [x19] h fun x20 h => aNot x20 h fun x21 h => withBool x21 fun t22 => bc t22 (aIdxAddr 1 x6 x8 h fun x23 h => aStore x23 x19 h fun x24 h => aArith iadd x8 (AV.int 3 (Int.ofNat 1)) h fun x25 h => (c_slices_DeleteFunc_4168_j1 F g kc5) [x6, x7, x25, x9] h) ((c_slices_DeleteFunc_4168_j1 F g kc5) [x6, x7, x8, x9] h)) (aSliceV 1 x6 (some x8) none none h fun x26 h => aClearS 1 [(AV.leaf .nilp)] x26 h fun x27 h => aSliceV 1 x6 none (some x8) none h fun x28 h => some (x28, h))) (hd vs) (hd (tl vs)) (hd (tl (tl vs))) (hd (tl (tl (tl vs))))
noncomputable def c_slices_DeleteFunc_4168 (F g : Nat) (E : Env) (a0 a1 : AV) (h : H) : Option R := bindR (c_slices_IndexFunc_4168 F g (D_slices_DeleteFunc_4168 F g E) a0 a1 h) fun x1 h => aCmpI ieq x1 (AV.int 3 (Int.negSucc 0)) h fun x2 h => withBool x2 fun t3 => bc t3 (some (a0, h)) (aArith iadd x1 (AV.int 3 (Int.ofNat 1)) h fun x4 h => loopD F (c_slices_DeleteFunc_4168_l2 F g E) [a0, a1, x1, x4] h)
noncomputable def A_slices_DeleteFunc_4168 : An := (.two .o (.two .o (.two (.two .o (.two (.two .o .o) .o)) (.two (.two .o (.two (.at_ [0, 1, 5, 6] (.two (.two .o (.two .o .o)) (.at_ [0, 1, 5, 6] (.two (.two .o (.two .o (.two (.two .o .o) .o))) .o) .o)) .o) .o)) (.two .o (.two .o .o))))))
noncomputable def b_slices_DeleteFunc_4168 : Code := bodyOf Go.Proofs.Tryd.f44
theorem k_slices_DeleteFunc_4168 (F g : Nat) (E : Env) (a0 a1 : AV) (h : H) : callD Go.Proofs.Tryd.prog (G_slices_DeleteFunc_4168 F g E) 42 F b_slices_DeleteFunc_4168 [4] A_slices_DeleteFunc_4168 [a0, a1] h = c_slices_DeleteFunc_4168 F g E a0 a1 h := by kernel_rfl
theorem s_slices_DeleteFunc_4168 (F g : Nat) (E : Env) (hE : Sound Go.Proofs.Tryd.prog E) : ∀ args h r, u2 (c_slices_DeleteFunc_4168 F g E) args h = some r → Tri Go.Proofs.Tryd.prog 44 args h r := by
  intro args h r e; obtain ⟨a0, a1, rfl, e1⟩ := u2_some e; exact fn_sound Go.Proofs.Tryd.func44 rfl rfl rfl Go.Proofs.Tryd.ntmps44 (Sound.add hE (s_slices_IndexFunc_4168 F g (D_slices_DeleteFunc_4168 F g E) hE)) ((k_slices_DeleteFunc_4168 F g E a0 a1 h).trans e1)

-- "loop.example/treenumbers/impl.CutPrune$1"
noncomputable def c_impl_CutPrune_d1 (F g : Nat) (a0 a1 : AV) (h : H) : Option R := aLoad a1 h fun x1 h => aEq false 1 a0 x1 h fun x2 h => some (x2, h)
noncomputable def A_impl_CutPrune_d1 : An := (.two .o (.two .o .o))
noncomputable def b_impl_CutPrune_d1 : Code := bodyOf Go.Proofs.Tryd.f45
theorem k_impl_CutPrune_d1 (F g : Nat) (a0 a1 : AV) (h : H) : callD Go.Proofs.Tryd.prog (fun _ _ _ => none : Env) 7 F b_impl_CutPrune_d1 [3] A_impl_CutPrune_d1 [a0, a1] h = c_impl_CutPrune_d1 F g a0 a1 h := by kernel_rfl
theorem s_impl_CutPrune_d1 (F g : Nat) : ∀ args h r, u2 (c_impl_CutPrune_d1 F g) args h = some r → Tri Go.Proofs.Tryd.prog 45 args h r := by
  intro args h r e; obtain ⟨a0, a1, rfl, e1⟩ := u2_some e; exact fn_sound Go.Proofs.Tryd.func45 rfl rfl rfl Go.Proofs.Tryd.ntmps45 (Sound.none _) ((k_impl_CutPrune_d1 F g a0 a1 h).trans e1)

-- "loop.example/treenumbers/impl.CutPrune"
noncomputable abbrev D_impl_CutPrune (F g : Nat) (E : Env) : Env := (Env.add E 45 (u2 (c_impl_CutPrune_d1 F g)))
noncomputable abbrev G_impl_CutPrune (F g : Nat) (E : Env) : Env := (Env.add (Env.add (Env.add (Env.add (Env.add (D_impl_CutPrune F g E) 34 (u2 (c_impl_nodeIn F g))) 35 (u1 (c_impl_isNoNode F g))) 44 (u2 (c_slices_DeleteFunc_4168 F g (D_impl_CutPrune F g E)))) 36 (u1 (c_impl_node_root F g))) 38 (u1 (c_impl_node_text F g)))
noncomputable def c_impl_CutPrune_j1 (F g : Nat) (E : Env) (vs : List AV) (h : H) : Option R := (fun x7 x8 x9 => aPick x8 (AV.bool true) x9 h fun x10 h => withBool x10 fun t11 => bc t11 (some (AV.one .tup (AV.cons (AV.str [] 0) (AV.cons (AV.bool false) (AV.leaf .nil))), h)) ((fun W12 => aLoadW W12 x7 h fun x13 h => aNilCheck x13 h fun x14 _ => bc (okW W12 h) (aField 1 x14 h fun x15 _ => bc (okW W12 h) (aLoadW W12 x15 h fun x16 h => aLoadW W12 x7 h fun x17 h => aNilCheck x17 h fun x18 _ => bc (okW W12 h) (aField 1 x18 h fun x19 _ => bc (okW W12 h) (aLoadW W12 x19 h fun x20 h => aNilCheck x20 h fun x21 _ => bc (okW W12 h) (aField 2 x21 h fun x22 _ => bc (okW W12 h) (aLoad x22 h fun x23 _ => bc (okW W12 h) (aMakeF (.func 45) [] [x7] h fun x24 _ => bc (okW W12 h) (bindR (c_slices_DeleteFunc_4168 F g (D_impl_CutPrune F g E) x23 x24 h) fun x25 h => bc (okW W12 h) (aNilCheck x16 h fun x26 _ => bc (okW W12 h) (aField 2 x26 h fun x27 _ => bc (okW W12 h) (aStore x27 x25 h fun x28 h => bc (okW W12 h) (aLoad x7 h fun x29 h => bindR (c_impl_node_root F g x29 h) fun x30 h => bindR (c_impl_node_text F g x30 h) fun x31 h => some (AV.one .tup (AV.cons x31 (AV.cons (AV.bool true) (AV.leaf .nil))), h)) none) none) none) none) none) none) none) none) none) none) none) none) (watchN h 2 [x7, (AV.leaf .undef), (AV.leaf .undef), x7, (AV.leaf .undef), (AV.leaf .undef), (AV.leaf .undef), (AV.leaf .undef), (AV.leaf .undef)]))) (hd vs) (hd (tl vs)) (hd (tl (tl vs)))
noncomputable def c_impl_CutPrune (F g : Nat) (E : Env) (a0 a1 : AV) (h : H) : Option R := bindR (c_impl_nodeIn F g a0 a1 h) fun x1 h => aExtract x1 0 h fun x2 h => aExtract x1 1 h fun x3 h => aAlloc [(AV.leaf .nilp)] h fun x4 h => aStore x4 x2 h fun x5 h => bindR (c_impl_isNoNode F g x3 h) fun x6 h => guardB false x6 (aLoad x4 h fun x32 h => aNilCheck x32 h fun x33 h => aField 1 x33 h fun x34 h => aLoad x34 h fun x35 h => aEq false 1 x35 (AV.leaf .nilp) h fun x36 h => (c_impl_CutPrune_j1 F g E) [x4, x6, x36] h) ((c_impl_CutPrune_j1 F g E) [x4, x6, (AV.one .tup (AV.leaf .nil))] h)
noncomputable def A_impl_CutPrune : An := (.two .o (.two .o (.two (.two (.at_ [6, 16, 21] .o .o) (.two (.two .o .o) .o)) (.two .o (.two .o .o)))))
noncomputable def b_impl_CutPrune : Code := bodyOf Go.Proofs.Tryd.f17
theorem k_impl_CutPrune (F g : Nat) (E : Env) (a0 a1 : AV) (h : H) : callD Go.Proofs.Tryd.prog (G_impl_CutPrune F g E) 41 F b_impl_CutPrune [4, 5] A_impl_CutPrune [a0, a1] h = c_impl_CutPrune F g E a0 a1 h := by kernel_rfl
theorem s_impl_CutPrune (F g : Nat) (E : Env) (hE : Sound Go.Proofs.Tryd.prog E) : ∀ args h r, u2 (c_impl_CutPrune F g E) args h = some r → Tri Go.Proofs.Tryd.prog 17 args h r := by
  intro args h r e; obtain ⟨a0, a1, rfl, e1⟩ := u2_some e; exact fn_sound Go.Proofs.Tryd.func17 rfl rfl rfl Go.Proofs.Tryd.ntmps17 (Sound.add (Sound.add (Sound.add (Sound.add (Sound.add (Sound.add hE (s_impl_CutPrune_d1 F g)) (s_impl_nodeIn F g)) (s_impl_isNoNode F g)) (s_slices_DeleteFunc_4168 F g (D_impl_CutPrune F g E) (Sound.add hE (s_impl_CutPrune_d1 F g)))) (s_impl_node_root F g)) (s_impl_node_text F g)) ((k_impl_CutPrune F g E a0 a1 h).trans e1)

-- "loop.example/treenumbers/laws.FnGraft"
noncomputable abbrev D_laws_FnGraft (F g : Nat) : Env := (fun _ _ _ => none : Env)
noncomputable def c_laws_FnGraft_j1 (F g : Nat) (vs : List AV) (h : H) : Option R := (fun x37 x38 => aPick x37 x38 (AV.bool false) h fun x39 h => some (x39, h)) (hd vs) (hd (tl vs))
noncomputable def c_laws_FnGraft_j2 (F g : Nat) (vs : List AV) (h : H) : Option R := (fun x82 x83 => aPick x82 x83 (AV.bool false) h fun x84 h => some (x84, h)) (hd vs) (hd (tl vs))
noncomputable def c_laws_FnGraft_j3 (F g : Nat) (vs : List AV) (h : H) : Option R := (fun x77 x78 x79 x80 => aPick x79 x80 (AV.bool false) h fun x81 h => guardB true x81 (aCmpS eqL x78 x77 h fun x85 h => (c_laws_FnGraft_j2 F g) [x81, x85] h) ((c_laws_FnGraft_j2 F g) [x81, (AV.one .tup (AV.leaf .nil))] h)) (hd vs) (hd (tl vs)) (hd (tl (tl vs))) (hd (tl (tl (tl vs))))
noncomputable def c_laws_FnGraft_j4 (F g : Nat) (vs : List AV) (h : H) : Option R := (fun x70 x71 x72 x73 x74 x75 => aPick x74 x75 (AV.bool false) h fun x76 h => guardB true x76 (aCmpS eqL x72 x71 h fun x86 h => (c_laws_FnGraft_j3 F g) [x70, x73, x76, x86] h) ((c_laws_FnGraft_j3 F g) [x70, x73, x76, (AV.one .tup (AV.leaf .nil))] h)) (hd vs) (hd (tl vs)) (hd (tl (tl vs))) (hd (tl (tl (tl vs)))) (hd (tl (tl (tl (tl vs))))) (hd (tl (tl (tl (tl (tl vs))))))
noncomputable def c_laws_FnGraft_j5 (F g : Nat) (vs : List AV) (h : H) : Option R := (fun x62 x63 x64 x65 x66 x67 x68 => aPick x67 x68 (AV.bool false) h fun x69 h => guardB true x69 (aLenK 0 x64 h fun x87 h => aLenK 0 x62 h fun x88 h => aLenK 0 x63 h fun x89 h => aArith iadd x88 x89 h fun x90 h => aCmpI ieq x87 x90 h fun x91 h => (c_laws_FnGraft_j4 F g) [x62, x63, x65, x66, x69, x91] h) ((c_laws_FnGraft_j4 F g) [x62, x63, x65, x66, x69, (AV.one .tup (AV.leaf .nil))] h)) (hd vs) (hd (tl vs)) (hd (tl (tl vs))) (hd (tl (tl (tl vs)))) (hd (tl (tl (tl (tl vs))))) (hd (tl (tl (tl (tl (tl vs)))))) (hd (tl (tl (tl (tl (tl (tl vs)))))))
noncomputable def c_laws_FnGraft_j6 (F g : Nat) (vs : List AV) (h : H) : Option R := (fun x53 x54 x55 x56 x57 x58 x59 x60 => aPick x59 x60 (AV.bool false) h fun x61 h => guardB true x61 ((c_laws_FnGraft_j5 F g) [x53, x54, x55, x56, x57, x61, x58] h) ((c_laws_FnGraft_j5 F g) [x53, x54, x55, x56, x57, x61, (AV.one .tup (AV.leaf .nil))] h)) (hd vs) (hd (tl vs)) (hd (tl (tl vs))) (hd (tl (tl (tl vs)))) (hd (tl (tl (tl (tl vs))))) (hd (tl (tl (tl (tl (tl vs)))))) (hd (tl (tl (tl (tl (tl (tl vs))))))) (hd (tl (tl (tl (tl (tl (tl (tl vs))))))))
noncomputable def c_laws_FnGraft_j7 (F g : Nat) (vs : List AV) (h : H) : Option R := (fun x25 x26 x27 x28 x29 x30 x31 x32 x33 => aPick x32 (AV.bool true) x33 h fun x34 h => withBool x34 fun t35 => bc t35 (aEq false 0 x29 x31 h fun x36 h => guardB true x36 (aCmpS eqL x28 x30 h fun x40 h => (c_laws_FnGraft_j1 F g) [x36, x40] h) ((c_laws_FnGraft_j1 F g) [x36, (AV.one .tup (AV.leaf .nil))] h)) (bindR (c_impl_TreePart F g x25 x26 h) fun x41 h => aExtract x41 0 h fun x42 h => aExtract x41 1 h fun x43 h => aLenK 0 x42 h fun x44 h => aQuo x44 (AV.int 3 (Int.ofNat 2)) h fun x45 h => aArith iadd x26 x45 h fun x46 h => bindR (c_impl_TreePart F g x28 x46 h) fun x47 h => aExtract x47 0 h fun x48 h => aExtract x47 1 h fun x49 h => bindR (c_impl_CutPrune F g (D_laws_FnGraft F g) x28 x46 h) fun x50 h => aExtract x50 0 h fun x51 h => aExtract x50 1 h fun x52 h => guardB true x43 ((c_laws_FnGraft_j6 F g) [x25, x27, x28, x48, x51, x52, x43, x49] h) ((c_laws_FnGraft_j6 F g) [x25, x27, x28, x48, x51, x52, x43, (AV.one .tup (AV.leaf .nil))] h))) (hd vs) (hd (tl vs)) (hd (tl (tl vs))) (hd (tl (tl (tl vs)))) (hd (tl (tl (tl (tl vs))))) (hd (tl (tl (tl (tl (tl vs)))))) (hd (tl (tl (tl (tl (tl (tl vs))))))) (hd (tl (tl (tl (tl (tl (tl (tl vs)))))))) (hd (tl (tl (tl (tl (tl (tl (tl (tl vs)))))))))
noncomputable def c_laws_FnGraft_j8 (F g : Nat) (vs : List AV) (h : H) : Option R := (fun x15 x16 x17 x18 x19 x20 x21 x22 x23 => aPick x22 (AV.bool true) x23 h fun x24 h => guardB false x24 (aNot x19 h fun x92 h => (c_laws_FnGraft_j7 F g) [x15, x16, x17, x18, x19, x20, x21, x24, x92] h) ((c_laws_FnGraft_j7 F g) [x15, x16, x17, x18, x19, x20, x21, x24, (AV.one .tup (AV.leaf .nil))] h)) (hd vs) (hd (tl vs)) (hd (tl (tl vs))) (hd (tl (tl (tl vs)))) (hd (tl (tl (tl (tl vs))))) (hd (tl (tl (tl (tl (tl vs)))))) (hd (tl (tl (tl (tl (tl (tl vs))))))) (hd (tl (tl (tl (tl (tl (tl (tl vs)))))))) (hd (tl (tl (tl (tl (tl (tl (tl (tl vs)))))))))
noncomputable def c_laws_FnGraft_r9 (F g : Nat) (x4 : AV) (h : H) : Option R := aExtract x4 0 h fun x5 h => aExtract x4 1 h fun x6 h => aExtract x4 2 h fun x7 h => bindR (c_impl_CutGraft F g x5 x6 x7 h) fun x8 h => aExtract x8 0 h fun x9 h => aExtract x8 1 h fun x10 h => bindR (c_spec_CutGraft F g x5 x6 x7 h) fun x11 h => aExtract x11 0 h fun x12 h => aExtract x11 1 h fun x13 h => aEq true 0 x10 x13 h fun x14 h => guardB false x14 (aCmpS (fun a b => bnot (eqL a b)) x9 x12 h fun x93 h => (c_laws_FnGraft_j8 F g) [x5, x6, x7, x9, x10, x12, x13, x14, x93] h) ((c_laws_FnGraft_j8 F g) [x5, x6, x7, x9, x10, x12, x13, x14, (AV.one .tup (AV.leaf .nil))] h)
noncomputable def c_laws_FnGraft (F g : Nat) (a0 : AV) (h : H) : Option R := aLenK 1 a0 h fun x1 h => aCmpI (fun a b => ilt b a) x1 (AV.int 3 (Int.ofNat 1048576)) h fun x2 h => withBool x2 fun t3 => bc t3 (some ((AV.bool true), h)) (bindR (c_spec_DrawCutGraft F g a0 h) fun x4 h => c_laws_FnGraft_r9 F g x4 h)
noncomputable def A_laws_FnGraft : An := (.two .o (.two (.two .o (.two (.two .o .o) .o)) (.two .o (.two .o (.two .o (.two (.two (.at_ [3, 4, 5, 6, 7, 8, 9, 43, 46] .o (.at_ [3, 4, 5, 6, 7, 8, 9, 48, 50] .o .o)) (.two (.two (.at_ [55, 58] .o .o) .o) .o)) (.two .o (.two .o (.two .o (.two .o (.two (.at_ [3, 5, 6, 13, 15, 16, 84, 85] .o (.at_ [3, 5, 6, 13, 15, 87, 88] .o (.at_ [3, 5, 13, 15, 90, 98] .o (.at_ [3, 15, 100, 103] .o (.at_ [105, 108] .o .o))))) .o)))))))))))
noncomputable def b_laws_FnGraft : Code := bodyOf Go.Proofs.Tryd.f4
theorem k_laws_FnGraft (F g : Nat) (a0 : AV) (h : H) : callD Go.Proofs.Tryd.prog (Env.add (Env.add (Env.add (Env.add (Env.add (fun _ _ _ => none : Env) 13 (u1 (c_spec_DrawCutGraft F g))) 14 (u3 (c_impl_CutGraft F g))) 15 (u3 (c_spec_CutGraft F g))) 16 (u2 (c_impl_TreePart F g))) 17 (u2 (c_impl_CutPrune F g (D_laws_FnGraft F g)))) 110 F b_laws_FnGraft [2] A_laws_FnGraft [a0] h = c_laws_FnGraft F g a0 h := by kernel_rfl
theorem s_laws_FnGraft (F g : Nat) : ∀ args h r, u1 (c_laws_FnGraft F g) args h = some r → Tri Go.Proofs.Tryd.prog 4 args h r := by
  intro args h r e; obtain ⟨a0, rfl, e1⟩ := u1_some e; exact fn_sound Go.Proofs.Tryd.func4 rfl rfl rfl Go.Proofs.Tryd.ntmps4 (Sound.add (Sound.add (Sound.add (Sound.add (Sound.add (Sound.none _) (s_spec_DrawCutGraft F g)) (s_impl_CutGraft F g)) (s_spec_CutGraft F g)) (s_impl_TreePart F g)) (s_impl_CutPrune F g (D_laws_FnGraft F g) (Sound.none _))) ((k_laws_FnGraft F g a0 h).trans e1)

end
end Go.AI.T
