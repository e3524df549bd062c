/- The functions that the law FnLevelsPlace reaches, as the evaluator reads them. -/
import Derived.Test.YtfafaadfnhhfhaaRaw
import Derived.Test.YtfafaadfnhhfhaaLvGiv
import Derived.Test.YtfafaadfnhhfhaaOrd
import Derived.Test.YtfafaadfnhhfhaaProg
import Derived.KernelRfl
namespace Go.AI.O
open Go Go.RowKit Go.AI
set_option linter.unusedVariables false
set_option linter.unusedSimpArgs false
set_option maxRecDepth 100000
noncomputable section
-- "loop.example/treenumbers/spec.DrawLevelsPlace"
noncomputable def c_spec_DrawLevelsPlace (F g : Nat) (a0 : AV) (h : H) : Option R := bindR (c_spec_l91Order F g a0 h) fun x1 h => some (x1, h)
noncomputable def A_spec_DrawLevelsPlace : An := (.two .o (.two .o .o))
noncomputable def b_spec_DrawLevelsPlace : Code := bodyOf Go.Proofs.Try.f65
theorem k_spec_DrawLevelsPlace (F g : Nat) (a0 : AV) (h : H) : callD Go.Proofs.Try.prog (Env.add (fun _ _ _ => none : Env) 116 (u1 (c_spec_l91Order F g))) 5 F b_spec_DrawLevelsPlace [2] A_spec_DrawLevelsPlace [a0] h = c_spec_DrawLevelsPlace F g a0 h := by kernel_rfl
theorem s_spec_DrawLevelsPlace (F g : Nat) : ∀ args h r, u1 (c_spec_DrawLevelsPlace F g) args h = some r → Tri Go.Proofs.Try.prog 65 args h r := by
  intro args h r e; obtain ⟨a0, rfl, e1⟩ := u1_some e; exact fn_sound Go.Proofs.Try.func65 rfl rfl rfl Go.Proofs.Try.ntmps65 (Sound.add (Sound.none _) (s_spec_l91Order F g)) ((k_spec_DrawLevelsPlace F g a0 h).trans e1)

end
end Go.AI.O
namespace Go.AI.T
open Go Go.RowKit Go.AI
set_option linter.unusedVariables false
set_option linter.unusedSimpArgs false
set_option maxRecDepth 100000
noncomputable section
def c_spec_DrawLevelsPlace (F g : Nat) (a0 : AV) (h : H) : Option R := quietC (Go.AI.O.c_spec_DrawLevelsPlace 20000 20) a0 h
theorem s_spec_DrawLevelsPlace (F g : Nat) : ∀ args h r, u1 (c_spec_DrawLevelsPlace F g) args h = some r → Tri Go.Proofs.Try.prog id_spec_DrawLevelsPlace args h r := quietC_sound (Go.AI.O.s_spec_DrawLevelsPlace 20000 20)
theorem draw_FnLevelsPlace (F g : Nat) {a0 : AV} {n : Nat} {L : List AV} {B : Blk} (ha : (a0 = .leaf .nils ∧ n = 0) ∨ a0 = .osl 0 0 n 1) (hB : 0 < n → B = .cells 2 L) (hb : ∀ i, i < n → ∃ v, L[i]? = some (.int 4 (.ofNat v)) ∧ v < 256) :
    ∃ l, (l.length ≤ 300 ∧ (isTree l = true → l.length ≤ 14)) ∧ c_spec_DrawLevelsPlace F g a0 (hCode B) = some (.str l l.length, hCode B) := by
  obtain ⟨l, h', hl, e, hlo⟩ := Go.AI.O.order_ok (F := 20000) (g := 20) (h := hCode B) ha (fun hn => ⟨2, hB hn⟩) hb (Nat.le_refl _) (Nat.le_refl _)
  refine ⟨l, hl, quietC_ok (h' := h') ?_ rfl hlo⟩
  show bindR (Go.AI.O.c_spec_l91Order 20000 20 a0 (hCode B)) _ = _
  rw [e]; rfl
end
end Go.AI.T
namespace Go.AI.T
open Go Go.RowKit Go.AI
set_option linter.unusedVariables false
set_option linter.unusedSimpArgs false
set_option maxRecDepth 100000
noncomputable section
-- "loop.example/treenumbers/laws.FnLevelsPlace"
noncomputable def c_laws_FnLevelsPlace_j1 (F g : Nat) (vs : List AV) (h : H) : Option R := (fun x30 x31 => aPick x30 x31 (AV.bool false) h fun x32 h => some (x32, h)) (hd vs) (hd (tl vs))
noncomputable def c_laws_FnLevelsPlace_j2 (F g : Nat) (vs : List AV) (h : H) : Option R := (fun x52 x53 => aPick x52 x53 (AV.bool false) h fun x54 h => some (x54, h)) (hd vs) (hd (tl vs))
noncomputable def c_laws_FnLevelsPlace_j3 (F g : Nat) (vs : List AV) (h : H) : Option R := (fun x46 x47 x48 x49 x50 => aPick x49 x50 (AV.bool false) h fun x51 h => guardB true x51 (aIdxAddr 1 x48 x47 h fun x55 h => aLoad x55 h fun x56 h => aCmpS eqL x56 x46 h fun x57 h => (c_laws_FnLevelsPlace_j2 F g) [x51, x57] h) ((c_laws_FnLevelsPlace_j2 F g) [x51, (AV.one .tup (AV.leaf .nil))] h)) (hd vs) (hd (tl vs)) (hd (tl (tl vs))) (hd (tl (tl (tl vs)))) (hd (tl (tl (tl (tl vs)))))
noncomputable def c_laws_FnLevelsPlace_j4 (F g : Nat) (vs : List AV) (h : H) : Option R := (fun x40 x41 x42 x43 x44 => aPick x43 x44 (AV.bool false) h fun x45 h => guardB true x45 (aLenK 1 x42 h fun x58 h => aCmpI ilt x41 x58 h fun x59 h => (c_laws_FnLevelsPlace_j3 F g) [x40, x41, x42, x45, x59] h) ((c_laws_FnLevelsPlace_j3 F g) [x40, x41, x42, x45, (AV.one .tup (AV.leaf .nil))] h)) (hd vs) (hd (tl vs)) (hd (tl (tl vs))) (hd (tl (tl (tl vs)))) (hd (tl (tl (tl (tl vs)))))
noncomputable def c_laws_FnLevelsPlace_j5 (F g : Nat) (vs : List AV) (h : H) : Option R := (fun x20 x21 x22 x23 x24 x25 x26 => aPick x25 (AV.bool true) x26 h fun x27 h => withBool x27 fun t28 => bc t28 (aEq false 0 x22 x24 h fun x29 h => guardB true x29 (aCmpI ieq x21 x23 h fun x33 h => (c_laws_FnLevelsPlace_j1 F g) [x29, x33] h) ((c_laws_FnLevelsPlace_j1 F g) [x29, (AV.one .tup (AV.leaf .nil))] h)) (bindR (c_impl_TreeNodes F g x20 h) fun x34 h => aExtract x34 0 h fun x35 h => aExtract x34 1 h fun x36 h => bindR (c_impl_LevelsAll F g x35 h) fun x37 h => aExtract x37 0 h fun x38 h => aExtract x37 1 h fun x39 h => guardB true x36 ((c_laws_FnLevelsPlace_j4 F g) [x20, x21, x38, x36, x39] h) ((c_laws_FnLevelsPlace_j4 F g) [x20, x21, x38, x36, (AV.one .tup (AV.leaf .nil))] h))) (hd vs) (hd (tl vs)) (hd (tl (tl vs))) (hd (tl (tl (tl vs)))) (hd (tl (tl (tl (tl vs))))) (hd (tl (tl (tl (tl (tl vs)))))) (hd (tl (tl (tl (tl (tl (tl vs)))))))
noncomputable def c_laws_FnLevelsPlace_j6 (F g : Nat) (vs : List AV) (h : H) : Option R := (fun x12 x13 x14 x15 x16 x17 x18 => aPick x17 (AV.bool true) x18 h fun x19 h => guardB false x19 (aNot x14 h fun x60 h => (c_laws_FnLevelsPlace_j5 F g) [x12, x13, x14, x15, x16, x19, x60] h) ((c_laws_FnLevelsPlace_j5 F g) [x12, x13, x14, x15, x16, x19, (AV.one .tup (AV.leaf .nil))] h)) (hd vs) (hd (tl vs)) (hd (tl (tl vs))) (hd (tl (tl (tl vs)))) (hd (tl (tl (tl (tl vs))))) (hd (tl (tl (tl (tl (tl vs)))))) (hd (tl (tl (tl (tl (tl (tl vs)))))))
noncomputable def c_laws_FnLevelsPlace_r7 (F g : Nat) (x4 : AV) (h : H) : Option R := bindR (c_impl_LevelsPlace F g x4 h) fun x5 h => aExtract x5 0 h fun x6 h => aExtract x5 1 h fun x7 h => bindR (c_spec_LevelsPlace F g x4 h) fun x8 h => aExtract x8 0 h fun x9 h => aExtract x8 1 h fun x10 h => aEq true 0 x7 x10 h fun x11 h => guardB false x11 (aCmpI (fun a b => bnot (ieq a b)) x6 x9 h fun x61 h => (c_laws_FnLevelsPlace_j6 F g) [x4, x6, x7, x9, x10, x11, x61] h) ((c_laws_FnLevelsPlace_j6 F g) [x4, x6, x7, x9, x10, x11, (AV.one .tup (AV.leaf .nil))] h)
noncomputable def c_laws_FnLevelsPlace (F g : Nat) (a0 : AV) (h : H) : Option R := aLenK 1 a0 h fun x1 h => aCmpI (fun a b => ilt b a) x1 (AV.int 3 (Int.ofNat 1048576)) h fun x2 h => withBool x2 fun t3 => bc t3 (some ((AV.bool true), h)) (bindR (c_spec_DrawLevelsPlace F g a0 h) fun x4 h => c_laws_FnLevelsPlace_r7 F g x4 h)
noncomputable def A_laws_FnLevelsPlace : An := (.two .o (.two (.two .o (.two (.two .o .o) .o)) (.two .o (.two .o (.two .o (.two (.two (.at_ [3, 4, 5, 6, 7, 30, 33] .o (.at_ [3, 4, 5, 6, 7, 35, 37] .o .o)) (.two (.two (.at_ [42, 45] .o .o) .o) .o)) (.two .o (.two .o (.two (.at_ [3, 4, 10, 58, 59] .o (.at_ [3, 4, 10, 61, 65] .o (.at_ [67, 73] .o .o))) .o)))))))))
noncomputable def b_laws_FnLevelsPlace : Code := bodyOf Go.Proofs.Try.f16
theorem k_laws_FnLevelsPlace (F g : Nat) (a0 : AV) (h : H) : callD Go.Proofs.Try.prog (Env.add (Env.add (Env.add (Env.add (Env.add (fun _ _ _ => none : Env) 65 (u1 (c_spec_DrawLevelsPlace F g))) 66 (u1 (c_impl_LevelsPlace F g))) 67 (u1 (c_spec_LevelsPlace F g))) 29 (u1 (c_impl_TreeNodes F g))) 68 (u1 (c_impl_LevelsAll F g))) 75 F b_laws_FnLevelsPlace [2] A_laws_FnLevelsPlace [a0] h = c_laws_FnLevelsPlace F g a0 h := by kernel_rfl
theorem s_laws_FnLevelsPlace (F g : Nat) : ∀ args h r, u1 (c_laws_FnLevelsPlace F g) args h = some r → Tri Go.Proofs.Try.prog 16 args h r := by
  intro args h r e; obtain ⟨a0, rfl, e1⟩ := u1_some e; exact fn_sound Go.Proofs.Try.func16 rfl rfl rfl Go.Proofs.Try.ntmps16 (Sound.add (Sound.add (Sound.add (Sound.add (Sound.add (Sound.none _) (s_spec_DrawLevelsPlace F g)) (s_impl_LevelsPlace F g)) (s_spec_LevelsPlace F g)) (s_impl_TreeNodes F g)) (s_impl_LevelsAll F g)) ((k_laws_FnLevelsPlace F g a0 h).trans e1)

end
end Go.AI.T
