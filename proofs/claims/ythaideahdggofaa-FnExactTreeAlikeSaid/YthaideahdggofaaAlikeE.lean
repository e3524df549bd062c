/- The law TreeAlike over the table. -/
import Derived.Test.YthaideahdggofaaEv13x
import Derived.KernelRfl

/- The law TreeAlike over the table. -/
namespace Go.AI.Alike
open Go Go.RowKit Go.AI
noncomputable section
set_option linter.unusedVariables false
set_option linter.unusedSimpArgs false
set_option maxRecDepth 100000

theorem bc_and {p q : Bool} (h : bc p q false = true) : p = true ∧ q = true := by
  cases p with
  | true => exact ⟨rfl, h⟩
  | false => cases h

theorem eqL_to : ∀ {x y : List Nat}, eqL x y = true → x = y
  | [], [], _ => rfl
  | [], _ :: _, h => by cases h
  | _ :: _, [], h => by cases h
  | a :: x, b :: y, h => by
    rw [eqL_cons] at h
    obtain ⟨h1, h2⟩ := bc_and h
    rw [Nat.eq_of_beq_eq_true h1, eqL_to h2]
theorem okA_some {l : List Nat} (h : okA l = true) : ∃ x n t h1 h2, c63 2097152 20 (.str l l.length) H0 = some (.str x n, h1) ∧ c42 2097152 20 (.str l l.length) H0 = some (.one .tup (.cons (.str x n) (.cons (.bool true) t)), h2) ∧ t.plain = true := by
  unfold okA at h
  rw [lenL_eq] at h
  cases hc : c63 2097152 20 (.str l l.length) H0 with
  | none => rw [hc] at h; cases h
  | some r =>
    rw [hc] at h
    obtain ⟨v, h1⟩ := r
    cases v using AV.casesE <;> first | (cases h; done) | skip
    rename_i a n
    cases hd : c42 2097152 20 (.str l l.length) H0 with
    | none => rw [hd] at h; cases h
    | some q =>
      rw [hd] at h
      obtain ⟨v, h2⟩ := q
      cases v using AV.casesE <;> first | (cases h; done) | skip
      rename_i u
      cases u <;> first | (cases h; done) | skip
      rename_i x u
      cases x using AV.casesE <;> first | (cases h; done) | skip
      rename_i b m
      cases u <;> first | (cases h; done) | skip
      rename_i ok t
      cases ok <;> first | (cases h; done) | skip
      rename_i d
      have h : bc d (bc (eqL a b) (bc (Nat.beq n m) t.plain false) false) false = true := h
      obtain ⟨hd1, h⟩ := bc_and h
      obtain ⟨he, h⟩ := bc_and h
      obtain ⟨hm, hp⟩ := bc_and h
      have he := eqL_to he
      have hm := Nat.eq_of_beq_eq_true hm
      subst hd1; subst he; subst hm
      exact ⟨a, n, t, h1, h2, rfl, rfl, hp⟩

theorem tree_ok {l : List Nat} (ht : isTree l = true) : okA l = true := by
  have hm := isTree_mem ht
  obtain ⟨r, hr, he⟩ := List.mem_map.1 hm
  have h1 := allR_mem okA 17 1 1 (fun l => 40 :: l) in13_all r hr
  rw [show (40 :: r) = _ from he] at h1
  exact h1

/-- The text that one function tells, and the pair that the other tells. -/
def tx (l : List Nat) : AV := @Option.rec R (fun _ => AV) (.leaf .nil) (fun r => r.1) (Go.AI.c63 2097152 20 (.str l l.length) H0)
def tq (l : List Nat) : AV := @Option.rec R (fun _ => AV) (.leaf .nil) (fun r => r.1) (Go.AI.c42 2097152 20 (.str l l.length) H0)

def c63 (F g : Nat) (a0 : AV) (h : H) : Option R := withStr a0 fun l n => bc (Nat.beq l.length n) (bc (isTree l) (some (tx l, h)) none) none
def c42 (F g : Nat) (a0 : AV) (h : H) : Option R := withStr a0 fun l n => bc (Nat.beq l.length n) (bc (isTree l) (some (tq l, h)) (Go.AI.c42 F g a0 h)) none

theorem s63 (F g : Nat) : ∀ args h r, u1 (c63 F g) args h = some r → Tri Go.Proofs.Try.prog 63 args h r := by
  intro args h r e
  obtain ⟨a0, rfl, e1⟩ := u1_some e
  obtain ⟨l, n, rfl, e2⟩ := withStr_some e1
  obtain ⟨hn, e3⟩ := bif_some e2
  obtain ⟨ht, e4⟩ := bif_some e3
  have hn := Nat.eq_of_beq_eq_true hn
  subst hn
  obtain ⟨x, m, t, h1, h2, ha, hb, hp⟩ := okA_some (tree_ok ht)
  have hx : tx l = .str x m := by unfold tx; rw [ha]
  rw [hx] at e4
  cases e4
  exact Tri.forget (Go.AI.s63 2097152 20 [.str l l.length] H0 _ ha) (fun a hm => by cases hm with | head => rfl | tail _ hm => cases hm) rfl h

theorem s42 (F g : Nat) : ∀ args h r, u1 (c42 F g) args h = some r → Tri Go.Proofs.Try.prog 42 args h r := by
  intro args h r e
  obtain ⟨a0, rfl, e1⟩ := u1_some e
  obtain ⟨l, n, rfl, e2⟩ := withStr_some e1
  obtain ⟨hn, e3⟩ := bif_some e2
  have hn := Nat.eq_of_beq_eq_true hn
  subst hn
  cases ht : isTree l with
  | false =>
    rw [ht, bc_false] at e3
    exact Go.AI.s42 F g [.str l l.length] h r e3
  | true =>
    rw [ht, bc_true] at e3
    obtain ⟨x, m, t, h1, h2, ha, hb, hp⟩ := okA_some (tree_ok ht)
    have hx : tq l = .one .tup (.cons (.str x m) (.cons (.bool true) t)) := by unfold tq; rw [hb]
    rw [hx] at e3
    cases e3
    exact Tri.forget (Go.AI.s42 2097152 20 [.str l l.length] H0 _ hb) (fun a hm => by cases hm with | head => rfl | tail _ hm => cases hm) hp h

theorem both {l : List Nat} (ht : isTree l = true) : ∃ x m t, (∀ F g h, c63 F g (.str l l.length) h = some (.str x m, h)) ∧ ∀ F g h, c42 F g (.str l l.length) h = some (.one .tup (.cons (.str x m) (.cons (.bool true) t)), h) := by
  obtain ⟨x, m, t, h1, h2, ha, hb, hp⟩ := okA_some (tree_ok ht)
  have hx : tx l = .str x m := by unfold tx; rw [ha]
  have hy : tq l = .one .tup (.cons (.str x m) (.cons (.bool true) t)) := by unfold tq; rw [hb]
  refine ⟨x, m, t, fun F g h => ?_, fun F g h => ?_⟩
  · show bc (Nat.beq l.length l.length) (bc (isTree l) (some (tx l, h)) none) none = _
    rw [Nat.beq_refl, ht, hx]; rfl
  · show bc (Nat.beq l.length l.length) (bc (isTree l) (some (tq l, h)) _) none = _
    rw [Nat.beq_refl, ht, hy]; rfl
theorem none42 {l : List Nat} (ht : isTree l = false) {F g : Nat} (h1 : l.length < F) (h2 : F < 9223372036854775807) (h : H) : ∃ h', c42 F g (.str l l.length) h = some (.one .tup (.cons (.str [] 0) (.cons (.bool false) (.leaf .nil))), h') := by
  obtain ⟨h', e⟩ := impl42_bad (F := F) (g := g) l l.length rfl h1 h2 ht h
  refine ⟨h', ?_⟩
  show bc (Nat.beq l.length l.length) (bc (isTree l) (some (tq l, h)) (Go.AI.c42 F g (.str l l.length) h)) none = _
  rw [Nat.beq_refl, ht, e]; rfl

-- "loop.example/treenumbers/spec.TreeAlike"
noncomputable def c43_j1 (F g : Nat) (vs : List AV) (h : H) : Option R := (fun x7 x8 => aPick x7 x8 (AV.bool false) h fun x9 h => some (x9, h)) (hd vs) (hd (tl vs))
noncomputable def c43_j2 (F g : Nat) (vs : List AV) (h : H) : Option R := (fun x2 x3 x4 x5 => aPick x4 x5 (AV.bool false) h fun x6 h => guardB true x6 (bindR (c63 F g x2 h) fun x10 h => bindR (c63 F g x3 h) fun x11 h => aCmpS eqL x10 x11 h fun x12 h => (c43_j1 F g) [x6, x12] h) ((c43_j1 F g) [x6, (AV.one .tup (AV.leaf .nil))] h)) (hd vs) (hd (tl vs)) (hd (tl (tl vs))) (hd (tl (tl (tl vs))))
noncomputable def c43 (F g : Nat) (a0 a1 : AV) (h : H) : Option R := bindR (c15 F g a0 h) fun x1 h => guardB true x1 (bindR (c15 F g a1 h) fun x13 h => (c43_j2 F g) [a0, a1, x1, x13] h) ((c43_j2 F g) [a0, a1, x1, (AV.one .tup (AV.leaf .nil))] h)
noncomputable def A43 : An := (.two .o (.two (.at_ [0, 1, 7, 9] .o (.at_ [11, 16] .o .o)) .o))
noncomputable def b43 : Code := bodyOf Go.Proofs.Try.f43
theorem k43 (F g : Nat) (a0 a1 : AV) (h : H) : callD Go.Proofs.Try.prog (Env.add (Env.add (fun _ _ _ => none : Env) 15 (u1 (c15 F g))) 63 (u1 (c63 F g))) 18 F b43 [4] A43 [a0, a1] h = c43 F g a0 a1 h := by kernel_rfl
theorem s43 (F g : Nat) : ∀ args h r, u2 (c43 F g) args h = some r → Tri Go.Proofs.Try.prog 43 args h r := by
  intro args h r e; obtain ⟨a0, a1, rfl, e1⟩ := u2_some e; exact fn_sound Go.Proofs.Try.func43 rfl rfl rfl Go.Proofs.Try.ntmps43 (Sound.add (Sound.add (Sound.none _) (s15 F g)) (s63 F g)) ((k43 F g a0 a1 h).trans e1)

-- "loop.example/treenumbers/impl.TreeAlike"
noncomputable def c44_j1 (F g : Nat) (vs : List AV) (h : H) : Option R := (fun x12 x13 => aPick x12 x13 (AV.bool false) h fun x14 h => some (x14, h)) (hd vs) (hd (tl vs))
noncomputable def c44_j2 (F g : Nat) (vs : List AV) (h : H) : Option R := (fun x7 x8 x9 x10 => aPick x9 x10 (AV.bool false) h fun x11 h => guardB true x11 (aCmpS eqL x7 x8 h fun x15 h => (c44_j1 F g) [x11, x15] h) ((c44_j1 F g) [x11, (AV.one .tup (AV.leaf .nil))] h)) (hd vs) (hd (tl vs)) (hd (tl (tl vs))) (hd (tl (tl (tl vs))))
noncomputable def c44 (F g : Nat) (a0 a1 : AV) (h : H) : Option R := bindR (c42 F g a0 h) fun x1 h => aExtract x1 0 h fun x2 h => aExtract x1 1 h fun x3 h => bindR (c42 F g a1 h) fun x4 h => aExtract x4 0 h fun x5 h => aExtract x4 1 h fun x6 h => guardB true x3 ((c44_j2 F g) [x2, x5, x3, x6] h) ((c44_j2 F g) [x2, x5, x3, (AV.one .tup (AV.leaf .nil))] h)
noncomputable def A44 : An := (.two .o (.two .o (.two .o (.two (.at_ [5, 7, 20, 21] .o (.at_ [23, 26] .o .o)) .o))))
noncomputable def b44 : Code := bodyOf Go.Proofs.Try.f44
theorem k44 (F g : Nat) (a0 a1 : AV) (h : H) : callD Go.Proofs.Try.prog (Env.add (fun _ _ _ => none : Env) 42 (u1 (c42 F g))) 28 F b44 [4] A44 [a0, a1] h = c44 F g a0 a1 h := by kernel_rfl
theorem s44 (F g : Nat) : ∀ args h r, u2 (c44 F g) args h = some r → Tri Go.Proofs.Try.prog 44 args h r := by
  intro args h r e; obtain ⟨a0, a1, rfl, e1⟩ := u2_some e; exact fn_sound Go.Proofs.Try.func44 rfl rfl rfl Go.Proofs.Try.ntmps44 (Sound.add (Sound.none _) (s42 F g)) ((k44 F g a0 a1 h).trans e1)

-- "loop.example/treenumbers/laws.FnExactTreeAlike"
noncomputable def c13 (F g : Nat) (a0 a1 : AV) (h : H) : Option R := aLenK 0 a0 h fun x1 h => aCmpI (fun a b => ilt b a) x1 (AV.int 3 (Int.ofNat 1048576)) h fun x2 h => withBool x2 fun t3 => bc t3 (some ((AV.bool true), h)) (aLenK 0 a1 h fun x4 h => aCmpI (fun a b => ilt b a) x4 (AV.int 3 (Int.ofNat 1048576)) h fun x5 h => withBool x5 fun t6 => bc t6 (some ((AV.bool true), h)) (bindR (c43 F g a0 a1 h) fun x7 h => bindR (c44 F g a0 a1 h) fun x8 h => aEq true 0 x8 x7 h fun x9 h => withBool x9 fun t10 => bc t10 (some ((AV.bool false), h)) (some ((AV.bool true), h))))
noncomputable def A13 : An := (.two .o (.two (.two .o (.two (.two .o .o) .o)) (.two (.two .o (.two (.two .o .o) .o)) (.two .o (.two .o (.two (.two .o (.two (.two .o .o) .o)) (.two .o .o)))))))
noncomputable def b13 : Code := bodyOf Go.Proofs.Try.f13
theorem k13 (F g : Nat) (a0 a1 : AV) (h : H) : callD Go.Proofs.Try.prog (Env.add (Env.add (fun _ _ _ => none : Env) 43 (u2 (c43 F g))) 44 (u2 (c44 F g))) 22 F b13 [4] A13 [a0, a1] h = c13 F g a0 a1 h := by kernel_rfl
theorem s13 (F g : Nat) : ∀ args h r, u2 (c13 F g) args h = some r → Tri Go.Proofs.Try.prog 13 args h r := by
  intro args h r e; obtain ⟨a0, a1, rfl, e1⟩ := u2_some e; exact fn_sound Go.Proofs.Try.func13 rfl rfl rfl Go.Proofs.Try.ntmps13 (Sound.add (Sound.add (Sound.none _) (s43 F g)) (s44 F g)) ((k13 F g a0 a1 h).trans e1)


theorem ge (l : List Nat) (h : ¬ 1048576 < l.length) : Nat.ble (Nat.succ 1048576) l.length = false := ble_false (by omega)

theorem j2f (F g : Nat) (l l' : List Nat) (n n' : Nat) (z : AV) (h : H) : c43_j2 F g [.str l n, .str l' n', .bool false, z] h = some (.bool false, h) := rfl
theorem j2ff (F g : Nat) (l l' : List Nat) (n n' : Nat) (h : H) : c43_j2 F g [.str l n, .str l' n', .bool true, .bool false] h = some (.bool false, h) := rfl
theorem i2f (F g : Nat) (x y z : AV) (h : H) : c44_j2 F g [x, y, .bool false, z] h = some (.bool false, h) := rfl
theorem i2ff (F g : Nat) (x y : AV) (h : H) : c44_j2 F g [x, y, .bool true, .bool false] h = some (.bool false, h) := rfl
theorem i2t (F g : Nat) (x y : List Nat) (n m : Nat) (h : H) : c44_j2 F g [.str x n, .str y m, .bool true, .bool true] h = some (.bool (eqL x y), h) := rfl

theorem spec_alike (l l' : List Nat) (F g : Nat) (hF : 20 < F) (h : H) : ∃ b, c43 F g (.str l l.length) (.str l' l'.length) h = some (.bool b, h) ∧
    ∀ h0, F < 9223372036854775807 → l.length < F → l'.length < F → ∃ h', c44 F g (.str l l.length) (.str l' l'.length) h0 = some (.bool b, h') := by
  cases ht : isTree l with
  | false =>
    refine ⟨false, ?_, fun h0 hF2 h1 h2 => ?_⟩
    · simp only [c43, spec_bad (F := F) (g := g) l _ rfl hF ht h, bindR_some', guardB_bool]; rfl
    · obtain ⟨h', e⟩ := none42 ht (F := F) (g := g) h1 hF2 h0
      cases ht' : isTree l' with
      | false =>
        obtain ⟨h'', e'⟩ := none42 ht' (F := F) (g := g) h2 hF2 h'
        refine ⟨h'', ?_⟩
        simp only [c44, e, e', bindR_some', aExtract_0, aExtract_1, guardB_bool]; rfl
      | true =>
        obtain ⟨y, m, t, ha, hb⟩ := both ht'
        refine ⟨h', ?_⟩
        simp only [c44, e, hb, bindR_some', aExtract_0, aExtract_1, guardB_bool]; rfl
  | true =>
    obtain ⟨x, n, s, hc, hd⟩ := both ht
    cases ht' : isTree l' with
    | false =>
      refine ⟨false, ?_, fun h0 hF2 h1 h2 => ?_⟩
      · simp only [c43, spec_good (F := F) (g := g) l _ rfl hF ht h, spec_bad (F := F) (g := g) l' _ rfl hF ht' h, bindR_some', guardB_bool]; rfl
      · obtain ⟨h'', e'⟩ := none42 ht' (F := F) (g := g) h2 hF2 h0
        refine ⟨h'', ?_⟩
        simp only [c44, hd, e', bindR_some', aExtract_0, aExtract_1, guardB_bool]; rfl
    | true =>
      obtain ⟨y, m, t, ha, hb⟩ := both ht'
      refine ⟨eqL x y, ?_, fun h0 hF2 h1 h2 => ⟨h0, ?_⟩⟩
      · simp only [c43, spec_good (F := F) (g := g) l _ rfl hF ht h, spec_good (F := F) (g := g) l' _ rfl hF ht' h, bindR_some', guardB_bool]
        show c43_j2 F g [.str l l.length, .str l' l'.length, .bool true, .bool true] h = _
        simp only [c43_j2, hd_cons, tl_cons, aPick_bool, bc_true, guardB_bool, hc, ha, bindR_some']; rfl
      · simp only [c44, hd, hb, bindR_some', aExtract_0, aExtract_1, guardB_bool]; rfl

theorem law13 (l l' : List Nat) : ∃ h', c13 2097152 20 (.str l l.length) (.str l' l'.length) H0 = some (.bool true, h') := by
  by_cases h1 : 1048576 < l.length
  · refine ⟨H0, ?_⟩
    simp only [c13, aLenK_str, aCmpI_int, kEq_self, bc_true, ilt_nat, ble_true (show Nat.succ 1048576 ≤ l.length by omega), withBool_bool]
  · by_cases h2 : 1048576 < l'.length
    · refine ⟨H0, ?_⟩
      simp only [c13, aLenK_str, aCmpI_int, kEq_self, bc_true, bc_false, ilt_nat, ge l h1, ble_true (show Nat.succ 1048576 ≤ l'.length by omega), withBool_bool]
    · obtain ⟨b, e, he⟩ := spec_alike l l' 2097152 20 (by omega) H0
      obtain ⟨h', e'⟩ := he H0 (by omega) (by omega) (by omega)
      refine ⟨h', ?_⟩
      simp only [c13, aLenK_str, aCmpI_int, kEq_self, bc_true, bc_false, ilt_nat, ge l h1, ge l' h2, withBool_bool, e, e', bindR_some']
      cases b <;> rfl
end
end Go.AI.Alike
