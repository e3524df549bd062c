/- CutMatch, as the evaluator reads it: a range over slices.Backward. -/
import Derived.Test.YtjnmogmddhichaaRfm
import Derived.KernelRfl
namespace Go.AI.T
open Go Go.RowKit Go.AI
set_option linter.unusedVariables false
set_option linter.unusedSimpArgs false
set_option maxRecDepth 100000
noncomputable section
def boxOf (x : AV) (k : Nat → Option R) : Option R := match x with
  | .func (.func n) (.leaf .nil) (.cons (.ptr bx 0) (.leaf .nil)) => bc (Nat.beq n 50) (k bx) none
  | _ => none
def sliceOf (s : AV) (k : Nat → Nat → Nat → Option R) : Option R := s.onSl none (fun _ => none) (fun b o n _ => k b o n) (fun b o n _ => k b o n)
def rfX (bx b o n : Nat) (body : AV → AV → H → (H → Option R) → Option R) : Nat → H → (H → Option R) → Option R :=
  @Nat.rec (fun _ => H → (H → Option R) → Option R) (fun h k => withCells h bx fun _ lb => onSome (nthO lb 0) fun s => bc (slEq b o n s) (k h) none)
    (fun m rec h k => withCells h bx fun _ lb => onSome (nthO lb 0) fun s => bc (slEq b o n s) (withCells h b fun _ l => onSome (nthO l (Nat.add o m)) fun x => body (.int 3 (.ofNat m)) x h (fun h2 => rec h2 k)) none)
def rfC (fv : AV) (h : H) (body : AV → AV → H → (H → Option R) → Option R) (k : H → Option R) : Option R :=
  boxOf fv fun bx => withCells h bx fun _ lb => onSome (nthO lb 0) fun s => sliceOf s fun b o n => bc (Nat.ble n 999999) (rfX bx b o n body n h k) none
-- "(*loop.example/treenumbers/impl.node).nodes"
noncomputable def c_impl_node_nodes_l1 (F g : Nat) (self : AV → H → Option R) : List AV → H → (List AV → H → Option R) → Option R := fun vs h kc6 => (fun x7 x8 x9 x10 => aCmpI ilt x10 x9 h fun x11 h => withBool x11 fun t12 => bc t12 (aIdxAddr 1 x8 x10 h fun x13 h => aLoad x13 h fun x14 h => bindR (self x14 h) fun x15 h => aAppend 1 8 x7 x15 h fun x16 h => aArith iadd x10 (AV.int 3 (Int.ofNat 1)) h fun x17 h => kc6 [x16, x8, x9, x17] h) (some (x7, h))) (hd vs) (hd (tl vs)) (hd (tl (tl vs))) (hd (tl (tl (tl vs))))
noncomputable def c_impl_node_nodes (F g : Nat) : AV → H → Option R := Nat.rec (motive := fun _ => AV → H → Option R) (fun _ _ => none) (fun g self a0 h => aBuildSlice 1 1 [(0, 1, a0)] h fun x1 h => aNilCheck a0 h fun x2 h => aField 2 x2 h fun x3 h => aLoad x3 h fun x4 h => aLenK 1 x4 h fun x5 h => loopD F (c_impl_node_nodes_l1 F g self) [x1, x4, x5, (AV.int 3 (Int.ofNat 0))] h) g
noncomputable def A_impl_node_nodes : An := (.two .o (.two .o (.two (.two .o (.two (.at_ [3, 11, 12, 13] (.two .o (.two (.two .o .o) (.two (.two (.two .o .o) .o) .o))) .o) .o)) (.two .o .o))))
noncomputable def b_impl_node_nodes : Code := bodyOf Go.Proofs.Try.f29
theorem k_impl_node_nodes (F g : Nat) (a0 : AV) (h : H) : callD Go.Proofs.Try.prog (Env.add (fun _ _ _ => none : Env) 29 (u1 (c_impl_node_nodes F g))) 23 F b_impl_node_nodes [2] A_impl_node_nodes [a0] h = c_impl_node_nodes F (g + 1) a0 h := by kernel_rfl
theorem s_impl_node_nodes (F g : Nat) : ∀ args h r, u1 (c_impl_node_nodes F g) args h = some r → Tri Go.Proofs.Try.prog 29 args h r := by
  induction g with
  | zero => intro args h r e; obtain ⟨a0, rfl, e⟩ := u1_some e; cases e
  | succ g ih => intro args h r e; obtain ⟨a0, rfl, e1⟩ := u1_some e; exact fn_sound Go.Proofs.Try.func29 rfl rfl rfl Go.Proofs.Try.ntmps29 (Sound.add (Sound.none _) ih) ((k_impl_node_nodes F g a0 h).trans e1)

-- "slices.Backward[[]*loop.example/treenumbers/impl.node,*loop.example/treenumbers/impl.node]$1"
noncomputable abbrev D_slices_Backward_d1_4168 (F g : Nat) (E : Env) : Env := E
noncomputable abbrev G_slices_Backward_d1_4168 (F g : Nat) (E : Env) : Env := (D_slices_Backward_d1_4168 F g E)
noncomputable def c_slices_Backward_d1_4168_l1 (F g : Nat) (E : Env) : List AV → H → (List AV → H → Option R) → Option R := fun vs h kc4 => (fun x5 x6 x7 => aCmpI (fun a b => ile b a) x7 (AV.int 3 (Int.ofNat 0)) h fun x8 h => withBool x8 fun t9 => bc t9 (aLoad x6 h fun x10 h => aIdxAddr 1 x10 x7 h fun x11 h => aLoad x11 h fun x12 h => dCall (G_slices_Backward_d1_4168 F g E) x5 [x7, x12] h fun x13 h => aNot x13 h fun x14 h => withBool x14 fun t15 => bc t15 (some (AV.one .tup (AV.leaf .nil), h)) (aArith isub x7 (AV.int 3 (Int.ofNat 1)) h fun x16 h => kc4 [x5, x6, x16] h)) (some (AV.one .tup (AV.leaf .nil), h))) (hd vs) (hd (tl vs)) (hd (tl (tl vs)))
noncomputable def c_slices_Backward_d1_4168 (F g : Nat) (E : Env) (a0 a1 : AV) (h : H) : Option R := aLoad a1 h fun x1 h => aLenK 1 x1 h fun x2 h => aArith isub x2 (AV.int 3 (Int.ofNat 1)) h fun x3 h => loopD F (c_slices_Backward_d1_4168_l1 F g E) [a0, a1, x3] h
noncomputable def A_slices_Backward_d1_4168 : An := (.two .o (.two (.at_ [0, 1, 3] (.two (.two .o (.two .o .o)) (.two (.two (.two .o (.two .o .o)) .o) .o)) .o) .o))
noncomputable def b_slices_Backward_d1_4168 : Code := bodyOf Go.Proofs.Try.f50
theorem k_slices_Backward_d1_4168 (F g : Nat) (E : Env) (a0 a1 : AV) (h : H) : callD Go.Proofs.Try.prog (G_slices_Backward_d1_4168 F g E) 19 F b_slices_Backward_d1_4168 [] A_slices_Backward_d1_4168 [a0, a1] h = c_slices_Backward_d1_4168 F g E a0 a1 h := by kernel_rfl
theorem s_slices_Backward_d1_4168 (F g : Nat) (E : Env) (hE : Sound Go.Proofs.Try.prog E) : ∀ args h r, u2 (c_slices_Backward_d1_4168 F g E) args h = some r → Tri Go.Proofs.Try.prog 50 args h r := by
  intro args h r e; obtain ⟨a0, a1, rfl, e1⟩ := u2_some e; exact fn_sound Go.Proofs.Try.func50 rfl rfl rfl Go.Proofs.Try.ntmps50 hE ((k_slices_Backward_d1_4168 F g E a0 a1 h).trans e1)

-- "slices.Backward[[]*loop.example/treenumbers/impl.node,*loop.example/treenumbers/impl.node]"
noncomputable abbrev D_slices_Backward_4168 (F g : Nat) : Env := (Env.add (fun _ _ _ => none : Env) 50 (u2 (c_slices_Backward_d1_4168 F g (fun _ _ _ => none : Env))))
noncomputable def c_slices_Backward_4168 (F g : Nat) (a0 : AV) (h : H) : Option R := aBox a0 h fun x1 h => aMakeF (.func 50) [] [x1] h fun x2 h => some (x2, h)
noncomputable def A_slices_Backward_4168 : An := (.two .o (.two .o .o))
noncomputable def b_slices_Backward_4168 : Code := bodyOf Go.Proofs.Try.f28
theorem k_slices_Backward_4168 (F g : Nat) (a0 : AV) (h : H) : callD Go.Proofs.Try.prog (D_slices_Backward_4168 F g) 4 F b_slices_Backward_4168 [2] A_slices_Backward_4168 [a0] h = c_slices_Backward_4168 F g a0 h := by kernel_rfl
theorem s_slices_Backward_4168 (F g : Nat) : ∀ args h r, u1 (c_slices_Backward_4168 F g) args h = some r → Tri Go.Proofs.Try.prog 28 args h r := by
  intro args h r e; obtain ⟨a0, rfl, e1⟩ := u1_some e; exact fn_sound Go.Proofs.Try.func28 rfl rfl rfl Go.Proofs.Try.ntmps28 (Sound.add (Sound.none _) (s_slices_Backward_d1_4168 F g (fun _ _ _ => none : Env) (Sound.none _))) ((k_slices_Backward_4168 F g a0 h).trans e1)

-- "loop.example/treenumbers/impl.CutMatch"
noncomputable def c_impl_CutMatch_j1 (F g : Nat) (kc14 : H → Option R) (vs : List AV) (h : H) : Option R := (fun x21 x22 x23 x24 x25 => aPick x24 x25 (AV.bool false) h fun x26 h => withBool x26 fun t27 => bc t27 (aNilCheck x23 h fun x28 h => aField 1 x28 h fun x29 h => aLoad x29 h fun x30 h => aNilCheck x30 h fun x31 h => aField 0 x31 h fun x32 h => aLoad x32 h fun x33 h => aIdxArr 1 9 x22 x33 h fun x34 h => aStore x34 (AV.bool true) h fun x35 h => aLoad x21 h fun x36 h => aArith iadd x36 (AV.int 3 (Int.ofNat 1)) h fun x37 h => aStore x21 x37 h fun x38 h => kc14 h) (kc14 h)) (hd vs) (hd (tl vs)) (hd (tl (tl vs))) (hd (tl (tl (tl vs)))) (hd (tl (tl (tl (tl vs)))))
noncomputable def c_impl_CutMatch (F g : Nat) (a0 : AV) (h : H) : Option R := bindR (c_impl_readTree F g a0 h) fun x1 h => aExtract x1 0 h fun x2 h => aExtract x1 1 h fun x3 h => aNot x3 h fun x4 h => withBool x4 fun t5 => bc t5 (some (AV.one .tup (AV.cons (AV.int 3 (Int.ofNat 0)) (AV.cons (AV.bool false) (AV.leaf .nil))), h)) (aAlloc [(AV.int 3 (Int.ofNat 0))] h fun x6 h => aStore x6 (AV.int 3 (Int.ofNat 0)) h fun x7 h => aAlloc [(AV.bool false), (AV.bool false), (AV.bool false), (AV.bool false), (AV.bool false), (AV.bool false), (AV.bool false), (AV.bool false), (AV.bool false)] h fun x8 h => bindR (c_impl_node_nodes F g x2 h) fun x9 h => aSliceV 1 x9 (some (AV.int 3 (Int.ofNat 1))) none none h fun x10 h => bindR (c_slices_Backward_4168 F g x10 h) fun x11 h => rfC x11 h (fun x12 x13 h kc14 => aNilCheck x13 h fun x15 h => aField 0 x15 h fun x16 h => aLoad x16 h fun x17 h => aIdxArr 1 9 x8 x17 h fun x18 h => aLoad x18 h fun x19 h => aNot x19 h fun x20 h => guardB true x20 (aNilCheck x13 h fun x39 h => aField 1 x39 h fun x40 h => aLoad x40 h fun x41 h => aNilCheck x41 h fun x42 h => aField 0 x42 h fun x43 h => aLoad x43 h fun x44 h => aIdxArr 1 9 x8 x44 h fun x45 h => aLoad x45 h fun x46 h => aNot x46 h fun x47 h => (c_impl_CutMatch_j1 F g kc14) [x6, x8, x13, x20, x47] h) ((c_impl_CutMatch_j1 F g kc14) [x6, x8, x13, x20, (AV.one .tup (AV.leaf .nil))] h)) fun h => aLoad x6 h fun x48 h => some (AV.one .tup (AV.cons x48 (AV.cons (AV.bool true) (AV.leaf .nil))), h))

noncomputable def sa : Code → Code | .seq a _ => a | c => c
noncomputable def sb : Code → Code | .seq _ b => b | c => c
noncomputable def bl : Code → Code | .block _ c => c | c => c
noncomputable def ra : Code → Code | .rangeFunc _ _ a _ => a | c => c
noncomputable def rb : Code → Code | .rangeFunc _ _ _ b => b | c => c
noncomputable def cB : Code := bodyOf Go.Proofs.Try.f11
noncomputable def m0 : Code := sa cB
noncomputable def m1 : Code := sa (sb cB)
noncomputable def m2 : Code := sa (sb (sb cB))
noncomputable def m4 : Code := sa (sb (sb (sb cB)))
noncomputable def m5 : Code := sa (sb (sb (sb (sb cB))))
noncomputable def mX : Code := sb (sb (sb (sb (sb cB))))
noncomputable def m6 : Code := sa (sa mX)
noncomputable def mR : Code := bl (sb (sa mX))
noncomputable def mA : Code := ra mR
noncomputable def mB : Code := rb mR
noncomputable def mS : Code := sb mX
theorem shape : Go.Proofs.Try.f11.body = some (.seq m0 (.seq m1 (.seq m2 (.seq m4 (.seq m5 (.seq (.seq m6 (.block 0 (.rangeFunc (.tmp 20) #[21, 22] mA mB))) mS)))))) := by kernel_rfl
theorem flatA : flatC mA = true := by kernel_rfl
theorem flatB : flatC mB = true := by kernel_rfl
noncomputable abbrev aB : An := (.two (.two (.at_ [6, 7, 9, 30, 40] .o .o) (.two (.two .o .o) .o)) .o)
noncomputable abbrev mG (F g : Nat) : Env := (Env.add (Env.add (Env.add (fun _ _ _ => none : Env) 27 (u1 (c_impl_readTree F g))) 29 (u1 (c_impl_node_nodes F g))) 28 (u1 (c_slices_Backward_4168 F g)))
theorem mG_sound (F g : Nat) : Sound Go.Proofs.Try.prog (mG F g) := (Sound.add (Sound.add (Sound.add (Sound.none _) (s_impl_readTree F g)) (s_impl_node_nodes F g)) (s_slices_Backward_4168 F g))
abbrev kE : Nat → K := fun _ _ _ => none
abbrev kZ : K := fun _ _ => none
def kR : K := fun st h => some (resA [2, 3] st, h)
noncomputable def mBody (F g : Nat) (st : St) : AV → AV → H → (H → Option R) → Option R := fun i x h kc => den Go.Proofs.Try.prog (mG F g) 53 F mA .o ((22, x) :: (21, i) :: st) h (fun st1 h1 => den Go.Proofs.Try.prog (mG F g) 53 F mB aB st1 h1 (fun _ h2 => kc h2) kE kZ) kE kZ
noncomputable def mEnd (F g : Nat) (st : St) : H → Option R := fun h2 => den Go.Proofs.Try.prog (mG F g) 53 F mS (.two .o .o) st h2 kZ kE kR
noncomputable def mD (F g : Nat) (a0 : AV) (h : H) : Option R :=
  den Go.Proofs.Try.prog (mG F g) 53 F m0 .o (mkInit 0 [a0]) h (fun st h => den Go.Proofs.Try.prog (mG F g) 53 F m1 .o st h (fun st h => den Go.Proofs.Try.prog (mG F g) 53 F m2 (.two .o (.two (.two .o .o) .o)) st h (fun st h =>
    den Go.Proofs.Try.prog (mG F g) 53 F m4 .o st h (fun st h => den Go.Proofs.Try.prog (mG F g) 53 F m5 .o st h (fun st h => den Go.Proofs.Try.prog (mG F g) 53 F m6 .o st h (fun st h => rfC (get st 20) h (mBody F g st) (mEnd F g st)) kE kR) kE kR) kE kR) kE kR) kE kR) kE kR
theorem k_m (F g : Nat) (a0 : AV) (h : H) : mD F g a0 h = c_impl_CutMatch F g a0 h := by kernel_rfl
end
end Go.AI.T
namespace Go.AI.T
open Go Go.RowKit Go.AI
set_option linter.unusedVariables false
set_option linter.unusedSimpArgs false
set_option maxRecDepth 100000
noncomputable section
section
variable {P : Program} {Γ : Env} {N F : Nat} {kn : K} {kr : K} {r : R} {Q : Exit → Act → World → Prop}
/-- A piece of code, then the rest. -/
theorem wp_step (hΓ : Sound P Γ) {c rest : Code} {an : An} {st : St} {h : H} {ι : Inj} {a : Act} {w : World} (e : den P Γ N F c an st h kn kE kr = some r) (hR : Rel ι h w) (hS : StR ι N st a)
    (hn : ∀ ι' st' h' a' w', Ext ι h w ι' h' w' → Rel ι' h' w' → StR ι' N st' a' → a'.defers = a.defers → kn st' h' = some r → rest.wpIn Fence.wide 0 P Q a' w')
    (hr : ∀ ι' st' h' a' w', Ext ι h w ι' h' w' → Rel ι' h' w' → StR ι' N st' a' → a'.defers = a.defers → kr st' h' = some r → Q .ret a' w') : (Code.seq c rest).wpIn Fence.wide 0 P Q a w := by
  refine wpIn_seq (wpIn_wide.2 (wp_mono (den_sound hΓ _ _ _ _ _ _ _ _ e ι a w hR hS) fun ex a1 w1 hp => ?_))
  obtain ⟨ι1, st1, h1, hE, hR1, hS1, hd, hk⟩ := hp
  cases ex with
  | normal => exact hn _ _ _ _ _ hE hR1 hS1 hd hk
  | ret => exact hr _ _ _ _ _ hE hR1 hS1 hd hk
  | exit i => cases hk
  | goto l => exact hk.elim
  | panic c => exact hk.elim
  | outgrown => exact hk.elim
end
theorem boxOf_some {x : AV} {k : Nat → Option R} {r : R} (e : boxOf x k = some r) : ∃ bx, x = .func (.func 50) (.leaf .nil) (.cons (.ptr bx 0) (.leaf .nil)) ∧ k bx = some r := by
  unfold boxOf at e
  split at e
  · rename_i n bx
    obtain ⟨h1, e⟩ := bif_some e
    have := Nat.eq_of_beq_eq_true h1
    subst this
    exact ⟨bx, rfl, e⟩
  · cases e
theorem rfX_box {bx b o n : Nat} {body : AV → AV → H → (H → Option R) → Option R} {h : H} {k : H → Option R} {r : R} : ∀ {m : Nat}, rfX bx b o n body m h k = some r → ∃ fl lb s, h.get bx = .cells fl lb ∧ lb[0]? = some s ∧ slEq b o n s = true
  | 0, e => by
    obtain ⟨fl, lb, hb, e1⟩ := withCells_some (show (withCells h bx fun _ lb => onSome (nthO lb 0) fun s => bc (slEq b o n s) (k h) none) = some r from e)
    obtain ⟨s, hs, e2⟩ := onSome_some e1
    rw [nthO_eq] at hs
    exact ⟨fl, lb, s, hb, hs, (bif_some e2).1⟩
  | m + 1, e => by
    obtain ⟨fl, lb, hb, e1⟩ := withCells_some (show (withCells h bx fun _ lb => onSome (nthO lb 0) fun s => bc (slEq b o n s) (withCells h b fun _ l => onSome (nthO l (Nat.add o m)) fun x => body (.int 3 (.ofNat m)) x h (fun h2 => rfX bx b o n body m h2 k)) none) = some r from e)
    obtain ⟨s, hs, e2⟩ := onSome_some e1
    rw [nthO_eq] at hs
    exact ⟨fl, lb, s, hb, hs, (bif_some e2).1⟩
theorem rfX_succ {bx b o n m : Nat} {body : AV → AV → H → (H → Option R) → Option R} {h : H} {k : H → Option R} {r : R} (e : rfX bx b o n body (m + 1) h k = some r) : ∃ fl l x, h.get b = .cells fl l ∧ l[o + m]? = some x ∧ body (.int 3 (.ofNat m)) x h (fun h2 => rfX bx b o n body m h2 k) = some r := by
  obtain ⟨fl, lb, hb, e1⟩ := withCells_some (show (withCells h bx fun _ lb => onSome (nthO lb 0) fun s => bc (slEq b o n s) (withCells h b fun _ l => onSome (nthO l (Nat.add o m)) fun x => body (.int 3 (.ofNat m)) x h (fun h2 => rfX bx b o n body m h2 k)) none) = some r from e)
  obtain ⟨s, hs, e2⟩ := onSome_some e1
  obtain ⟨_, e3⟩ := bif_some e2
  obtain ⟨fl2, l, hl, e4⟩ := withCells_some e3
  obtain ⟨x, hx, e5⟩ := onSome_some e4
  rw [nthO_eq] at hx
  exact ⟨fl2, l, x, hl, hx, e5⟩
theorem rfX_zero {bx b o n : Nat} {body : AV → AV → H → (H → Option R) → Option R} {h : H} {k : H → Option R} {r : R} (e : rfX bx b o n body 0 h k = some r) : k h = some r := by
  obtain ⟨fl, lb, hb, e1⟩ := withCells_some (show (withCells h bx fun _ lb => onSome (nthO lb 0) fun s => bc (slEq b o n s) (k h) none) = some r from e)
  obtain ⟨s, hs, e2⟩ := onSome_some e1
  exact (bif_some e2).2
theorem Rng.ext {D : Nat} {ι ι' : Inj} {h h' : H} {w w' : World} (g : Rng D ι) (e : Ext ι h w ι' h' w') (hr' : Rel ι' h' w') (hr : Rel ι h w) (hs : D + 2 ≤ w.heap.size) : Rng D ι' := fun b B o s hb => by
  rcases e.dom b B o s hb with ⟨c, q, z, hc⟩ | hB
  · exact g c B q z hc
  · exact .inr (by omega)
theorem Rng.not {D : Nat} {ι : Inj} {h : H} (g : Rng D ι) : ¬ Own ι h D ∧ ¬ Own ι h (D + 1) :=
  ⟨fun ⟨b, o, s, e, _⟩ => by have := g b D o s e; omega, fun ⟨b, o, s, e, _⟩ => by have := g b (D + 1) o s e; omega⟩
theorem s_impl_CutMatch (F g : Nat) : ∀ args h r, u1 (c_impl_CutMatch F g) args h = some r → Tri Go.Proofs.Try.prog 11 args h r := by
  intro args h r e0
  obtain ⟨a0, rfl, e⟩ := u1_some e0
  clear e0
  rw [← k_m] at e
  have hΓ := mG_sound F g
  refine ⟨⟨_, Go.Proofs.Try.func11, by rw [shape]; rfl, by kernel_rfl⟩, fun ι w vs hR hV => ?_⟩
  refine (callsIn_wide (n := 0)).1 (callsIn_of_wp_marks Go.Proofs.Try.func11 shape trivial ?_ rfl)
  have hlen := hV.length
  have hS : StR ι 53 (mkInit 0 [a0]) { tmps := vs.toArray ++ Array.replicate (Go.Proofs.Try.f11.ntmps - vs.toArray.size) undef, defers := [] } := by
    refine ⟨by rw [Go.Proofs.Try.ntmps11]; simp at hlen ⊢; omega, mkInit_rel 0 hV fun j v hj => ?_⟩
    have hlt := (List.getElem?_eq_some_iff.1 hj).1
    rw [Array.getD_eq_getD_getElem?, Nat.zero_add, Array.getElem?_append_left (by simpa using hlt)]
    simp [hj]
  -- the early return
  have early : ∀ {ι' : Inj} {st' : St} {h' : H} {a' : Act} {w' : World}, Ext ι h w ι' h' w' → Rel ι' h' w' → StR ι' 53 st' a' → a'.defers = [] → kR st' h' = some r →
      bodyPostM Fence.wide 0 Go.Proofs.Try.prog Go.Proofs.Try.f11 (fun e w' => ∃ v ι', e = .returned v ∧ VR ι' r.1 v ∧ Ext ι h w ι' r.2 w' ∧ Rel ι' r.2 w') .ret a' w' := by
    intro ι' st' h' a' w' hE hR' hS' hd hk
    cases hk
    show LeavesInM _ _ _ _ _ _ a'.defers _ _
    rw [hd]
    exact ⟨_, run_results rfl, _, ι', rfl, resA_rel hS' [2, 3], hE, hR'⟩
  refine wp_step hΓ e hR hS (fun ι1 st1 h1 a1 w1 E1 R1 S1 d1 e1 => ?_) (fun _ _ _ _ _ E R S d k => early E R S d k)
  refine wp_step hΓ e1 R1 S1 (fun ι2 st2 h2 a2 w2 E2 R2 S2 d2 e2 => ?_) (fun _ _ _ _ _ E R S d k => early (E1.trans E) R S (d.trans d1) k)
  refine wp_step hΓ e2 R2 S2 (fun ι3 st3 h3 a3 w3 E3 R3 S3 d3 e3 => ?_) (fun _ _ _ _ _ E R S d k => early ((E1.trans E2).trans E) R S (d.trans (d2.trans d1)) k)
  refine wp_step hΓ e3 R3 S3 (fun ι4 st4 h4 a4 w4 E4 R4 S4 d4 e4 => ?_) (fun _ _ _ _ _ E R S d k => early (((E1.trans E2).trans E3).trans E) R S (d.trans (d3.trans (d2.trans d1))) k)
  refine wp_step hΓ e4 R4 S4 (fun ι5 st5 h5 a5 w5 E5 R5 S5 d5 e5 => ?_) (fun _ _ _ _ _ E R S d k => early ((((E1.trans E2).trans E3).trans E4).trans E) R S (d.trans (d4.trans (d3.trans (d2.trans d1)))) k)
  have E15 := (((E1.trans E2).trans E3).trans E4).trans E5
  have d15 : a5.defers = [] := d5.trans (d4.trans (d3.trans (d2.trans d1)))
  clear E1 E2 E3 E4 E5 d1 d2 d3 d4 d5 R1 R2 R3 R4 S1 S2 S3 S4 e e1 e2 e3 e4 hS
  refine wpIn_seq ?_
  refine wp_step hΓ e5 R5 S5 (fun ι6 st6 h6 a6 w6 E6 R6 S6 d6 e6 => ?_) (fun _ _ _ _ _ E R S d k => early (E15.trans E) R S (d.trans d15) k)
  have E16 := E15.trans E6
  have d16 : a6.defers = [] := d6.trans d15
  clear E15 E6 d15 d6 R5 S5 e5
  obtain ⟨bx, hfv, e7⟩ := boxOf_some e6
  obtain ⟨fl0, lb0, hb0, e8⟩ := withCells_some e7
  obtain ⟨s0, hs0, e9⟩ := onSome_some e8
  obtain ⟨b, o, n, e10⟩ : ∃ b o n, bc (Nat.ble n 999999) (rfX bx b o n (mBody F g st6) n h6 (mEnd F g st6)) none = some r := by
    cases s0 using AV.casesE <;> (try (cases e9; done))
    case sl b o n c => exact ⟨b, o, n, e9⟩
    case osl b o n es => exact ⟨b, o, n, e9⟩
  obtain ⟨hn, e11⟩ := bif_some e10
  have hn := Nat.le_of_ble_eq_true hn
  clear e6 e7 e8 e9 e10 hb0 hs0
  -- where the iterator's variable lies
  have hfun := S6.at_ 20
  rw [hfv] at hfun
  obtain ⟨fs, cs, hg, hfs, hcs⟩ := hfun.func
  have hfs0 : fs = #[] := by
    have : fs.toList = [] := hfs
    simpa using this
  obtain ⟨BX, OB, sz, ibx, hcs0⟩ : ∃ BX OB sz, ι6 bx = some (BX, OB, sz) ∧ cs = #[.pointer (some ⟨BX, OB, none⟩)] := by
    obtain ⟨x, xs, hxy, hx, hy⟩ := (show ∃ x xs, cs.toList = x :: xs ∧ VX ι6 (.ptr bx 0) [x] ∧ VX ι6 (.leaf .nil) xs from hcs)
    obtain ⟨B, base, sz, ib, hx⟩ := hx
    have hy : xs = [] := hy
    refine ⟨B, base, sz, ib, ?_⟩
    subst hy
    have hx : x = .pointer (some ⟨B, base + 0, none⟩) := by simpa using hx
    rw [hx] at hxy
    have := congrArg List.toArray hxy
    simpa using this
  subst hfs0; subst hcs0
  obtain ⟨B, q, hBq⟩ : ∃ B q, 1 ≤ n → ∃ base sz, ι6 b = some (B, base, sz) ∧ q = base + o := by
    obtain ⟨fl, lb, s, hb, hs, he⟩ := rfX_box e11
    obtain ⟨c, ty, lo, hi, hh, hsz, hcc, _, _⟩ := R6.cells hb ibx
    obtain ⟨v, hv, hvr⟩ := hcc 0 s hs
    rcases Nat.eq_zero_or_pos n with h0 | h0
    · exact ⟨0, 0, fun h => by omega⟩
    · obtain ⟨B, base, sz, c, ib, _⟩ := (slEq_val he hvr).2 h0
      exact ⟨B, base + o, fun _ => ⟨base, sz, ib, rfl⟩⟩
  have hBX : ∀ {ι' : Inj} {h' : H} {W : World} {m : Nat}, ι6.le ι' → Rel ι' h' W → rfX bx b o n (mBody F g st6) m h' (mEnd F g st6) = some r → ∃ v, W.cell? ⟨BX, OB, none⟩ = some v ∧ ∃ s, slEq b o n s = true ∧ VR ι' s v := by
    intro ι' h' W m hle hR' e'
    obtain ⟨fl, lb, s, hb, hs, he⟩ := rfX_box e'
    obtain ⟨c, ty, lo, hi, hh, hsz, hcc, _, _⟩ := hR'.cells hb (hle _ _ ibx)
    obtain ⟨v, hv, hvr⟩ := hcc 0 s hs
    refine ⟨v, ?_, s, he, hvr⟩
    rw [cell_row hh]
    simpa using hv
  refine wpIn_block (wpIn_range_back (BX := BX) (OB := OB) (n := n) hg rfl (by omega) (fun i W => ∃ ι' h', Rel ι' h' W ∧ Ext ι6 h6 w6 ι' h' W ∧ Rng w6.heap.size ι' ∧ rfX bx b o n (mBody F g st6) (n - i) h' (mEnd F g st6) = some r) ?_ ?_ ?_ B q ?_ ?_ ?_)
  · rintro i A C ⟨ι', h', k1, k2, k3, k4⟩ ho
    exact ⟨ι', h', k1.oth k3 ho, Ext.oth R6 (Nat.le_refl _) k2 ho, k3, k4⟩
  · exact ⟨ι6, h6, R6, .refl _ _ _, fun b B o s hb => .inl (R6.lt _ _ _ _ hb), by simpa using e11⟩
  · rintro i W ⟨ι', h', k1, k2, k3, k4⟩
    obtain ⟨v, hv, s, he, hvr⟩ := hBX k2.le k1 k4
    obtain ⟨⟨A, c, rfl⟩, _⟩ := slEq_val he hvr
    exact ⟨A, c, hv⟩
  · rintro h1n i W ⟨ι', h', k1, k2, k3, k4⟩
    obtain ⟨v, hv, s, he, hvr⟩ := hBX k2.le k1 k4
    obtain ⟨B', base', sz', c, ib', rfl, hc⟩ := (slEq_val he hvr).2 h1n
    obtain ⟨base, sz, ib, rfl⟩ := hBq h1n
    have := k2.le _ _ ib
    rw [ib'] at this; cases this
    exact ⟨c, hc, hv⟩
  · rintro l i W hin hsz ⟨ι', h', k1, k2, k3, k4⟩
    obtain ⟨m, hm⟩ : ∃ m, n - i = m + 1 := ⟨n - i - 1, by omega⟩
    have hm2 : n - 1 - i = m := by omega
    rw [hm] at k4
    rw [hm2]
    obtain ⟨fl, lst, x, hb, hx, k5⟩ := rfX_succ k4
    obtain ⟨base, sz', ib, rfl⟩ := hBq (by omega)
    obtain ⟨c, ty, lo, hi, hh, hsz2, hcc, _, _⟩ := k1.cells hb (k2.le _ _ ib)
    obtain ⟨v, hv, hvr⟩ := hcc (o + m) x hx
    refine ⟨v, by rw [cell_row hh, ← hv]; congr 1; omega, ?_⟩
    have hS1 : StR ι' 53 ((22, x) :: (21, .int 3 (.ofNat m)) :: st6) { tmps := (#[21, 22].zip #[.int .i64 ((m : Nat) : Int), v]).foldl (fun t (p, v) => t.setIfInBounds p v) a6.tmps, defers := [] } := by
      have h1 := (S6.mono k2.le).put 21 (.int 3 (.ofNat m)) (.int .i64 ((m : Nat) : Int)) (by omega) (rfl : VR ι' (.int 3 (.ofNat m)) (.int (kd 3) (.ofNat m)))
      have h2 := h1.put 22 x v (by omega) hvr
      have ht : (#[21, 22].zip #[Value.int .i64 ((m : Nat) : Int), v]).foldl (fun t (p, v) => t.setIfInBounds p v) a6.tmps = ((a6.put (some 21) (.int .i64 ((m : Nat) : Int))).put (some 22) v).tmps := by
        have hz : (#[21, 22] : Array Nat).zip #[Value.int .i64 ((m : Nat) : Int), v] = #[(21, Value.int .i64 ((m : Nat) : Int)), (22, v)] := by
          apply Array.ext'
          simp
        rw [hz]
        rfl
      rw [ht]
      exact ⟨h2.size, h2.at_⟩
    refine wpIn_mono (den_in hΓ _ _ _ _ _ _ _ _ flatA k5 ι' _ W k1 hS1) fun ex a1 W1 hp => ?_
    obtain ⟨ι1, st1, h1, E1, R1, S1, _, q1⟩ := hp
    cases ex with
    | normal =>
      have g1 := Rng.ext (D := w6.heap.size) k3 E1 R1 k1 hsz
      refine ⟨E1.size, E1.block _ (by omega) (Rng.not (D := w6.heap.size) (h := h') k3).1, E1.block _ (by omega) (Rng.not (D := w6.heap.size) (h := h') k3).2, fun W2 ho => ?_⟩
      have R1' := R1.oth g1 ho
      refine wpIn_mono (den_in hΓ _ _ _ _ _ _ _ _ flatB q1 ι1 _ W2 R1' S1) fun ex a2 W3 hp => ?_
      obtain ⟨ι2, st2, h2, E2, R2, S2, _, q2⟩ := hp
      have hW2 : w6.heap.size + 2 ≤ W2.heap.size := Nat.le_trans (Nat.le_trans hsz E1.size) ho.size
      cases ex with
      | normal =>
        refine ⟨E2.size, E2.block _ (by omega) (Rng.not (D := w6.heap.size) (h := h1) g1).1, E2.block _ (by omega) (Rng.not (D := w6.heap.size) (h := h1) g1).2, ι2, h2, R2, ?_, Rng.ext (D := w6.heap.size) g1 E2 R2 R1' hW2, by rw [show n - (i + 1) = m from (Nat.sub_add_eq n i 1).trans (by rw [hm]; rfl)]; exact q2⟩
        exact (Ext.oth R6 (Nat.le_refl _) (k2.trans E1) ho).trans E2
      | exit i => cases q2
      | ret => cases q2
      | goto l => exact q2.elim
      | panic c => exact q2.elim
      | outgrown => exact q2.elim
    | exit i => cases q1
    | ret => cases q1
    | goto l => exact q1.elim
    | panic c => exact q1.elim
    | outgrown => exact q1.elim
  · rintro D W rfl hsz ⟨ι', h', k1, k2, k3, k4⟩ hK
    rw [Nat.sub_self] at k4
    have k5 := rfX_zero k4
    have hS1 : StR ι' 53 st6 { a6 with defers := { target := .collected w6.heap.size, args := #[] } :: a6.defers } := ⟨(S6.mono k2.le).size, (S6.mono k2.le).at_⟩
    refine wpIn_wide.2 (wp_mono (den_sound hΓ _ _ _ _ _ _ _ _ k5 ι' _ W k1 hS1) fun ex a1 W1 hp => ?_)
    obtain ⟨ι1, st1, h1, E1, R1, S1, dd1, q1⟩ := hp
    cases ex with
    | ret =>
      cases q1
      have hKD : W1.heap[w6.heap.size]? = some (.deferred (some [])) := (E1.block _ (by omega) (Rng.not (D := w6.heap.size) (h := h') k3).1).trans hK
      show LeavesInM _ _ _ _ _ _ a1.defers _ _
      rw [dd1]
      show LeavesInM _ _ _ _ _ _ ({ target := .collected w6.heap.size, args := #[] } :: a6.defers) _ _
      rw [d16]
      refine ⟨by simp, .inl ⟨_, _, rfl, run_takeDeferred hKD, ?_⟩⟩
      have ho : Oth w6.heap.size W1 (W1.putObj w6.heap.size (.deferred none)) := Oth.put _ _ _ (.inl rfl) _
      have hw6 : w.heap.size ≤ w6.heap.size := E16.size
      exact ⟨_, run_results rfl, _, ι1, rfl, resA_rel S1 [2, 3], Ext.oth hR hw6 (E16.trans (k2.trans E1)) ho, R1.oth (Rng.ext (D := w6.heap.size) k3 E1 R1 k1 hsz) ho⟩
    | normal => cases q1
    | exit i => cases q1
    | goto l => exact q1.elim
    | panic c => exact q1.elim
    | outgrown => exact q1.elim
theorem match_bad {F g : Nat} {l : List Nat} {n : Nat} (hn : lenL l = n) (hm : n ≤ 1048576) (ht : isTree l = false) (h : H) : c_impl_CutMatch F g (.str l n) h = some (.one .tup (.cons (.int 3 (.ofNat 0)) (.cons (.bool false) (.leaf .nil))), h) := by
  delta c_impl_CutMatch
  rw [read_bad hn hm ht, bindR_some', aExtract_0, aExtract_1, aNot_b, bnot_f, withBool_bool, bc_true]
end
end Go.AI.T
