/- Rows that come in, of any length. -/
import Derived.Test.YtojcncloeikjlabAi2
import Derived.KernelRfl

/- Arithmetic on small numbers that are not negative. -/
namespace Go.AI
open Go Go.RowKit
noncomputable section
set_option linter.unusedVariables false
set_option linter.unusedSimpArgs false
variable {α : Type} {h : H} {k : AV → H → Option α} {a b : Nat}

/-- A number that is not negative. -/
abbrev nI (a : Nat) : AV := .int 3 (.ofNat a)
theorem fwrapN (hm : a ≤ 9223372036854775807) : fwrap 3 (.ofNat a) = .ofNat a := by
  rw [fwrap_eq, kd3]
  show IntKind.i64.wrap ((a : Nat) : Int) = ((a : Nat) : Int)
  rw [wrap_i64 _ (by omega) (by omega)]
theorem addN (hm : a + b ≤ 9223372036854775807) : aArith iadd (nI a) (nI b) h k = k (nI (a + b)) h := by
  rw [aArith_int, kEq_self, bc_true, fwrap_add a b hm]
theorem subN (hb : b ≤ a) (hm : a ≤ 9223372036854775807) : aArith isub (nI a) (nI b) h k = k (nI (a - b)) h := by
  rw [aArith_int, kEq_self, bc_true]
  have e : isub (.ofNat a) (.ofNat b) = .ofNat (a - b) := by
    rw [isub_eq]; show (a : Int) - (b : Int) = ((a - b : Nat) : Int); omega
  rw [e, fwrapN (by omega)]
theorem mulN (hm : a * b ≤ 9223372036854775807) : aArith imul (nI a) (nI b) h k = k (nI (a * b)) h := by
  rw [aArith_int, kEq_self, bc_true]
  have e : imul (.ofNat a) (.ofNat b) = .ofNat (a * b) := rfl
  rw [e, fwrapN hm]
theorem ieq0 (hb : 0 < b) : ieq (.ofNat b) 0 = false := by
  rw [ieq_eq, decide_eq_false_iff_not]
  show ¬ ((b : Nat) : Int) = 0
  omega
theorem remN (hb : 0 < b) : aRem (nI a) (nI b) h k = k (nI (a % b)) h := by
  show bc (kEq 3 3) (bc (ieq (.ofNat b) 0) none (k (.int 3 (imod (.ofNat a) (.ofNat b))) h)) none = _
  rw [kEq_self, ieq0 hb]
  rfl
theorem quoN (hb : 0 < b) (hm : a ≤ 9223372036854775807) : aQuo (nI a) (nI b) h k = k (nI (a / b)) h := by
  show bc (kEq 3 3) (bc (ieq (.ofNat b) 0) none (k (.int 3 (fwrap 3 (idiv (.ofNat a) (.ofNat b)))) h)) none = _
  rw [kEq_self, ieq0 hb]
  have e : idiv (.ofNat a) (.ofNat b) = .ofNat (a / b) := rfl
  rw [e, fwrapN (Nat.le_trans (Nat.div_le_self _ _) hm)]
  rfl
theorem convN {j : Nat} (hm : a ≤ 9223372036854775807) : aConvI 3 (.int j (.ofNat a)) h k = k (nI a) h := by
  show k (.int 3 (fwrap 3 (.ofNat a))) h = _
  rw [fwrapN hm]
theorem lssN : aCmpI ilt (nI a) (nI b) h k = k (.bool (Nat.ble (Nat.succ a) b)) h := rfl
theorem gtrN : aCmpI (fun a b => ilt b a) (nI a) (nI b) h k = k (.bool (Nat.ble (Nat.succ b) a)) h := rfl
theorem eqlN : aCmpI ieq (nI a) (nI b) h k = k (.bool (Nat.beq a b)) h := rfl
theorem xorN (ha : a < 4611686018427387904) (hb : b < 4611686018427387904) : aBits .xor (nI a) (nI b) h k = k (nI (a ^^^ b)) h := by
  show bc (kEq 3 3) (k (.int 3 (bitsI .xor (kd 3) (.ofNat a) (.ofNat b))) h) none = _
  rw [kEq_self, bc_true, kd3]
  have hx : a ^^^ b < 4611686018427387904 := Nat.xor_lt_two_pow (n := 62) ha hb
  have e1 : ∀ m : Nat, m < 4611686018427387904 → (BitVec.ofInt 64 (Int.ofNat m)).toNat = m := fun m hm => by
    show (BitVec.ofInt 64 ((m : Nat) : Int)).toNat = m
    rw [BitVec.ofInt_natCast, BitVec.toNat_ofNat]; omega
  have e : bitsI .xor .i64 (.ofNat a) (.ofNat b) = .ofNat (a ^^^ b) := by
    show IntKind.i64.wrap (((BitVec.ofInt 64 (Int.ofNat a)) ^^^ (BitVec.ofInt 64 (Int.ofNat b))).toNat : Int) = _
    rw [BitVec.toNat_xor, e1 a ha, e1 b hb]
    rw [wrap_i64 _ (by omega) (by omega)]; rfl
  rw [e]
theorem leNil (h : H) (k : AV → H → Option R) : aLenK 1 (.leaf .nils) h k = k (nI 0) h := rfl
theorem leOsl (b o n es : Nat) (h : H) (k : AV → H → Option R) : aLenK 1 (.osl b o n es) h k = k (nI n) h := rfl
theorem idxOsl {b o n es i : Nat} (hi : i < n) : aIdxAddr es (.osl b o n es) (nI i) h k = k (.ptr b (o + i * es)) h := by
  show inB (.ofNat i) n (fun j => k (.ptr b (Nat.add o (Nat.mul j es))) h) = _
  show bc (Nat.ble (Nat.succ i) n) _ none = _
  rw [ble_true (show Nat.succ i ≤ n from hi)]; rfl
end
end Go.AI

/- Laws over a code: the memory that the call begins with, and calls whose answer holds no memory. -/
namespace Go.AI
open Go Go.RowKit
noncomputable section
set_option linter.unusedVariables false
set_option linter.unusedSimpArgs false
variable {P : Program}

/-- A call that has written nothing old and answers with no memory: what it made is forgotten. -/
theorem Tri.quiet {f : FuncId} {args : List AV} {h : H} {r : R} (T : Tri P f args h.mark r) (hp : r.1.plain = true) (hlo : h.n ≤ r.2.lo) : Tri P f args h (r.1, h) :=
  ⟨T.can, fun ι w vs hR hV => (T.run ι w vs hR.mark hV).mono fun e w' ⟨x, ι', he, hx, hE, _⟩ => by
    have hb := Ext.quiet hR hE hlo
    exact ⟨x, ι, he, plain_mono hp hx, Ext.of_below hR hb, hR.grow hb⟩⟩
def quietC (c : AV → H → Option R) (a0 : AV) (h : H) : Option R := onSome (c a0 h.mark) fun r => bc r.1.plain (bc (Nat.ble h.n r.2.lo) (some (r.1, h)) none) none
theorem quietC_sound {f : FuncId} {c : AV → H → Option R} (hs : ∀ args h r, u1 c args h = some r → Tri P f args h r) : ∀ args h r, u1 (quietC c) args h = some r → Tri P f args h r := by
  intro args h r e
  obtain ⟨a0, rfl, e1⟩ := u1_some e
  obtain ⟨r1, h1, e2⟩ := onSome_some e1
  obtain ⟨h2, e3⟩ := bif_some e2
  obtain ⟨h3, e4⟩ := bif_some e3
  cases e4
  exact Tri.quiet (hs [a0] h.mark r1 h1) h2 (Nat.le_of_ble_eq_true h3)
theorem quietC_ok {c : AV → H → Option R} {a0 x : AV} {h h' : H} (e : c a0 h.mark = some (x, h')) (hp : x.plain = true) (hlo : h.n ≤ h'.lo) : quietC c a0 h = some (x, h) := by
  unfold quietC; rw [e]
  show bc x.plain (bc (Nat.ble h.n h'.lo) (some (x, h)) none) none = _
  rw [hp, ble_true hlo]; rfl

/-- The memory that a law's call begins with: the code's bytes, if there are any. -/
def hCode (B : Blk) : H := ⟨1, .n .e B .e, 1⟩
theorem hCode_get (B : Blk) : (hCode B).get 0 = B := rfl
theorem hCode_dead (B : Blk) (c : Nat) (hc : c ≠ 0) : (hCode B).get c = .dead := by
  obtain ⟨c, rfl⟩ : ∃ d, c = d + 1 := ⟨c - 1, by omega⟩
  show (Tr.n .e B .e).get (c + 1) = _
  rw [Tr.get_succ]; split <;> rfl

theorem code_true {f : FuncId} {a0 : AV} {B : Blk} {h' : H} {ι : Inj} {w : World} {v : Value} (T : Tri P f [a0] (hCode B) (.bool true, h')) (hB : ¬ B.own) (hr : Rel ι (hCode B) w) (hv : VR ι a0 v) :
    Calls P f #[v] w fun e w' => e = .returned (.bool true) ∧ Below w.heap.size w w' :=
  (T.run ι w [v] hr (.cons hv .nil)).mono fun e w' ⟨x, ι', he, hV, hE, _⟩ => ⟨by rw [he, hV.bool], hE.os, hE.tape, hE.output, hE.size, fun C hC => hE.block C hC fun ⟨b, o, s, e, ho⟩ => by
    by_cases hb : b = 0
    · subst hb; exact hB ho
    · rw [hCode_dead B b hb] at ho; exact ho⟩

/-- What a law over a code needs: that it is true whatever the code. -/
def CodeLaw (c : AV → H → Option R) : Prop := ∀ (a0 : AV) (n : Nat) (L : List AV) (B : Blk), ((a0 = .leaf .nils ∧ n = 0) ∨ a0 = .osl 0 0 n 1) → (0 < n → B = .cells 2 L) → (∀ i, i < n → ∃ v, L[i]? = some (.int 4 (.ofNat v)) ∧ v < 256) → ∃ h', c a0 (hCode B) = some (.bool true, h')

theorem wf_u8 {n : Int} (h : (Lit.int .u8 n).wf = true) : ∃ v : Nat, n = .ofNat v ∧ v < 256 := by
  have h : IntKind.u8.min ≤ n ∧ n ≤ IntKind.u8.max := by simpa [Lit.wf] using h
  have h1 : (0 : Int) ≤ n := h.1
  have h2 : n ≤ (255 : Int) := h.2
  exact ⟨n.toNat, by show n = ((n.toNat : Nat) : Int); omega, by omega⟩

theorem codeLaw_walk {f : FuncId} {c : AV → H → Option R} (hs : ∀ args h r, u1 c args h = some r → Tri P f args h r) (hc : CodeLaw c) {a : Option Addr} {len cap : Nat} {zs : List Int} {w : World}
    (hw : (a = none ∧ len = 0 ∧ cap = 0 ∧ zs = []) ∨ ∃ x, a = some x ∧ len ≤ cap ∧ cap ≤ maxLen ∧ zs.length = cap ∧ (∀ i, i < zs.length → w.cell? (x.add i) = some (.int .u8 (zs.getD i 0))) ∧ ∀ n ∈ zs, (Lit.int .u8 n).wf = true) :
    Calls P f #[.slice a len cap] w fun e w' => e = .returned (.bool true) ∧ Below w.heap.size w w' := by
  have r0 : Rel (fun _ => none) (hCode .dead) w := {
    fresh := fun _ _ e => by cases e
    lt := fun _ _ _ _ e => by cases e
    inj := fun b c B o s o' s' hb => by
      by_cases h0 : b = 0
      · subst h0; exact hb.elim
      · rw [hCode_dead _ b h0] at hb; exact hb.elim
    blk := fun b hb => by
      by_cases h0 : b = 0
      · subst h0; exact absurd rfl hb
      · exact absurd (hCode_dead _ b h0) hb }
  rcases hw with ⟨rfl, rfl, rfl, rfl⟩ | ⟨x, rfl, hlc, hmax, hz, hcell, hwf⟩
  · obtain ⟨h', e⟩ := hc (.leaf .nils) 0 [] .dead (.inl ⟨rfl, rfl⟩) (by omega) (by omega)
    exact code_true (hs [.leaf .nils] _ _ e) (fun h => h) r0 rfl
  by_cases hc0 : cap = 0
  · obtain rfl : len = 0 := by omega
    subst hc0
    obtain ⟨h', e⟩ := hc (.osl 0 0 0 1) 0 [] .dead (.inr rfl) (by omega) (by omega)
    exact code_true (hs [.osl 0 0 0 1] _ _ e) (fun h => h) r0 ⟨x, 0, rfl, Nat.le_refl _, .inl rfl⟩
  -- the row lies in a block
  have hc1 := hcell 0 (by omega)
  obtain ⟨B, off, spot⟩ := x
  have hsp : spot = none := by
    have h1 : w.cell? ⟨B, off, spot⟩ = some (.int .u8 (zs.getD 0 0)) := hc1
    cases spot with
    | none => rfl
    | some s =>
      exfalso
      unfold World.cell? at h1
      split at h1
      · simp at h1
      · cases h1
  subst hsp
  have hcell' : ∀ i, i < zs.length → w.cell? ⟨B, off + i, none⟩ = some (.int .u8 (zs.getD i 0)) := fun i hi => by rw [← addr_add]; exact hcell i hi
  obtain ⟨cc, ty, lo, hi, hB⟩ : ∃ cc ty lo hi, w.heap[B]? = some (.cells cc ty (lo, hi)) := by
    have h1 := hcell' 0 (by omega)
    unfold World.cell? at h1
    split at h1
    · rename_i c t fr hh; exact ⟨c, t, fr.1, fr.2, hh⟩
    · cases h1
  have hcc : ∀ i, i < zs.length → cc[off + i]? = some (.int .u8 (zs.getD i 0)) := fun i hi => by rw [← cell_row hB]; exact hcell' i hi
  have hsz : off + cap ≤ cc.size := by
    have := (Array.getElem?_eq_some_iff.1 (hcc (cap - 1) (by omega))).1
    omega
  have hL : ∀ i, i < zs.length → ∃ v, (zs.map fun z => AV.int 4 z)[i]? = some (.int 4 (.ofNat v)) ∧ v < 256 := fun i hi => by
    obtain ⟨v, hv, hv2⟩ := wf_u8 (hwf _ (List.getElem_mem hi))
    exact ⟨v, by rw [List.getElem?_map, List.getElem?_eq_getElem hi, hv]; rfl, hv2⟩
  obtain ⟨h', e⟩ := hc (.osl 0 0 len 1) len (zs.map fun z => AV.int 4 z) (.cells 2 (zs.map fun z => AV.int 4 z)) (.inr rfl) (fun _ => rfl) (fun i hi => hL i (by omega))
  let ι : Inj := fun b => if b = 0 then some (B, off, cc.size) else none
  have hι : ι 0 = some (B, off, cc.size) := rfl
  have hιn : ∀ b, b ≠ 0 → ι b = none := fun b hb => if_neg hb
  have hlt : B < w.heap.size := (Array.getElem?_eq_some_iff.1 hB).1
  have r1 : Rel ι (hCode (.cells 2 (zs.map fun z => AV.int 4 z))) w := {
    fresh := fun b y eb => by
      by_cases hb : b = 0
      · subst hb; exact Nat.zero_lt_one
      · rw [hιn b hb] at eb; cases eb
    lt := fun b C o s eb => by
      by_cases hb : b = 0
      · subst hb; rw [hι] at eb; cases eb; exact hlt
      · rw [hιn b hb] at eb; cases eb
    inj := fun b d C o s o' s' hb => by
      exfalso
      by_cases h0 : b = 0
      · subst h0; exact absurd (show 2 < 2 from hb) (by omega)
      · rw [hCode_dead _ b h0] at hb; exact hb
    blk := fun b hb => by
      by_cases h0 : b = 0
      · subst h0
        refine ⟨B, off, cc.size, rfl, cc, ty, lo, hi, hB, rfl, fun i a hi => ?_, fun h => absurd h (by omega), fun h => absurd h (by omega)⟩
        rw [List.getElem?_map] at hi
        cases hz' : zs[i]? with
        | none => rw [hz'] at hi; cases hi
        | some z =>
          rw [hz'] at hi
          cases hi
          have hil := (List.getElem?_eq_some_iff.1 hz').1
          refine ⟨_, hcc i hil, ?_⟩
          have : zs.getD i 0 = z := by rw [List.getD_eq_getElem?_getD, hz']; rfl
          rw [this]; exact (rfl : VX ι (.int 4 z) [.int (kd 4) z])
      · exact absurd (hCode_dead _ b h0) hb }
  exact code_true (hs [.osl 0 0 len 1] _ _ e) (show ¬ (2 < 2) by omega) r1 ⟨⟨B, off, none⟩, cap, rfl, hlc, .inr ⟨B, off, cc.size, hι, by simp, by omega⟩⟩
end
end Go.AI

/- Rows that come in, of any length: what reads them; a copy of one; two compared; a law over a row of numbers. -/
namespace Go.AI
open Go Go.RowKit
noncomputable section
set_option linter.unusedVariables false
set_option linter.unusedSimpArgs false
/-- A slice of n cells that stand for L, read out of block b (which may hold more: T). -/
structure Rd (x : AV) (b n : Nat) (L T : List AV) : Prop where
  size : L.length = n
  len : ∀ (h : H) (k : AV → H → Option R), aLenK 1 x h k = k (nI n) h
  at_ : ∀ (h : H) (fl : Nat), h.get b = .cells fl (L ++ T) → ∀ i a, L[i]? = some a → ∀ k : AV → H → Option R, aIdxAddr 1 x (nI i) h (fun y h => aLoad y h k) = k a h
  atq : ∀ (h : H) (fl : Nat), h.get b = .cells fl (L ++ T) → ∀ i a, L[i]? = some a → ∀ k : AV → Option R, aIdxAddr 1 x (nI i) h (fun y _ => aLoad y h fun z _ => k z) = k a
theorem left_at {L T : List AV} {i : Nat} {a : AV} (ha : L[i]? = some a) : (L ++ T)[i]? = some a := by
  rw [List.getElem?_append_left (List.getElem?_eq_some_iff.1 ha).1]; exact ha
theorem Rd.osl (b : Nat) {L T : List AV} {n : Nat} (hn : L.length = n) : Rd (.osl b 0 n 1) b n L T :=
  ⟨hn, fun _ _ => rfl, fun h fl hb i a ha k => by rw [idxOsl (by have := (List.getElem?_eq_some_iff.1 ha).1; omega), load_at hb (by rw [nthO_eq, Nat.zero_add, Nat.mul_one]; exact left_at ha)],
   fun h fl hb i a ha k => by rw [idxOsl (by have := (List.getElem?_eq_some_iff.1 ha).1; omega), load_at hb (by rw [nthO_eq, Nat.zero_add, Nat.mul_one]; exact left_at ha)]⟩
theorem idxSl {b o n c i : Nat} {h : H} {α : Type} {k : AV → H → Option α} (hi : i < n) : aIdxAddr 1 (.leaf (.sl b o n c)) (nI i) h k = k (.ptr b (o + i)) h := by
  show inB (.ofNat i) n (fun j => k (.ptr b (Nat.add o (Nat.mul j 1))) h) = _
  show bc (Nat.ble (Nat.succ i) n) (k (.ptr b (o + i * 1)) h) none = _
  rw [ble_true (show Nat.succ i ≤ n from hi), Nat.mul_one]; rfl
theorem Rd.sl (b c : Nat) {L T : List AV} {n : Nat} (hn : L.length = n) : Rd (.leaf (.sl b 0 n c)) b n L T :=
  ⟨hn, fun _ _ => rfl, fun h fl hb i a ha k => by rw [idxSl (by have := (List.getElem?_eq_some_iff.1 ha).1; omega), load_at hb (by rw [nthO_eq, Nat.zero_add]; exact left_at ha)],
   fun h fl hb i a ha k => by rw [idxSl (by have := (List.getElem?_eq_some_iff.1 ha).1; omega), load_at hb (by rw [nthO_eq, Nat.zero_add]; exact left_at ha)]⟩

/-! ### A copy, element by element -/
def copyB : List AV → H → (List AV → H → Option R) → Option R := fun vs h kc3 => (fun x4 x5 x6 => aLenK 1 x4 h fun x7 h => aCmpI ilt x6 x7 h fun x8 h => withBool x8 fun t9 => bc t9 (aIdxAddr 1 x4 x6 h fun x10 h => aLoad x10 h fun x11 h => aIdxAddr 1 x5 x6 h fun x12 h => aStore x12 x11 h fun x13 h => aArith iadd x6 (AV.int 3 (Int.ofNat 1)) h fun x14 h => kc3 [x4, x5, x14] h) (some (x5, h))) (hd vs) (hd (tl vs)) (hd (tl (tl vs)))
theorem setNth_get (v : AV) : ∀ (l : List AV) (q i : Nat), q < l.length → (setNth v l q)[i]? = if i = q then some v else l[i]?
  | [], q, i, h => by simp at h
  | b :: t, 0, 0, h => rfl
  | b :: t, 0, i + 1, h => by show (v :: t)[i + 1]? = _; simp
  | b :: t, q + 1, 0, h => by show (b :: setNth v t q)[0]? = _; simp
  | b :: t, q + 1, i + 1, h => by
    show (b :: setNth v t q)[i + 1]? = _
    rw [List.getElem?_cons_succ, setNth_get v t q i (by simpa using h)]
    simp
theorem setNth_len (v : AV) : ∀ (l : List AV) (q : Nat), (setNth v l q).length = l.length
  | [], q => rfl
  | b :: t, 0 => rfl
  | b :: t, q + 1 => by show (b :: setNth v t q).length = _; simp [setNth_len v t q]
theorem copy_loop {x : AV} {b n q fl : Nat} {L T : List AV} (r : Rd x b n L T) (hone : ∀ a ∈ L, a.one1 = true) (hqb : q ≠ b) (hn : n ≤ 1048576) : ∀ (m i N : Nat) (h : H) (M : List AV), i + m = n → h.get b = .cells fl (L ++ T) → h.get q = .cells 0 M → M.length = n → (∀ j, j < i → M[j]? = L[j]?) → m < N →
    ∃ h', loopD N copyB [x, .leaf (.sl q 0 n n), nI i] h = some (.leaf (.sl q 0 n n), h') ∧ h'.get q = .cells 0 L ∧ (∀ c, c ≠ q → h'.get c = h.get c) ∧ h'.n = h.n
  | m, i, 0, h, M, _, _, _, _, _, hN => absurd hN (Nat.not_lt_zero _)
  | 0, i, N + 1, h, M, hi, hb, hq, hM, hs, hN => by
    refine ⟨h, ?_, ?_, fun _ _ => rfl, rfl⟩
    · rw [loopD_succ]
      delta copyB
      dsimp only [hd_cons, tl_cons]
      rw [r.len, lssN, withBool_bool, ble_false (by omega), bc_false]
    · rw [hq]
      congr 1
      apply List.ext_getElem?
      intro j
      by_cases hj : j < i
      · exact hs j hj
      · rw [List.getElem?_eq_none (by omega), List.getElem?_eq_none (by rw [r.size]; omega)]
  | m + 1, i, N + 1, h, M, hi, hb, hq, hM, hs, hN => by
    obtain ⟨a, ha⟩ : ∃ a, L[i]? = some a := ⟨_, List.getElem?_eq_getElem (by rw [r.size]; omega)⟩
    have hg : (h.set q (.cells 0 (setNth a M i))).get q = .cells 0 (setNth a M i) := get_set_eq
    obtain ⟨h', e1, e2, e3, e4⟩ := copy_loop r hone hqb hn m (i + 1) N (h.set q (.cells 0 (setNth a M i))) (setNth a M i) (by omega) (by rw [get_set_ne (Ne.symm hqb)]; exact hb) hg (by rw [setNth_len, hM]) (fun j hj => by
      rw [setNth_get _ _ _ _ (by omega)]
      by_cases hji : j = i
      · rw [if_pos hji, hji, ha]
      · rw [if_neg hji]; exact hs j (by omega)) (by omega)
    refine ⟨h', ?_, e2, fun c hc => by rw [e3 c hc, get_set_ne hc], e4⟩
    rw [loopD_succ]
    delta copyB
    dsimp only [hd_cons, tl_cons]
    rw [r.len, lssN, withBool_bool, ble_true (show Nat.succ i ≤ n by omega), bc_true, r.at_ h fl hb i a ha, idxSl (by omega), Nat.zero_add, store_at hq (by omega) (by omega) (hone a (List.mem_of_getElem? ha)), show AV.int 3 (Int.ofNat 1) = nI 1 from rfl, addN (by omega)]
    exact e1
/-- The whole copy: a make, and the loop. -/
theorem copy_ok {x z : AV} {b n fl bs : Nat} {L T : List AV} (r : Rd x b n L T) (hone : ∀ a ∈ L, a.one1 = true) (hn : n ≤ 1048576) (hbs : bs ≤ 16) {F : Nat} (hF : 1048576 < F) {h : H} (hb : h.get b = .cells fl (L ++ T)) (hbn : b < h.n) :
    ∃ h', (aLenK 1 x h fun x1 h => aMake bs [z] x1 x1 h fun x2 h => loopD F copyB [x, x2, nI 0] h) = some (.leaf (.sl h.n 0 n n), h') ∧ h'.get h.n = .cells 0 L ∧ (∀ c, c < h.n → h'.get c = h.get c) ∧ h'.n = h.n + 1 := by
  have hm : ∀ k : AV → H → Option R, aMake bs [z] (nI n) (nI n) h k = k (.leaf (.sl h.n 0 n n)) (h.push (.cells 0 (repL n [z]))) := fun k => by
    show bc (Nat.ble n n) (bc (Nat.ble (Nat.mul bs n) 281474976710656) (bc (Nat.ble n 9223372036854775807) _ none) none) none = _
    have hmul : bs * n ≤ 16 * 1048576 := Nat.mul_le_mul hbs hn
    rw [ble_true (Nat.le_refl n), ble_true (show Nat.mul bs n ≤ 281474976710656 from Nat.le_trans hmul (by omega)), ble_true (by omega)]; rfl
  obtain ⟨h', e1, e2, e3, e4⟩ := copy_loop (q := h.n) (fl := fl) r hone (by omega) hn n 0 F (h.push (.cells 0 (repL n [z]))) (repL n [z]) (by omega) (by rw [get_push_lt hbn]; exact hb) (get_push_eq rfl) (by rw [repL_length]; simp) (fun j hj => by omega) (by omega)
  refine ⟨h', ?_, e2, fun c hc => by rw [e3 c (by omega), get_push_lt hc], e4⟩
  rw [r.len, hm]
  exact e1

/-! ### Two rows compared -/
theorem eq_loop {x y : AV} {b b' n fl fl' : Nat} {L T T' : List AV} {cmp : AV → AV → H → (AV → H → Option R) → Option R} {body : List AV → H → (List AV → H → Option R) → Option R}
    (hbody : ∀ x6 x7 x8 h kc, body [x6, x7, x8] h kc = aLenK 1 x6 h fun x9 h => aCmpI ilt x8 x9 h fun x10 h => withBool x10 fun t11 => bc t11 (aIdxAddr 1 x6 x8 h fun x12 _ => aLoad x12 h fun x13 _ => aIdxAddr 1 x7 x8 h fun x14 _ => aLoad x14 h fun x15 _ => cmp x13 x15 h fun x16 _ => withBool x16 fun t17 => bc t17 (some ((AV.bool false), h)) (aArith iadd x8 (AV.int 3 (Int.ofNat 1)) h fun x18 h => kc [x6, x7, x18] h)) (some ((AV.bool true), h)))
    (r : Rd x b n L T) (r' : Rd y b' n L T') (hc : ∀ a ∈ L, ∀ h k, cmp a a h k = k (.bool false) h) (hn : n ≤ 1048576) : ∀ (m i N : Nat) (h : H), i + m = n → h.get b = .cells fl (L ++ T) → h.get b' = .cells fl' (L ++ T') → m < N →
    loopD N body [x, y, nI i] h = some (.bool true, h)
  | m, i, 0, h, _, _, _, hN => absurd hN (Nat.not_lt_zero _)
  | 0, i, N + 1, h, hi, hb, hb', hN => by
    rw [loopD_succ, hbody, r.len, lssN, withBool_bool, ble_false (by omega), bc_false]
  | m + 1, i, N + 1, h, hi, hb, hb', hN => by
    obtain ⟨a, ha⟩ : ∃ a, L[i]? = some a := ⟨_, List.getElem?_eq_getElem (by rw [r.size]; omega)⟩
    rw [loopD_succ, hbody, r.len, lssN, withBool_bool, ble_true (show Nat.succ i ≤ n by omega), bc_true]
    rw [r.atq h fl hb i a ha fun x13 => aIdxAddr 1 y (nI i) h fun x14 _ => aLoad x14 h fun x15 _ => cmp x13 x15 h fun x16 _ => withBool x16 fun t17 => bc t17 (some ((AV.bool false), h)) (aArith iadd (nI i) (AV.int 3 (Int.ofNat 1)) h fun x18 h => loopD N body [x, y, x18] h)]
    rw [r'.atq h fl' hb' i a ha fun x15 => cmp a x15 h fun x16 _ => withBool x16 fun t17 => bc t17 (some ((AV.bool false), h)) (aArith iadd (nI i) (AV.int 3 (Int.ofNat 1)) h fun x18 h => loopD N body [x, y, x18] h)]
    rw [hc a (List.mem_of_getElem? ha), withBool_bool, bc_false, show AV.int 3 (Int.ofNat 1) = nI 1 from rfl, addN (by omega)]
    exact eq_loop hbody r r' hc hn m (i + 1) N h (by omega) hb hb' (by omega)
theorem nbeq_self (n : Nat) : bnot (Nat.beq n n) = false := by rw [Nat.beq_refl]; rfl
theorem eq_rows {x y : AV} {b b' n fl fl' : Nat} {L T T' : List AV} {cmp : AV → AV → H → (AV → H → Option R) → Option R} {body : List AV → H → (List AV → H → Option R) → Option R}
    (hbody : ∀ x6 x7 x8 h kc, body [x6, x7, x8] h kc = aLenK 1 x6 h fun x9 h => aCmpI ilt x8 x9 h fun x10 h => withBool x10 fun t11 => bc t11 (aIdxAddr 1 x6 x8 h fun x12 _ => aLoad x12 h fun x13 _ => aIdxAddr 1 x7 x8 h fun x14 _ => aLoad x14 h fun x15 _ => cmp x13 x15 h fun x16 _ => withBool x16 fun t17 => bc t17 (some ((AV.bool false), h)) (aArith iadd x8 (AV.int 3 (Int.ofNat 1)) h fun x18 h => kc [x6, x7, x18] h)) (some ((AV.bool true), h)))
    (r : Rd x b n L T) (r' : Rd y b' n L T') (hc : ∀ a ∈ L, ∀ h k, cmp a a h k = k (.bool false) h) (hn : n ≤ 1048576) {F : Nat} (hF : 1048576 < F) {h : H} (hb : h.get b = .cells fl (L ++ T)) (hb' : h.get b' = .cells fl' (L ++ T')) :
    (aLenK 1 x h fun x1 h => aLenK 1 y h fun x2 h => aCmpI (fun a b => bnot (ieq a b)) x1 x2 h fun x3 h => withBool x3 fun t4 => bc t4 (some ((AV.bool false), h)) (loopD F body [x, y, (AV.int 3 (Int.ofNat 0))] h)) = some (.bool true, h) := by
  rw [r.len, r'.len, show ∀ k : AV → H → Option R, aCmpI (fun a b => bnot (ieq a b)) (nI n) (nI n) h k = k (.bool (bnot (Nat.beq n n))) h from fun _ => rfl, nbeq_self, withBool_bool, bc_false]
  exact eq_loop hbody r r' hc hn n 0 F h (by omega) hb hb' (by omega)
/-- What a law over a row of numbers needs: that it is true whatever the row. -/
def IntLaw (c : AV → H → Option R) : Prop := ∀ (a0 : AV) (n : Nat) (L : List Int) (B : Blk), ((a0 = .leaf .nils ∧ n = 0) ∨ a0 = .osl 0 0 n 1) → (0 < n → B = .cells 2 (L.map (AV.int 3))) → n ≤ L.length → ∃ h', c a0 (hCode B) = some (.bool true, h')
variable {P : Program}
theorem intLaw_walk {f : FuncId} {c : AV → H → Option R} (hs : ∀ args h r, u1 c args h = some r → Tri P f args h r) (hc : IntLaw c) {a : Option Addr} {len cap : Nat} {zs : List Int} {w : World}
    (hw : (a = none ∧ len = 0 ∧ cap = 0 ∧ zs = []) ∨ ∃ x, a = some x ∧ len ≤ cap ∧ cap ≤ maxLen ∧ zs.length = cap ∧ (∀ i, i < zs.length → w.cell? (x.add i) = some (.int .i64 (zs.getD i 0))) ∧ ∀ n ∈ zs, (Lit.int .i64 n).wf = true) :
    Calls P f #[.slice a len cap] w fun e w' => e = .returned (.bool true) ∧ Below w.heap.size w w' := by
  have r0 : Rel (fun _ => none) (hCode .dead) w := {
    fresh := fun _ _ e => by cases e
    lt := fun _ _ _ _ e => by cases e
    inj := fun b c B o s o' s' hb => by
      by_cases h0 : b = 0
      · subst h0; exact hb.elim
      · rw [hCode_dead _ b h0] at hb; exact hb.elim
    blk := fun b hb => by
      by_cases h0 : b = 0
      · subst h0; exact absurd rfl hb
      · exact absurd (hCode_dead _ b h0) hb }
  rcases hw with ⟨rfl, rfl, rfl, rfl⟩ | ⟨x, rfl, hlc, hmax, hz, hcell, hwf⟩
  · obtain ⟨h', e⟩ := hc (.leaf .nils) 0 [] .dead (.inl ⟨rfl, rfl⟩) (by omega) (Nat.zero_le _)
    exact code_true (hs [.leaf .nils] _ _ e) (fun h => h) r0 rfl
  by_cases hc0 : cap = 0
  · obtain rfl : len = 0 := by omega
    subst hc0
    obtain ⟨h', e⟩ := hc (.osl 0 0 0 1) 0 [] .dead (.inr rfl) (by omega) (Nat.zero_le _)
    exact code_true (hs [.osl 0 0 0 1] _ _ e) (fun h => h) r0 ⟨x, 0, rfl, Nat.le_refl _, .inl rfl⟩
  -- the row lies in a block
  have hc1 := hcell 0 (by omega)
  obtain ⟨B, off, spot⟩ := x
  have hsp : spot = none := by
    have h1 : w.cell? ⟨B, off, spot⟩ = some (.int .i64 (zs.getD 0 0)) := hc1
    cases spot with
    | none => rfl
    | some s =>
      exfalso
      unfold World.cell? at h1
      split at h1
      · simp at h1
      · cases h1
  subst hsp
  have hcell' : ∀ i, i < zs.length → w.cell? ⟨B, off + i, none⟩ = some (.int .i64 (zs.getD i 0)) := fun i hi => by rw [← addr_add]; exact hcell i hi
  obtain ⟨cc, ty, lo, hi, hB⟩ : ∃ cc ty lo hi, w.heap[B]? = some (.cells cc ty (lo, hi)) := by
    have h1 := hcell' 0 (by omega)
    unfold World.cell? at h1
    split at h1
    · rename_i c t fr hh; exact ⟨c, t, fr.1, fr.2, hh⟩
    · cases h1
  have hcc : ∀ i, i < zs.length → cc[off + i]? = some (.int .i64 (zs.getD i 0)) := fun i hi => by rw [← cell_row hB]; exact hcell' i hi
  have hsz : off + cap ≤ cc.size := by
    have := (Array.getElem?_eq_some_iff.1 (hcc (cap - 1) (by omega))).1
    omega
  obtain ⟨h', e⟩ := hc (.osl 0 0 len 1) len zs (.cells 2 (zs.map fun z => AV.int 3 z)) (.inr rfl) (fun _ => rfl) (by omega)
  let ι : Inj := fun b => if b = 0 then some (B, off, cc.size) else none
  have hι : ι 0 = some (B, off, cc.size) := rfl
  have hιn : ∀ b, b ≠ 0 → ι b = none := fun b hb => if_neg hb
  have hlt : B < w.heap.size := (Array.getElem?_eq_some_iff.1 hB).1
  have r1 : Rel ι (hCode (.cells 2 (zs.map fun z => AV.int 3 z))) w := {
    fresh := fun b y eb => by
      by_cases hb : b = 0
      · subst hb; exact Nat.zero_lt_one
      · rw [hιn b hb] at eb; cases eb
    lt := fun b C o s eb => by
      by_cases hb : b = 0
      · subst hb; rw [hι] at eb; cases eb; exact hlt
      · rw [hιn b hb] at eb; cases eb
    inj := fun b d C o s o' s' hb => by
      exfalso
      by_cases h0 : b = 0
      · subst h0; exact absurd (show 2 < 2 from hb) (by omega)
      · rw [hCode_dead _ b h0] at hb; exact hb
    blk := fun b hb => by
      by_cases h0 : b = 0
      · subst h0
        refine ⟨B, off, cc.size, rfl, cc, ty, lo, hi, hB, rfl, fun i a hi => ?_, fun h => absurd h (by omega), fun h => absurd h (by omega)⟩
        rw [List.getElem?_map] at hi
        cases hz' : zs[i]? with
        | none => rw [hz'] at hi; cases hi
        | some z =>
          rw [hz'] at hi
          cases hi
          have hil := (List.getElem?_eq_some_iff.1 hz').1
          refine ⟨_, hcc i hil, ?_⟩
          have : zs.getD i 0 = z := by rw [List.getD_eq_getElem?_getD, hz']; rfl
          rw [this]; exact (rfl : VX ι (.int 3 z) [.int (kd 3) z])
      · exact absurd (hCode_dead _ b h0) hb }
  exact code_true (hs [.osl 0 0 len 1] _ _ e) (show ¬ (2 < 2) by omega) r1 ⟨⟨B, off, none⟩, cap, rfl, hlc, .inr ⟨B, off, cc.size, hι, by simp, by omega⟩⟩
end
end Go.AI
