/- Bytes looked for and counted in texts, in company. -/
import Derived.Test.YtelijoecjhgleaaGreatDoorCmp
import Derived.Lib.Bytealg
import Derived.Conc.EntryLaws
import Derived.KernelRfl
set_option linter.unusedVariables false
set_option linter.unusedSimpArgs false
set_option maxRecDepth 100000
namespace Go.Co.Cnt
open Go Go.Conc Go.AI Go.RowKit
noncomputable section
def Ri0 : Array Oper := List.toArray ([Go.Oper.mk (some (4)) (Go.Op.assign (Go.Operand.const (Go.Value.int (Go.IntKind.i64) (0)))) (3) ("strings.go:24") (List.toArray ([])) (none)])
def Ri1 : Array Oper := List.toArray ([Go.Oper.mk (some (5)) (Go.Op.move (Go.Operand.tmp (0))) (9) ("strings.go:25") (List.toArray ([])) (none), Go.Oper.mk (some (6)) (Go.Op.move (Go.Operand.tmp (1))) (5) ("strings.go:25") (List.toArray ([])) (none), Go.Oper.mk (some (7)) (Go.Op.call (Go.Call.mk (Go.Callee.value (Go.Operand.func (199))) (List.toArray ([Go.Operand.tmp (5), Go.Operand.tmp (6)])) (List.toArray ([9, 5])))) (3) ("strings.go:25") (List.toArray ([Go.Edge.mk (0) (Go.Ground.data), Go.Edge.mk (1) (Go.Ground.data)])) (none), Go.Oper.mk (some (4)) (Go.Op.assign (Go.Operand.tmp (7))) (3) ("strings.go:25") (List.toArray ([Go.Edge.mk (2) (Go.Ground.data), Go.Edge.mk (2) (Go.Ground.chain), Go.Edge.mk (0) (Go.Ground.phase), Go.Edge.mk (1) (Go.Ground.phase), Go.Edge.mk (2) (Go.Ground.phase)])) (none)])
def Ci : Code := Code.seq (Code.region 0 Ri0 false) (Code.seq (Code.region 1 Ri1 false) (Go.Code.ret))
theorem body_i : Go.Proofs.Tryz.f136.body = some Ci := by kernel_rfl
def Rkc0 : Array Oper := List.toArray ([Go.Oper.mk (some (4)) (Go.Op.assign (Go.Operand.const (Go.Value.int (Go.IntKind.i64) (0)))) (3) ("strings.go:42") (List.toArray ([])) (none)])
def Rkc1 : Array Oper := List.toArray ([Go.Oper.mk (some (7)) (Go.Op.move (Go.Operand.tmp (1))) (9) ("strings.go:44") (List.toArray ([])) (none), Go.Oper.mk (some (8)) (Go.Op.call (Go.Call.mk (Go.Callee.builtin (Go.Builtin.len)) (List.toArray ([Go.Operand.tmp (7)])) (List.toArray ([9])))) (3) ("strings.go:44") (List.toArray ([Go.Edge.mk (0) (Go.Ground.data)])) (none), Go.Oper.mk (some (9)) (Go.Op.binOp (Go.BinOp.eql) (3) (Go.Operand.tmp (8)) (Go.Operand.const (Go.Value.int (Go.IntKind.i64) (0))) (3)) (4) ("strings.go:44") (List.toArray ([Go.Edge.mk (1) (Go.Ground.data)])) (none)])
def Rkc3 : Array Oper := List.toArray ([Go.Oper.mk (some (13)) (Go.Op.move (Go.Operand.tmp (1))) (9) ("strings.go:47") (List.toArray ([])) (none), Go.Oper.mk (some (14)) (Go.Op.call (Go.Call.mk (Go.Callee.builtin (Go.Builtin.len)) (List.toArray ([Go.Operand.tmp (13)])) (List.toArray ([9])))) (3) ("strings.go:47") (List.toArray ([Go.Edge.mk (0) (Go.Ground.data)])) (none), Go.Oper.mk (some (15)) (Go.Op.binOp (Go.BinOp.eql) (3) (Go.Operand.tmp (14)) (Go.Operand.const (Go.Value.int (Go.IntKind.i64) (1))) (3)) (4) ("strings.go:47") (List.toArray ([Go.Edge.mk (1) (Go.Ground.data)])) (none)])
def Rkc4 : Array Oper := List.toArray ([Go.Oper.mk (some (16)) (Go.Op.move (Go.Operand.tmp (0))) (9) ("strings.go:48") (List.toArray ([])) (none), Go.Oper.mk (some (17)) (Go.Op.move (Go.Operand.tmp (1))) (9) ("strings.go:48") (List.toArray ([])) (none), Go.Oper.mk (some (18)) (Go.Op.index (9) (Go.Operand.tmp (17)) (Go.Operand.const (Go.Value.int (Go.IntKind.i64) (0)))) (5) ("strings.go:48") (List.toArray ([Go.Edge.mk (1) (Go.Ground.data)])) (none), Go.Oper.mk (some (19)) (Go.Op.call (Go.Call.mk (Go.Callee.value (Go.Operand.func (76))) (List.toArray ([Go.Operand.tmp (16), Go.Operand.tmp (18)])) (List.toArray ([9, 5])))) (3) ("strings.go:48") (List.toArray ([Go.Edge.mk (0) (Go.Ground.data), Go.Edge.mk (2) (Go.Ground.data)])) (none), Go.Oper.mk (some (4)) (Go.Op.assign (Go.Operand.tmp (19))) (3) ("strings.go:48") (List.toArray ([Go.Edge.mk (3) (Go.Ground.data), Go.Edge.mk (3) (Go.Ground.chain), Go.Edge.mk (0) (Go.Ground.phase), Go.Edge.mk (1) (Go.Ground.phase), Go.Edge.mk (2) (Go.Ground.phase), Go.Edge.mk (3) (Go.Ground.phase)])) (none)])
noncomputable def kL : Code -> Code | .seq a _ => a | c => c
noncomputable def kR : Code -> Code | .seq _ b => b | c => c
noncomputable def kT : Code -> Code | .cond _ a _ => a | c => c
noncomputable def Xk : Code := kT (kR (kL (kR (bodyOf Go.Proofs.Tryz.f45))))
noncomputable def Yk : Code := kR (kR (kR (bodyOf Go.Proofs.Tryz.f45)))
theorem body_kc : Go.Proofs.Tryz.f45.body = some (.seq (.region 0 Rkc0 false) (.seq (.seq (.region 1 Rkc1 false) (.cond (.tmp 9) Xk .skip)) (.seq (.seq (.region 3 Rkc3 false) (.cond (.tmp 15) (.seq (.region 4 Rkc4 false) .ret) .skip)) Yk))) := by kernel_rfl
theorem ev_idx {P : Program} (s : ByteArray) (c : Int) (w : World) (es : Array Event) : (Extern.BytealgIndexByte.indexByte #[.string s, .int .u8 c]).events P w es = es := by
  change Sem.events P (do
    let b <- Extern.Bytes.bytesOf (.string s)
    let c' <- Extern.Bytes.asByte (.int .u8 c)
    match (List.range b.size).find? fun i => b[i]! == c' with
    | some i => pure (goInt i)
    | none => pure (goInt (-1))) w es = es
  simp only [Extern.Bytes.bytesOf, Extern.Bytes.asByte, pure_bind]
  split <;> simp
section
variable {P : Program} {a : Act} {o : Oper} {x : Operand} {v : Value} {d t : Nat}
theorem peN (h : d ≠ t) : (a.put (some d) v).eval (.tmp t) = a.eval (.tmp t) := by
  simp [Act.put, Act.eval, Array.getElem?_setIfInBounds, h]
theorem two_eq {x x' y y' : Value} (h : x = x') (h' : y = y') : (#[x, y] : Array Value) = #[x', y'] := by rw [h, h']
theorem psz {q : Option Nat} : (a.put q v).tmps.size = a.tmps.size := by cases q <;> simp [Act.put]
theorem peE (h : d < a.tmps.size) : (a.put (some d) v).eval (.tmp d) = v := by
  simp [Act.put, Act.eval, h]
section
variable {ρ : Operand -> Value}
theorem rMv (hop : o.op = .move x) (h : ρ x = v) (w : World) : (execOp ρ o).run P w = .ok (.value v) w := by simp [execOp, hop, h]
theorem eMv (hop : o.op = .move x) (w : World) : (execOp ρ o).events P w #[] = #[] := by simp [execOp, hop]
theorem rAs (hop : o.op = .assign x) (h : ρ x = v) (w : World) : (execOp ρ o).run P w = .ok (.value v) w := by simp [execOp, hop, h]
theorem eAs (hop : o.op = .assign x) (w : World) : (execOp ρ o).events P w #[] = #[] := by simp [execOp, hop]
theorem rLen {s : ByteArray} {n : Int} (hop : o.op = .call { callee := .builtin .len, args := #[x], argTypes := #[9] }) (h : ρ x = .string s) (hn : (s.size : Int) = n) (w : World) : (execOp ρ o).run Go.Proofs.Tryz.prog w = .ok (.value (.int .i64 n)) w := by
  subst hn
  have e : execOp ρ o = execOp (fun _ => .string s) o := by unfold execOp; simp [hop, h, resolve]
  rw [e]
  simp [execOp, hop, Builtin.len_, go_sem]
theorem eLen {s : ByteArray} (hop : o.op = .call { callee := .builtin .len, args := #[x], argTypes := #[9] }) (h : ρ x = .string s) (w : World) : (execOp ρ o).events Go.Proofs.Tryz.prog w #[] = #[] := by
  have e : execOp ρ o = execOp (fun _ => .string s) o := by unfold execOp; simp [hop, h, resolve]
  rw [e]
  simp [execOp, hop, Builtin.len_, go_sem]
theorem rEq {n k : Int} {b : Bool} (hop : o.op = .binOp .eql 3 x (.const (.int .i64 k)) 3) (h : ρ x = .int .i64 n) (hc : ρ (.const (.int .i64 k)) = .int .i64 k) (hb : (n == k) = b) (w : World) : (execOp ρ o).run Go.Proofs.Tryz.prog w = .ok (.value (.bool b)) w := by
  subst hb; simp [execOp, hop, h, hc, go_sem]
theorem eEq {n k : Int} (hop : o.op = .binOp .eql 3 x (.const (.int .i64 k)) 3) (h : ρ x = .int .i64 n) (hc : ρ (.const (.int .i64 k)) = .int .i64 k) (w : World) : (execOp ρ o).events Go.Proofs.Tryz.prog w #[] = #[] := by
  simp [execOp, hop, h, hc, go_sem]
theorem rIx {c : UInt8} (hop : o.op = .index 9 x (.const (.int .i64 0))) (h : ρ x = .string ⟨#[c]⟩) (hc : ρ (.const (.int .i64 0)) = .int .i64 0) (w : World) : (execOp ρ o).run Go.Proofs.Tryz.prog w = .ok (.value (.int .u8 c.toNat)) w := by
  unfold execOp
  simp only [hop, h, hc]
  simp [Instr.index, go_sem]
  rfl
theorem eIx {c : UInt8} (hop : o.op = .index 9 x (.const (.int .i64 0))) (h : ρ x = .string ⟨#[c]⟩) (hc : ρ (.const (.int .i64 0)) = .int .i64 0) (w : World) : (execOp ρ o).events Go.Proofs.Tryz.prog w #[] = #[] := by
  unfold execOp
  simp only [hop, h, hc]
  simp [Instr.index, go_sem]
end
end
theorem ev_cnt {P : Program} (s : ByteArray) (c : Int) (w : World) (es : Array Event) : (Extern.BytealgCount.count #[.string s, .int .u8 c]).events P w es = es := by
  change Sem.events P (do
    let b <- Extern.Bytes.bytesOf (.string s)
    let c' <- Extern.Bytes.asByte (.int .u8 c)
    pure (goInt (b.foldl (fun n x => if x == c' then n + 1 else n) (0 : Nat)))) w es = es
  simp [Extern.Bytes.bytesOf, Extern.Bytes.asByte]
end
end Go.Co.Cnt
namespace Go.AI.T
open Go Go.RowKit Go.AI Go.Conc Go.Co Go.Co.Cnt
noncomputable section
theorem u8b (a : UInt8) (k : UInt8) : Nat.beq a.toNat k.toNat = decide (a = k) := by
  by_cases h : a = k
  · subst h; simp [Nat.beq_refl]
  · rw [decide_eq_false h]
    cases hb : Nat.beq a.toNat k.toNat with
    | false => rfl
    | true => exact absurd (UInt8.toNat_inj.1 (Nat.eq_of_beq_eq_true hb)) h
def idxN (k : Nat) (l : List Nat) : Option Nat := @List.rec Nat (fun _ => Option Nat) none (fun c _ r => bc (Nat.beq c k) (some 0) (@Option.rec Nat (fun _ => Option Nat) none (fun j => some (Nat.succ j)) r)) l
def intO (x : Option Nat) : Int := @Option.rec Nat (fun _ => Int) (.negSucc 0) (fun j => .ofNat j) x
theorem idxN_eq (k : UInt8) : ∀ l : List UInt8, intO (idxN k.toNat (l.map UInt8.toNat)) = Lib.indexByte l k
  | [] => rfl
  | c :: l => by
    have ih := idxN_eq k l
    show intO (bc (Nat.beq c.toNat k.toNat) (some 0) (@Option.rec Nat (fun _ => Option Nat) none (fun j => some (Nat.succ j)) (idxN k.toNat (l.map UInt8.toNat)))) = _
    unfold Lib.indexByte
    rw [u8b, <- ih]
    by_cases h : c = k
    · subst h; simp [bc_true, intO]
    · rw [decide_eq_false h, zaag, if_neg (by simpa using h)]
      cases idxN k.toNat (l.map UInt8.toNat) with
      | none => rfl
      | some j =>
        show Int.ofNat (j + 1) = if (Int.ofNat j == -1) = true then -1 else Int.ofNat j + 1
        rw [if_neg (by simp)]; rfl
def cntN (k : Nat) (l : List Nat) : Nat := @List.rec Nat (fun _ => Nat) 0 (fun c _ r => bc (Nat.beq c k) (Nat.succ r) r) l
theorem cntN_eq (k : UInt8) : ∀ l : List UInt8, cntN k.toNat (l.map UInt8.toNat) = Lib.countByte l k
  | [] => rfl
  | c :: l => by
    have ih := cntN_eq k l
    show bc (Nat.beq c.toNat k.toNat) (Nat.succ (cntN k.toNat (l.map UInt8.toNat))) (cntN k.toNat (l.map UInt8.toNat)) = (c :: l).count k
    rw [u8b, ih, List.count_cons]
    by_cases h : c = k
    · subst h; simp [bc_true, Lib.countByte]
    · simp [h, zaag, Lib.countByte]
theorem map_u8i : ∀ {x y : List UInt8}, x.map UInt8.toNat = y.map UInt8.toNat -> x = y
  | [], [], _ => rfl
  | [], _ :: _, h => by cases h
  | _ :: _, [], h => by cases h
  | a :: x, b :: y, h => by
    rw [List.map_cons, List.map_cons] at h
    injection h with h1 h2
    rw [UInt8.toNat_inj.1 h1, map_u8i h2]
def c_internal_stringslite_IndexByte (F g : Nat) (a0 a1 : AV) (h : H) : Option R := withStr a0 fun l _ => withInt a1 fun k c => natI c fun u => bc (Nat.beq k 4) (bc (Nat.ble (Nat.succ u) 256) (some (.int 3 (intO (idxN u l)), h)) none) none
theorem co_internal_stringslite_IndexByte {Post : Value -> World -> Prop} {main : Bool} {fk : Option Fk} (F g : Nat) : ∀ args h r, u2 (c_internal_stringslite_IndexByte F g) args h = some r -> CoTri Go.Proofs.Tryz.prog tW Post main (fk, true) 136 args h r := by
  intro args h r e
  obtain ⟨a0, a1, rfl, e1⟩ := zafm e
  obtain ⟨l, n, rfl, e2⟩ := zaap e1
  obtain ⟨k, c, rfl, e3⟩ := zaah e2
  obtain ⟨u, rfl, e4⟩ := zah4 e3
  obtain ⟨hk, e5⟩ := zaab e4
  obtain ⟨hu, e6⟩ := zaab e5
  cases e6
  obtain rfl := Nat.eq_of_beq_eq_true hk
  have hu : u < 256 := Nat.le_of_ble_eq_true hu
  refine ⟨⟨_, Go.Proofs.Tryz.func136, by kernel_rfl, by kernel_rfl⟩, fun ι w vs s hR hC hV hF hfk => ?_⟩
  cases hV with
  | cons h1 hV =>
    cases hV with
    | cons h2 hV =>
      cases hV
      obtain ⟨s1, rfl, hl, _⟩ := h1.str
      obtain rfl := h2.int
      have hU : ((u : Nat) : Int).toNat.toUInt8.toNat = u := by simp [UInt8.toNat_ofNat']; omega
      have K : ∀ w₁, Rely tW s w w₁ -> PostC true ι h s w (.int 3 (intO (idxN u l)), h) (.int .i64 (Lib.indexByte s1.data.toList ((u : Nat) : Int).toNat.toUInt8)) s w₁ := fun w₁ r =>
        ⟨ι, by rw [<- idxN_eq, hU, hl]; rfl, ExtC.rely hR hC r, zadj hR hC r, hC, hF.rely r⟩
      refine ⟨?_, _, s, w, K w (.refl _ _)⟩
      refine co_fn Go.Proofs.Tryz.func136 body_i ?_
      have e0 : (#[.string s1, .int .u8 u] : Array Value) ++ Array.replicate (Go.Proofs.Tryz.f136.ntmps - (#[.string s1, .int .u8 u] : Array Value).size) undef = #[.string s1, .int .u8 u, undef, undef, undef, undef, undef, undef] := by rw [Go.Proofs.Tryz.ntmps136]; rfl
      show CoC _ _ _ _ _ Ci _ { tmps := (#[.string s1, .int .u8 u] : Array Value) ++ Array.replicate (Go.Proofs.Tryz.f136.ntmps - (#[.string s1, .int .u8 u] : Array Value).size) undef, defers := [] } s w
      rw [e0]
      refine co_seq (zaav ?_)
      refine zads (ops := Ri0) (v := .int .i64 0) rfl rfl (fun w => rfl) (fun w => rfl) fun w1 r1 => ?_
      refine co_nil ?_
      refine co_seq (zaav ?_)
      refine zads (ops := Ri1) (v := .string s1) rfl rfl (fun w => rfl) (fun w => rfl) fun w2 r2 => ?_
      refine zads (ops := Ri1) (v := .int .u8 u) rfl rfl (fun w => rfl) (fun w => rfl) fun w3 r3 => ?_
      refine zarp (ops := Ri1) rfl rfl rfl Go.Proofs.Tryz.func199 (by kernel_rfl) (by kernel_rfl) (by kernel_rfl) (e := Extern.BytealgIndexByte.indexByte) (by kernel_rfl) (args := #[.string s1, .int .u8 u]) (by rw [List.map_toArray]; rfl) (fun w => Lib.run_indexByteString s1 u w) (fun w => ev_idx (P := Go.Proofs.Tryz.prog) s1 u w #[⟨.mark (.extern 199), false, true⟩]) fun w4 r4 => ?_
      refine zads (ops := Ri1) (v := .int .i64 (Lib.indexByte s1.data.toList ((u : Nat) : Int).toNat.toUInt8)) rfl rfl (fun w => rfl) (fun w => rfl) fun w5 r5 => ?_
      refine co_nil ?_
      have r := (((r1.trans r2).trans r3).trans r4).trans r5
      refine co_ret ⟨.inr rfl, rfl, fun w₁ r' => ⟨_, zacb (ts := [4]) rfl, zacm (A := fun _ => False) (zadq (ts := [4]) rfl) (fun _ h => h.elim) (zacb (ts := [4]) rfl) hF.busy (fun _ h => h.elim), K w₁ (r.trans r')⟩⟩
theorem wk_internal_stringslite_IndexByte {Post : Value -> World -> Prop} {main : Bool} (F g : Nat) : ∀ args h r, u2 (c_internal_stringslite_IndexByte F g) args h = some r -> CoTri Go.Proofs.Tryz.prog tW Post main (none, false) 136 args h r := fun args h r e => (co_internal_stringslite_IndexByte F g args h r e).weak
def c_strings_Count (F g : Nat) (a0 a1 : AV) (h : H) : Option R := withStr a0 fun l _ => withStr a1 fun l1 _ => @List.rec Nat (fun _ => Option R) none (fun k t _ => bc (Nat.beq (lenL t) 0) (bc (Nat.ble (Nat.succ k) 256) (some (.int 3 (.ofNat (cntN k l)), h)) none) none) l1
theorem co_strings_Count {Post : Value -> World -> Prop} {main : Bool} {fk : Option Fk} (F g : Nat) : ∀ args h r, u2 (c_strings_Count F g) args h = some r -> CoTri Go.Proofs.Tryz.prog tW Post main (fk, true) 45 args h r := by
  intro args h r e
  obtain ⟨a0, a1, rfl, e1⟩ := zafm e
  obtain ⟨l, n, rfl, e2⟩ := zaap e1
  obtain ⟨l1, n1, rfl, e3⟩ := zaap e2
  cases l1 with
  | nil => cases e3
  | cons u t =>
  have e3 : bc (Nat.beq (lenL t) 0) (bc (Nat.ble (Nat.succ u) 256) (some (AV.int 3 (.ofNat (cntN u l)), h)) none) none = some r := e3
  obtain ⟨h0, e4⟩ := zaab e3
  obtain ⟨hu, e5⟩ := zaab e4
  cases e5
  have h0 := Nat.eq_of_beq_eq_true h0
  rw [zabd] at h0
  obtain rfl := List.length_eq_zero_iff.1 h0
  have hu : u < 256 := Nat.le_of_ble_eq_true hu
  refine ⟨⟨_, Go.Proofs.Tryz.func45, by kernel_rfl, by kernel_rfl⟩, fun ι w vs s hR hC hV hF hfk => ?_⟩
  cases hV with
  | cons h1 hV =>
    cases hV with
    | cons h2 hV =>
      cases hV
      obtain ⟨s1, rfl, hl, _⟩ := h1.str
      obtain ⟨s2, rfl, hl', _⟩ := h2.str
      obtain ⟨cb, hcb⟩ : ∃ cb : UInt8, cb.toNat = u := ⟨UInt8.ofNat u, by simp [UInt8.toNat_ofNat']; omega⟩
      have hs2 : s2 = ⟨#[cb]⟩ := by
        have : s2.data.toList = [cb] := map_u8i (by rw [hl', List.map_cons, hcb]; rfl)
        obtain ⟨d⟩ := s2
        have h3 : d = #[cb] := Array.toList_inj.1 this
        rw [h3]
      subst hs2
      have hU : ((cb.toNat : Nat) : Int).toNat.toUInt8 = cb := by simp
      have K : ∀ w₁, Rely tW s w w₁ -> PostC true ι h s w (.int 3 (.ofNat (cntN u l)), h) (.int .i64 (Lib.countByte s1.data.toList ((cb.toNat : Nat) : Int).toNat.toUInt8)) s w₁ := fun w₁ r =>
        ⟨ι, by rw [hU, <- cntN_eq, hcb, hl]; rfl, ExtC.rely hR hC r, zadj hR hC r, hC, hF.rely r⟩
      refine ⟨?_, _, s, w, K w (.refl _ _)⟩
      refine co_fn Go.Proofs.Tryz.func45 body_kc ?_
      refine co_seq (zaav ?_)
      generalize ha0 : ({ tmps := [Value.string s1, Value.string ⟨#[cb]⟩].toArray ++ Array.replicate (Go.Proofs.Tryz.f45.ntmps - [Value.string s1, Value.string ⟨#[cb]⟩].toArray.size) undef, defers := [] } : Act) = a0
      have hd0 : a0.defers = [] := by rw [<- ha0]
      have sz0 : a0.tmps.size = 34 := by rw [<- ha0, Go.Proofs.Tryz.ntmps45]; simp
      have p0 : a0.eval (.tmp 0) = .string s1 := by rw [<- ha0]; simp [Act.eval]
      have p1 : a0.eval (.tmp 1) = .string ⟨#[cb]⟩ := by rw [<- ha0]; simp [Act.eval]
      clear ha0
      refine zads (ops := Rkc0) (v := .int .i64 0) rfl rfl (fun w => rfl) (fun w => rfl) fun w1 r1 => ?_
      refine co_nil ?_
      refine co_seq (co_seq (zaav ?_))
      refine zads (ops := Rkc1) (v := .string ⟨#[cb]⟩) rfl rfl (rMv rfl ((peN (d := 4) (by decide)).trans p1)) (eMv rfl) fun w2 r2 => ?_
      refine zads (ops := Rkc1) (v := .int .i64 1) rfl rfl (rLen rfl (peE (by simp only [psz, sz0]; decide)) rfl) (eLen rfl (peE (by simp only [psz, sz0]; decide))) fun w3 r3 => ?_
      refine zads (ops := Rkc1) (v := .bool false) rfl rfl (rEq rfl (peE (by simp only [psz, sz0]; decide)) rfl rfl) (eEq rfl (peE (by simp only [psz, sz0]; decide)) rfl) fun w4 r4 => ?_
      refine co_nil ?_
      refine zagc (t := false) (peE (by simp only [psz, sz0]; decide)) ?_
      refine zaik ?_
      refine co_seq (co_seq (zaav ?_))
      refine zads (ops := Rkc3) (v := .string ⟨#[cb]⟩) rfl rfl (rMv rfl ((peN (d := 9) (by decide)).trans ((peN (d := 8) (by decide)).trans ((peN (d := 7) (by decide)).trans ((peN (d := 4) (by decide)).trans p1))))) (eMv rfl) fun w5 r5 => ?_
      refine zads (ops := Rkc3) (v := .int .i64 1) rfl rfl (rLen rfl (peE (by simp only [psz, sz0]; decide)) rfl) (eLen rfl (peE (by simp only [psz, sz0]; decide))) fun w6 r6 => ?_
      refine zads (ops := Rkc3) (v := .bool true) rfl rfl (rEq rfl (peE (by simp only [psz, sz0]; decide)) rfl rfl) (eEq rfl (peE (by simp only [psz, sz0]; decide)) rfl) fun w7 r7 => ?_
      refine co_nil ?_
      refine zagc (t := true) (peE (by simp only [psz, sz0]; decide)) ?_
      refine co_seq (zaav ?_)
      refine zads (ops := Rkc4) (v := .string s1) rfl rfl (rMv rfl ((peN (d := 15) (by decide)).trans ((peN (d := 14) (by decide)).trans ((peN (d := 13) (by decide)).trans ((peN (d := 9) (by decide)).trans ((peN (d := 8) (by decide)).trans ((peN (d := 7) (by decide)).trans ((peN (d := 4) (by decide)).trans p0)))))))) (eMv rfl) fun w8 r8 => ?_
      refine zads (ops := Rkc4) (v := .string ⟨#[cb]⟩) rfl rfl (rMv rfl ((peN (d := 16) (by decide)).trans ((peN (d := 15) (by decide)).trans ((peN (d := 14) (by decide)).trans ((peN (d := 13) (by decide)).trans ((peN (d := 9) (by decide)).trans ((peN (d := 8) (by decide)).trans ((peN (d := 7) (by decide)).trans ((peN (d := 4) (by decide)).trans p1))))))))) (eMv rfl) fun w9 r9 => ?_
      refine zads (ops := Rkc4) (v := .int .u8 cb.toNat) rfl rfl (rIx rfl (peE (by simp only [psz, sz0]; decide)) rfl) (eIx rfl (peE (by simp only [psz, sz0]; decide)) rfl) fun w10 r10 => ?_
      refine zarp (ops := Rkc4) rfl rfl rfl Go.Proofs.Tryz.func76 (by kernel_rfl) (by kernel_rfl) (by kernel_rfl) (e := Extern.BytealgCount.count) (by kernel_rfl) (args := #[.string s1, .int .u8 cb.toNat]) ?_ (fun w => Lib.run_countString s1 cb.toNat w) (fun w => ev_cnt (P := Go.Proofs.Tryz.prog) s1 cb.toNat w #[⟨.mark (.extern 76), false, true⟩]) fun w11 r11 => ?_
      · rw [List.map_toArray]
        exact two_eq ((peN (d := 18) (by decide)).trans ((peN (d := 17) (by decide)).trans (peE (d := 16) (by simp only [psz, sz0]; decide)))) (peE (d := 18) (by simp only [psz, sz0]; decide))
      refine zads (ops := Rkc4) (v := .int .i64 (Lib.countByte s1.data.toList ((cb.toNat : Nat) : Int).toNat.toUInt8)) rfl rfl (rAs rfl (peE (by simp only [psz, sz0]; decide))) (eAs rfl) fun w12 r12 => ?_
      refine co_nil ?_
      have r := ((((((((((r1.trans r2).trans r3).trans r4).trans r5).trans r6).trans r7).trans r8).trans r9).trans r10).trans r11).trans r12
      refine co_ret ⟨.inr rfl, by simp only [zabb]; exact hd0, fun w₁ r' => ⟨_, zacb (ts := [4]) rfl, zacm (A := fun _ => False) (zadq (ts := [4]) rfl) (fun _ h => h.elim) (zacb (ts := [4]) rfl) hF.busy (fun _ h => h.elim), ?_⟩⟩
      exact (congrArg (fun v => PostC true ι h s w (AV.int 3 (.ofNat (cntN u l)), h) v s w₁) (peE (d := 4) (by simp only [psz, sz0]; decide))).mpr (K w₁ (r.trans r'))
theorem wk_strings_Count {Post : Value -> World -> Prop} {main : Bool} (F g : Nat) : ∀ args h r, u2 (c_strings_Count F g) args h = some r -> CoTri Go.Proofs.Tryz.prog tW Post main (none, false) 45 args h r := fun args h r e => (co_strings_Count F g args h r e).weak
end
end Go.AI.T
