/- What is no node: errors.As at the program's own error type, as a function that is given; and the memory that a call begins with: the variable of package errors. -/
import Derived.Test.YtlcmolcajoeagaaDoorRaw
import Derived.WalkKit
import Derived.LaidEql
import Derived.Stop.Asserts
import Derived.RowKitTokens
import Derived.LaidHandle
import Derived.KernelRfl
namespace Go.NoNode
open Go Go.RowKit Go.Extern Go.Proofs Go.Extern.Stop Go.Stop
set_option linter.unusedVariables false
set_option linter.unusedSimpArgs false
set_option maxRecDepth 100000

abbrev hdl (t : Nat) : Value := .pointer (some ⟨2, t, none⟩)
/-- A Value of reflectlite's: its type, where it lies, its flags. -/
abbrev rv (t : Nat) (a : Addr) (fl : Int) : Value := .agg #[hdl t, .pointer (some a), .int .u64 fl]

theorem vo_ptr (t : Addr) (w : World) : (ReflectliteValue.unpack (.iface 70 (.pointer (some t)))).run Tryd.prog w = .ok (rv 70 ⟨w.heap.size, 0, none⟩ 150) (w.alloc (.cells #[.pointer (some t)] 70)) := by kernel_rfl
theorem vo_node (n : Int) (w : World) : (ReflectliteValue.unpack (.iface 68 (.agg #[.int .i64 n]))).run Tryd.prog w = .ok (rv 68 ⟨w.heap.size, 0, none⟩ 153) (w.alloc (.cells #[.int .i64 n] 68)) := by kernel_rfl
theorem ty_ptr (a : Addr) (w : World) : (ReflectliteValue.methodAny (ReflectliteValue.valueError "reflectlite.Value.Type" 0) (fun t _ _ _ => ReflectliteType.toType t) #[rv 70 a 150]).run Tryd.prog w = .ok (.iface 97 (.agg #[hdl 70])) w := by kernel_rfl
theorem m_kind (h : Value) (w : World) : (Go.method 261 97 (.agg #[h]) "Kind").run Tryd.prog w = .ok (94, h) w := by kernel_rfl
theorem m_elem (h : Value) (w : World) : (Go.method 261 97 (.agg #[h]) "Elem").run Tryd.prog w = .ok (104, .agg #[h]) w := by kernel_rfl
theorem m_impl (h : Value) (w : World) : (Go.method 261 97 (.agg #[h]) "Implements").run Tryd.prog w = .ok (105, .agg #[h]) w := by kernel_rfl
theorem m_asgn (h : Value) (w : World) : (Go.method 261 97 (.agg #[h]) "AssignableTo").run Tryd.prog w = .ok (102, .agg #[h]) w := by kernel_rfl
theorem k_ptr (w : World) : ((ReflectliteType.abiMethod fun t => (fun a : Nat => Value.int IntKind.u8 (a : Int)) <$> Rtype.kind t) #[hdl 70]).run Tryd.prog w = .ok (.int .u8 22) w := by kernel_rfl
theorem k_node (w : World) : ((ReflectliteType.abiMethod fun t => (fun a : Nat => Value.int IntKind.u8 (a : Int)) <$> Rtype.kind t) #[hdl 68]).run Tryd.prog w = .ok (.int .u8 25) w := by kernel_rfl
theorem el_ptr (w : World) : (ReflectliteType.method ReflectliteType.elem #[.agg #[hdl 70]]).run Tryd.prog w = .ok (.iface 97 (.agg #[hdl 68])) w := by kernel_rfl
theorem im_node (w : World) : (ReflectliteType.relation "Implements" ReflectliteType.implements_ #[.agg #[hdl 68], .iface 97 (.agg #[hdl 39])]).run Tryd.prog w = .ok (.bool true) w := by kernel_rfl
theorem to_node (v : Value) (w : World) : (ReflectliteType.typeOf #[.iface 68 v]).run Tryd.prog w = .ok (.iface 97 (.agg #[hdl 68])) w := by kernel_rfl
theorem as_node (w : World) : (ReflectliteType.relation "AssignableTo" ReflectliteType.assignableTo #[.agg #[hdl 68], .iface 97 (.agg #[hdl 68])]).run Tryd.prog w = .ok (.bool true) w := by kernel_rfl
theorem pa_ptr (a : Addr) (w : World) : (ReflectliteValue.parts (rv 70 a 150)).run Tryd.prog w = .ok (some (70, a, 150)) w := by kernel_rfl
theorem pa_dst (a : Addr) (w : World) : (ReflectliteValue.parts (rv 68 a 409)).run Tryd.prog w = .ok (some (68, a, 409)) w := by kernel_rfl
theorem pa_src (a : Addr) (w : World) : (ReflectliteValue.parts (rv 68 a 153)).run Tryd.prog w = .ok (some (68, a, 153)) w := by kernel_rfl
theorem of_ptr (w : World) : (Rtype.elem? 70).run Tryd.prog w = .ok (some 68) w := by kernel_rfl
theorem mk_node (p : Addr) (w : World) : (ReflectliteValue.mk 68 p ReflectliteValue.flagAddr).run Tryd.prog w = .ok (rv 68 p 409) w := by kernel_rfl
theorem dir_node (w : World) : (Rtype.directlyAssignable 68 68).run Tryd.prog w = .ok true w := by kernel_rfl
/-- A Value's method, opened. -/
theorem met (z : Sem Value) (f : TypeId → Addr → Nat → Nat → Sem Value) (v : Value) :
    ReflectliteValue.method z f #[v] = (do match ← ReflectliteValue.parts v with | none => z | some (t, a, fl) => f t a fl (fl % 32)) := rfl
/-- The pointer that is handed over is not nil. -/
theorem nil_ptr (a p : Addr) (w : World) (h : w.cell? a = some (.pointer (some p))) :
    (ReflectliteValue.method (ReflectliteValue.valueError "reflectlite.Value.IsNil" 0) ReflectliteValue.isNil #[rv 70 a 150]).run Tryd.prog w = .ok (.bool false) w := by
  rw [met]
  simp only [Sem.run_bind, pa_ptr, Result.andThen]
  simp [ReflectliteValue.isNil, loadVar, isAgg, underlying, Tryd.underlying70, h, Result.andThen]
/-- What it points to. -/
theorem elem_ptr (a p : Addr) (w : World) (h : w.cell? a = some (.pointer (some p))) :
    (ReflectliteValue.method (ReflectliteValue.valueError "reflectlite.Value.Elem" 0) ReflectliteValue.elem #[rv 70 a 150]).run Tryd.prog w = .ok (rv 68 p 409) w := by
  rw [met]
  simp only [Sem.run_bind, pa_ptr, Result.andThen]
  simp [ReflectliteValue.elem, loadVar, isAgg, underlying, Tryd.underlying70, h, Result.andThen, of_ptr, mk_node]
theorem set_eq (v x : Value) : ReflectliteValue.set #[v, x] = (do
    let (some (dst, a, fl), some (src, b, _)) := (← ReflectliteValue.parts v, ← ReflectliteValue.parts x)
      | unsupported (.noEntry "extern/(internal/reflectlite.Value).Set.zeroValue")
    if fl / ReflectliteValue.flagAddr % 2 == 0 then unsupported (.noEntry "extern/(internal/reflectlite.Value).Set.unaddressable")
    let val ← loadVar src b
    if ← Rtype.directlyAssignable dst src then storeVar dst a val
    else if ← Rtype.implements dst src then
      if (← Rtype.kind src) == 20 then
        match val with
        | .nilIface => unsupported (.noEntry "extern/reflectlite: a nil value of one interface type handed on as a value of another")
        | _ => storeVar dst a val
      else storeVar dst a (.iface src val)
    else panicString ("reflectlite.Set: value of type " ++ (← Rtype.spelt src) ++ " is not assignable to type " ++ (← Rtype.spelt dst))
    pure (.tuple #[])) := rfl
/-- The error's number is laid into the variable. -/
theorem set_node (p b : Addr) (n : Int) (old : Value) (w : World) (hs : b.spot = none) (hs' : p.spot = none) (hb : w.cell? b = some (.int .i64 n)) (hp : w.cell? p = some old) (hf : w.frozen? p = false) :
    (ReflectliteValue.set #[rv 68 p 409, rv 68 b 153]).run Tryd.prog w = .ok (.tuple #[]) (w.setCell p (.int .i64 n)) := by
  rw [set_eq]
  simp only [Sem.run_bind, pa_dst, pa_src, Result.andThen]
  have hb0 : b.add 0 = b := by cases b; cases hs; rfl
  have hp0 : p.add 0 = p := by cases p; cases hs'; rfl
  simp [ReflectliteValue.flagAddr, loadVar, isAgg, underlying, Tryd.underlying68, Tryd.sizeOf68, loadCells, loadCellsFrom, hb0, hb, Result.andThen, dir_node, storeVar, Value.cells, storeCells, hp0]
  rw [run_store Tryd.prog w p _ _ (by rfl)]
  simp [hp, hf]

/-- errors.As of no error. -/
theorem as_none (t : Value) (w : World) : Calls Tryd.prog 38 #[.nilIface, t] w fun e w' => e = .returned (.bool false) ∧ w' = w := by
  go_enter Tryd.func38, Tryd.ntmps38
  go_wp2
  go_ret
  exact ⟨rfl, rfl⟩

theorem find_vo : Extern.find Tryd.f49 = some (fun args => ReflectliteValue.unpack (args.getD 0 (.tuple #[]))) := by kernel_rfl

set_option maxHeartbeats 4000000 in
/-- errors.As of the program's error: the variable has its number; nothing else that was there has turned. -/
theorem as_some (n m : Int) (t : Addr) (w : World) (hg : w.cell? ⟨0, 0, none⟩ = some (.iface 97 (.agg #[hdl 39]))) (hts : t.spot = none) (ht0 : w.cell? t = some (.int .i64 m)) (hf0 : w.frozen? t = false) :
    Calls Tryd.prog 38 #[.iface 68 (.agg #[.int .i64 n]), .iface 70 (.pointer (some t))] w fun e w' => e = .returned (.bool true) ∧ w'.os = w.os ∧ w'.tape = w.tape ∧ w'.output = w.output ∧ w.heap.size ≤ w'.heap.size ∧ ∀ k, k < w.heap.size → k ≠ t.block → w'.heap[k]? = w.heap[k]? := by
  have x_vo := @run_callFunc_extern Tryd.prog 49 _ (fun args => ReflectliteValue.unpack (args.getD 0 (.tuple #[]))) Tryd.func49 (by kernel_rfl) (by kernel_rfl) (by kernel_rfl) (by kernel_rfl)
  have x_vt := @run_callFunc_extern Tryd.prog 50 _ (ReflectliteValue.methodAny (ReflectliteValue.valueError "reflectlite.Value.Type" 0) (fun t _ _ _ => ReflectliteType.toType t)) Tryd.func50 (by kernel_rfl) (by kernel_rfl) (by kernel_rfl) (by kernel_rfl)
  have x_vn := @run_callFunc_extern Tryd.prog 51 _ (ReflectliteValue.method (ReflectliteValue.valueError "reflectlite.Value.IsNil" 0) ReflectliteValue.isNil) Tryd.func51 (by kernel_rfl) (by kernel_rfl) (by kernel_rfl) (by kernel_rfl)
  have x_kd := @run_callFunc_extern Tryd.prog 94 _ (ReflectliteType.abiMethod fun t => do pure (.int .u8 (← Rtype.kind t))) Tryd.func94 (by kernel_rfl) (by kernel_rfl) (by kernel_rfl) (by kernel_rfl)
  have x_el := @run_callFunc_extern Tryd.prog 104 _ (ReflectliteType.method ReflectliteType.elem) Tryd.func104 (by kernel_rfl) (by kernel_rfl) (by kernel_rfl) (by kernel_rfl)
  have x_im := @run_callFunc_extern Tryd.prog 105 _ (ReflectliteType.relation "Implements" ReflectliteType.implements_) Tryd.func105 (by kernel_rfl) (by kernel_rfl) (by kernel_rfl) (by kernel_rfl)
  have x_to := @run_callFunc_extern Tryd.prog 56 _ ReflectliteType.typeOf Tryd.func56 (by kernel_rfl) (by kernel_rfl) (by kernel_rfl) (by kernel_rfl)
  have x_at := @run_callFunc_extern Tryd.prog 102 _ (ReflectliteType.relation "AssignableTo" ReflectliteType.assignableTo) Tryd.func102 (by kernel_rfl) (by kernel_rfl) (by kernel_rfl) (by kernel_rfl)
  have x_ve := @run_callFunc_extern Tryd.prog 57 _ (ReflectliteValue.method (ReflectliteValue.valueError "reflectlite.Value.Elem" 0) ReflectliteValue.elem) Tryd.func57 (by kernel_rfl) (by kernel_rfl) (by kernel_rfl) (by kernel_rfl)
  have x_vs := @run_callFunc_extern Tryd.prog 58 _ ReflectliteValue.set Tryd.func58 (by kernel_rfl) (by kernel_rfl) (by kernel_rfl) (by kernel_rfl)
  have e0 : (⟨w.heap.size, 0, none⟩ : Addr) = ⟨w.heap.size, 0, none⟩ := rfl
  have f1 := vo_ptr
  have f2 := vo_node
  have f3 := ty_ptr
  have f4 := m_kind
  have f5 := m_elem
  have f6 := m_impl
  have f7 := m_asgn
  have f8 := k_ptr
  have f9 := k_node
  have g1 := el_ptr
  have g2 := im_node
  have g3 := to_node
  have g4 := as_node
  have hlt : 0 < w.heap.size := by
    rcases Nat.eq_zero_or_pos w.heap.size with h0 | h
    · simp [World.cell?, h0] at hg
    · exact h
  have htl : t.block < w.heap.size := by
    rcases Nat.lt_or_ge t.block w.heap.size with h | h
    · exact h
    · simp [World.cell?, Array.getElem?_eq_none h] at ht0
  have n1 := nil_ptr ⟨w.heap.size, 0, none⟩ t ((w.alloc (.cells #[.pointer (some t)] 70)).alloc (.cells #[hdl 70, .pointer (some ⟨w.heap.size, 0, none⟩), .int .u64 150] 83)) (by simp)
  have n2 : ((w.alloc (.cells #[.pointer (some t)] 70)).alloc (.cells #[hdl 70, .pointer (some ⟨w.heap.size, 0, none⟩), .int .u64 150] 83)).cell? ⟨0, 0, none⟩ = some (.iface 97 (.agg #[hdl 39])) := by
    rw [World.cell?_alloc_lt _ _ ⟨0, 0, none⟩ (by simp), World.cell?_alloc_lt _ _ ⟨0, 0, none⟩ hlt]; exact hg
  have n3 := elem_ptr ⟨w.heap.size, 0, none⟩ t (((w.alloc (.cells #[.pointer (some t)] 70)).alloc (.cells #[hdl 70, .pointer (some ⟨w.heap.size, 0, none⟩), .int .u64 150] 83)).alloc (.cells #[hdl 70, .pointer (some ⟨w.heap.size, 0, none⟩), .int .u64 150] 83)) (by rw [World.cell?_alloc_lt _ _ _ (by simp; omega), World.cell?_alloc_lt _ _ _ (by simp), World.cell?_alloc_at _ _ _ _ (by simp)]; rfl)
  have n4 := set_node t ⟨w.heap.size + 1 + 1 + 1, 0, none⟩ n (.int .i64 m) ((((w.alloc (.cells #[.pointer (some t)] 70)).alloc (.cells #[hdl 70, .pointer (some ⟨w.heap.size, 0, none⟩), .int .u64 150] 83)).alloc (.cells #[hdl 70, .pointer (some ⟨w.heap.size, 0, none⟩), .int .u64 150] 83)).alloc (.cells #[.int .i64 n] 68)) rfl hts (by rw [World.cell?_alloc_at _ _ _ _ (by simp)]; rfl)
    (by rw [World.cell?_alloc_lt _ _ t (by simp; omega), World.cell?_alloc_lt _ _ t (by simp; omega), World.cell?_alloc_lt _ _ t (by simp; omega), World.cell?_alloc_lt _ _ t htl]; exact ht0)
    (by rw [World.frozen?_alloc_old _ _ t (by simp; omega), World.frozen?_alloc_old _ _ t (by simp; omega), World.frozen?_alloc_old _ _ t (by simp; omega), World.frozen?_alloc_old _ _ t (Nat.ne_of_lt htl)]; exact hf0)
  go_enter Tryd.func38, Tryd.ntmps38
  go_wp2
  refine wp_loop_rounds 1 ?_
  rw [rounds_succ]
  go_wp2
  go_ret
  refine ⟨rfl, rfl, rfl, rfl, by simp [World.setCell]; omega, fun k hk hkt => ?_⟩
  rw [Below.heap_setCell _ _ _ _ hkt, Below.heap_alloc _ _ _ (by simp; omega), Below.heap_alloc _ _ _ (by simp; omega), Below.heap_alloc _ _ _ (by simp; omega), Below.heap_alloc _ _ _ hk]

set_option maxHeartbeats 1000000 in
/-- The program's own test: no error. -/
theorem is_none (w : World) : Calls Tryd.prog 20 #[.nilIface] w fun e w' => e = .returned (.bool false) ∧ Below w.heap.size w w' := by
  have hA := fun t w => as_none t w
  go_enter Tryd.func20, Tryd.ntmps20
  go_wp2_with (go_at_call 38; refine (hA _ _).mono ?_; rintro e w' ⟨rfl, rfl⟩)
  go_ret
  exact ⟨rfl, rfl, rfl, rfl, by simp, fun k hk => Below.heap_alloc _ _ _ hk⟩
set_option maxHeartbeats 1000000 in
/-- .. the program's own error. -/
theorem is_some (n : Int) (w : World) (hg : w.cell? ⟨0, 0, none⟩ = some (.iface 97 (.agg #[hdl 39]))) : Calls Tryd.prog 20 #[.iface 68 (.agg #[.int .i64 n])] w fun e w' => e = .returned (.bool true) ∧ Below w.heap.size w w' := by
  have hlt : 0 < w.heap.size := by
    rcases Nat.eq_zero_or_pos w.heap.size with h0 | h
    · simp [World.cell?, h0] at hg
    · exact h
  have hA := as_some n 0 ⟨w.heap.size, 0, none⟩ (w.alloc (.cells #[.int .i64 0] 68)) (by rw [World.cell?_alloc_lt _ _ ⟨0, 0, none⟩ hlt]; exact hg) rfl (by rw [World.cell?_alloc_at _ _ _ _ rfl]; rfl) (by simp)
  go_enter Tryd.func20, Tryd.ntmps20
  go_wp2_with (go_at_call 38; refine hA.mono ?_; rintro e w' ⟨rfl, h1, h2, h3, h4, h5⟩)
  go_ret
  refine ⟨rfl, h1, h2, h3, by simp at h4; omega, fun k hk => ?_⟩
  rw [h5 k (by simp; omega) (by simp; omega), Below.heap_alloc _ _ _ hk]
end Go.NoNode

namespace Go.AI.T
open Go Go.RowKit Go.AI
noncomputable section
set_option linter.unusedVariables false
/-- The variable of package errors is known to hold its handle. -/
def pinOk (h : H) : Bool := @Blk.rec (fun _ => Bool) false (fun fl _ => Nat.beq fl 8596291627) (fun _ _ => false) (h.get 0)
def nilA (x : AV) (r : Option R) : Option R := x.onLeaf none fun l => @Leaf.rec (fun _ => Option R) none none none none none none r (fun _ => none) (fun _ _ _ _ => none) (fun _ => none) l
theorem nilA_some {x : AV} {y : Option R} {r : R} (e : nilA x y = some r) : x = .nil ∧ y = some r := by
  cases x <;> (try (cases e; done))
  rename_i l
  cases l <;> first | exact ⟨rfl, e⟩ | cases e
/-- The program's test whether an error is its own. -/
def c_impl_isNoNode (F g : Nat) (a0 : AV) (h : H) : Option R :=
  bc (pinOk h) (a0.onIf none (some (.bool false, h)) fun t v => bc (Nat.beq t 68) (v.onAgg none fun l => l.onCons none fun x tl => x.onInt none fun k _ => bc (Nat.beq k 3) (nilA tl (some (.bool true, h))) none) none) none
theorem pinOk_spec {h : H} (e : pinOk h = true) : (h.get 0).pins 131169 39 := by
  unfold pinOk at e
  generalize h.get 0 = x at e ⊢
  cases x with
  | dead => cases e
  | map _ _ => cases e
  | cells fl l => have := Nat.eq_of_beq_eq_true e; subst this; exact ⟨by decide, l, rfl⟩
theorem s_impl_isNoNode (F g : Nat) : ∀ args h r, u1 (c_impl_isNoNode F g) args h = some r → Tri Go.Proofs.Tryd.prog id_impl_isNoNode args h r := by
  intro args h r e
  obtain ⟨a0, rfl, e1⟩ := u1_some e
  obtain ⟨hp, e2⟩ := bif_some e1
  have hp := pinOk_spec hp
  refine ⟨⟨_, Go.Proofs.Tryd.func20, by kernel_rfl, by kernel_rfl⟩, fun ι w vs hR hV => ?_⟩
  cases hV with
  | cons h1 hV =>
    cases hV
    obtain ⟨_, hw⟩ := hR.pin 0 _ _ hp
    cases a0 using AV.casesE <;> (try (cases e2; done))
    case nili =>
      cases e2
      obtain rfl : _ = Value.nilIface := by simpa [VX] using h1
      refine (Go.NoNode.is_none w).mono ?_
      rintro e w' ⟨rfl, hb⟩
      exact ⟨_, ι, rfl, rfl, Ext.grow hR hb, hR.grow hb⟩
    case iface t v =>
      obtain ⟨ht, e3⟩ := bif_some e2
      have ht := Nat.eq_of_beq_eq_true ht
      subst ht
      cases v using AV.casesE <;> (try (cases e3; done))
      rename_i l
      cases l using AV.casesE <;> (try (cases e3; done))
      rename_i x tl
      cases x using AV.casesE <;> (try (cases e3; done))
      rename_i k n
      obtain ⟨hk, e4⟩ := bif_some e3
      have hk := Nat.eq_of_beq_eq_true hk
      subst hk
      obtain ⟨rfl, e5⟩ := nilA_some e4
      cases e5
      obtain ⟨y, hy, cs, hcs, z, zs, hz, h3, h4⟩ := h1
      have hz1 : cs = #[.int .i64 n] := by
        have h4 : zs = [] := h4
        have h3 : [z] = [Value.int (kd 3) n] := h3
        subst h4
        injection h3 with h3 _
        subst h3
        apply Array.ext'
        rw [hz]; rfl
      subst hz1
      injection hcs with hcs _
      subst hcs
      injection hy with hy _
      subst hy
      refine (Go.NoNode.is_some n w hw).mono ?_
      rintro e w' ⟨rfl, hb⟩
      exact ⟨_, ι, rfl, rfl, Ext.grow hR hb, hR.grow hb⟩
end
end Go.AI.T
