/- An evaluator of the model, proved sound: code and calls. -/
import Derived.Test.YtlcmolcajoeagaaDoorAi1
import Derived.MapKept
import Derived.DeepKeys
import Derived.Stop.Asserts
import Derived.Still
import Derived.Deep.Quiet
import Derived.Below
import Derived.Scope
import Derived.ChangeSame
import Derived.KernelRfl

/- Maps whose keys are texts or integers. -/
namespace Go.AI
noncomputable section
open Go Go.RowKit Go.MapKept
set_option linter.unusedVariables false
set_option linter.unusedSimpArgs false
variable {α : Type} {P : Program} {ρ : Operand → Value} {o : Oper} {ι : Inj} {h : H} {w : World} {k : AV → H → Option α} {r : α}

def withMap (h : H) (b : Nat) (f : List (AV × AV × Nat) → Nat → Option α) : Option α := @Blk.rec (fun _ => Option α) none (fun _ _ => none) f (h.get b)
theorem withMap_some {b : Nat} {f : List (AV × AV × Nat) → Nat → Option α} (e : withMap h b f = some r) : ∃ es c, h.get b = .map es c ∧ f es c = some r := by
  unfold withMap at e
  cases hb : h.get b <;> rw [hb] at e
  · cases e
  · cases e
  · exact ⟨_, _, rfl, e⟩

/-- Two keys. -/
def keyEq (x y : AV) (f : Bool → Option α) : Option α :=
  x.onStr (withInt x fun j a => withInt y fun j' b => bc (Nat.beq j j') (f (ieq a b)) none) fun l _ => withStr y fun l' _ => f (eqL l l')
/-- An entry with a key: its place and its value; or none. -/
def findE (key : AV) (es : List (AV × AV × Nat)) : Nat → (Nat → AV → Option α) → Option α → Option α :=
  @List.rec (AV × AV × Nat) (fun _ => Nat → (Nat → AV → Option α) → Option α → Option α) (fun _ _ miss => miss)
    (fun e _ g i hit miss => keyEq key e.1 fun b => bc b (hit i e.2.1) (g (Nat.succ i) hit miss)) es
theorem findE_cons (key : AV) (e : AV × AV × Nat) (es : List (AV × AV × Nat)) (i : Nat) (hit : Nat → AV → Option α) (miss : Option α) :
    findE key (e :: es) i hit miss = keyEq key e.1 fun b => bc b (hit i e.2.1) (findE key es (Nat.succ i) hit miss) := rfl

/-- The kind of a key, as the type tells it. -/
def keyD (D : TypeDesc) (x : AV) : Bool := match D with
  | .string => x.onStr false fun _ _ => true
  | .int q => x.onInt false fun j _ => Nat.beq j (kc q)
  | _ => false

theorem keyEq_some {x y : AV} {u v : Value} {f : Bool → Option α} {D : TypeDesc} (hD : keyD D x = true) (hx : VR ι x u) (hy : VR ι y v) (e : keyEq x y f = some r) : ∃ b, Instr.sameNow D u v = some b ∧ f b = some r := by
  unfold keyD at hD
  split at hD
  · cases x using AV.casesE <;> first | (cases hD; done) | skip
    rename_i l n
    obtain ⟨l', n', rfl, e1⟩ := withStr_some (x := y) e
    obtain ⟨s, rfl, hl, _⟩ := hx.str
    obtain ⟨t, rfl, hl', _⟩ := hy.str
    subst hl; subst hl'
    refine ⟨_, rfl, ?_⟩
    have := eqL_eq s.data.toList t.data.toList
    rw [this] at e1
    rw [← e1]
    congr 1
    show (s.data == t.data) = _
    rw [Bool.eq_iff_iff]; simp
  · cases x using AV.casesE <;> first | (cases hD; done) | skip
    rename_i q j a
    obtain ⟨j', b, rfl, e1⟩ := withInt_some (x := y) e
    obtain ⟨hj, e2⟩ := bif_some e1
    have hj := Nat.eq_of_beq_eq_true hj
    subst hj
    rw [hx.int, hy.int]
    refine ⟨a == b, by simp [Instr.sameNow], ?_⟩
    rw [← e2, ieq_eq]
    congr 1
  · cases hD

theorem findE_some {key : AV} {kv : Value} {D : TypeDesc} (hD : keyD D key = true) (hk : VR ι key kv) {hit : Nat → AV → Option α} {miss : Option α} : ∀ {es : List (AV × AV × Nat)} {ms : List MapEntry} {i : Nat}, EntriesR ι es ms → findE key es i hit miss = some r →
    (∃ j a v, Instr.findNow D kv ms i = some (some (j, v)) ∧ VR ι a v ∧ hit j a = some r) ∨ (Instr.findNow D kv ms i = some none ∧ miss = some r)
  | [], ms, i, hE, e => by
    have hE : ms = [] := hE
    subst hE
    exact .inr ⟨rfl, e⟩
  | (x, y, n) :: es, ms, i, hE, e => by
    obtain ⟨m, ms', rfl, h1, h2, h3, h4⟩ := hE
    rw [findE_cons] at e
    obtain ⟨b, hb, e⟩ := keyEq_some hD hk h1 e
    cases b with
    | true => exact .inl ⟨i, y, m.val, by simp [Instr.findNow, hb], h2, e⟩
    | false =>
      rw [bc_false] at e
      rcases findE_some hD hk h4 e with ⟨j, a, v, g1, g2, g3⟩ | ⟨g1, g2⟩
      · exact .inl ⟨j, a, v, by simp [Instr.findNow, hb, g1], g2, g3⟩
      · exact .inr ⟨by simp [Instr.findNow, hb, g1], g2⟩

/-! ### A new map -/
def aMakeMap (h : H) (k : AV → H → Option α) : Option α := k (.leaf (.map h.n)) (h.push (.map [] 0))
theorem aMakeMap_gives {t : TypeId} (hr : Rel ι h w) (ho : o.op = .makeMap t none) (e : aMakeMap h k = some r) : Gives P ρ o ι h w k r := by
  refine ⟨.value (.map (some w.heap.size)), _, _, _, .leaf (.map h.n), _, ?_, .inl rfl, Ext.alloc hr _ _ 0, hr.alloc (.map [] 0) (.map #[] 0) 0 ⟨#[], rfl, rfl⟩, ⟨w.heap.size, 0, 0, ?_, rfl⟩, e⟩
  · simp [execOp, ho, Instr.makeMap, newObj]; rfl
  · simp [Inj.add]

/-! ### A look at a key -/
def resL (ok : Bool) (v : AV) (b : Bool) : AV := bc ok (.one .tup (.cons v (.cons (.bool b) (.leaf .nil)))) v
def aLookup (ok : Bool) (z m key : AV) (h : H) (k : AV → H → Option α) : Option α :=
  m.onLeaf none fun l => @Leaf.rec (fun _ => Option α) none none none (k (resL ok z false) h) none none none (fun b => withMap h b fun es _ => findE key es 0 (fun _ v => k (resL ok v true) h) (k (resL ok z false) h)) (fun _ _ _ _ => none) (fun _ => none) l

theorem keyD_isKey {D : TypeDesc} {x : AV} {u : Value} (hD : keyD D x = true) (hx : VR ι x u) : IsKey D u := by
  unfold keyD at hD
  split at hD
  · cases x using AV.casesE <;> first | (cases hD; done) | skip
    obtain ⟨s, rfl, _⟩ := hx.str
    simp [IsKey]
  · cases x using AV.casesE <;> first | (cases hD; done) | skip
    rename_i q j n
    have hj : Nat.beq j (kc q) = true := hD
    have hj := Nat.eq_of_beq_eq_true hj
    subst hj
    rw [hx.int, kd_kc]
    simp [IsKey]
  · cases hD

theorem resL_VR {ok b : Bool} {a : AV} {v : Value} (hv : VR ι a v) : VR ι (resL ok a b) (if ok then .tuple #[v, .bool b] else v) := by
  cases ok with
  | false => exact hv
  | true => exact ⟨#[v, .bool b], rfl, v, [.bool b], rfl, hv, .bool b, [], rfl, rfl, rfl⟩

theorem aLookup_gives {t kt et : TypeId} {D : TypeDesc} {x y : Operand} {ok : Bool} {m key : AV} {i : TypeInfo} {z : Value} (hr : Rel ι h w) (ho : o.op = .lookup t x y ok) (ht : P.underlying t = some (.map kt et)) (hk : P.underlying kt = some D)
    (hi : P.info? et = some i) (hz : i.zero = some z) (hD : keyD D key = true) (hx : VR ι m (ρ x)) (hy : VR ι key (ρ y)) (e : aLookup ok (ofV z) m key h k = some r) : GivesQ P ρ o ι h w k r := by
  have hK := keyD_isKey hD hy
  have hzr : ∀ w', (zeroValue et).run P w' = .ok z w' := fun w' => by simp [zeroValue, typeInfo, hi, hz]
  unfold aLookup at e
  cases m using AV.casesE <;> first | (cases e; done) | skip
  · have ex : ρ x = .map none := by
      have : [ρ x] = [.map none] := hx
      simpa using this
    refine ⟨_, _, fun w' hw' => ?_, resL_VR (ok := ok) (b := false) (VR.ofV ι z), e⟩
    simp [execOp, ho, ex, Instr.lookup, run_underlying ht, run_checkKey hk hK, run_findKey (P := P) (w := w') (kt := kt) (l := []) hk rfl, hzr, Result.andThen]
  · rename_i b
    have e : (withMap h b fun es _ => findE key es 0 (fun _ v => k (resL ok v true) h) (k (resL ok (ofV z) false) h)) = some r := e
    obtain ⟨es, c, hb, e⟩ := withMap_some e
    obtain ⟨B, base, sz, ib, ex⟩ := hx
    have ex : ρ x = .map (some B) := by simpa using ex
    obtain ⟨B', o', s', ib', hB⟩ := hr.blk b (by rw [hb]; intro hh; cases hh)
    rw [ib] at ib'
    cases ib'
    rw [hb] at hB
    obtain ⟨ms, hm, hE⟩ := hB
    have hm' : ∀ w', Below w.heap.size w w' → w'.heap[B]? = some (.map ms c) := fun w' hw' => by rw [hw'.block _ (hr.lt _ _ _ _ ib)]; exact hm
    rcases findE_some hD hy hE e with ⟨j, a, v, g1, g2, g3⟩ | ⟨g1, g2⟩
    · refine ⟨_, _, fun w' hw' => ?_, resL_VR (ok := ok) (b := true) g2, g3⟩
      simp [execOp, ho, ex, Instr.lookup, run_underlying ht, Go.MapKept.run_getObj_map (hm' w' hw'), run_checkKey hk hK, run_findKey (P := P) (w := w') (kt := kt) hk g1, Result.andThen]
    · refine ⟨_, _, fun w' hw' => ?_, resL_VR (ok := ok) (b := false) (VR.ofV ι z), g2⟩
      simp [execOp, ho, ex, Instr.lookup, run_underlying ht, Go.MapKept.run_getObj_map (hm' w' hw'), run_checkKey hk hK, run_findKey (P := P) (w := w') (kt := kt) hk g1, hzr, Result.andThen]

/-! ### A value for a key -/
theorem findNow_at {D : TypeDesc} {kv : Value} (hK : IsKey D kv) : ∀ (ms : List MapEntry) (i j : Nat) (v : Value), Instr.findNow D kv ms i = some (some (j, v)) → i ≤ j ∧ ∃ e, ms[j - i]? = some e ∧ e.key = kv
  | [], i, j, v, e => by cases e
  | m :: ms, i, j, v, e => by
    unfold Instr.findNow at e
    split at e
    · rename_i hs
      cases e
      refine ⟨Nat.le_refl _, m, by simp, ?_⟩
      generalize m.key = mk at hs
      cases D <;> cases kv <;> first | (cases hK; done) | skip
      all_goals (cases mk <;> first | (cases hs; done) | skip)
      · have h2 := beq_iff_eq.1 (Option.some.inj hs); rw [h2]
      · simp only [Instr.sameNow] at hs
        split at hs
        · rename_i hk; have h2 := beq_iff_eq.1 (Option.some.inj hs); rw [h2, hk]
        · cases hs
      · rename_i s t
        have h2 : (s.data == t.data) = true := Option.some.inj hs
        have h3 := beq_iff_eq.1 h2
        have h4 : s = t := ByteArray.ext h3
        rw [h4]
    · obtain ⟨h1, x, h2, h3⟩ := findNow_at hK ms (i + 1) j v e
      refine ⟨by omega, x, ?_, h3⟩
      rw [show j - i = (j - (i + 1)) + 1 by omega]
      simpa using h2
    · cases e

theorem EntriesR.push {es : List (AV × AV × Nat)} {x y : AV} {n : Nat} {m : MapEntry} (hx : VR ι x m.key) (hy : VR ι y m.val) (hn : m.born = n) : ∀ {es : List (AV × AV × Nat)} {ms : List MapEntry}, EntriesR ι es ms → EntriesR ι (es ++ [(x, y, n)]) (ms ++ [m])
  | [], ms, h => by have h : ms = [] := h; subst h; exact ⟨m, [], rfl, hx, hy, hn, rfl⟩
  | (a, b, c) :: es, ms, h => by
    obtain ⟨e, t, rfl, h1, h2, h3, h4⟩ := h
    exact ⟨e, t ++ [m], rfl, h1, h2, h3, EntriesR.push (es := es) hx hy hn h4⟩

/-- Another value in one entry. -/
def modE (key v : AV) (es : List (AV × AV × Nat)) : Nat → List (AV × AV × Nat) :=
  @List.rec (AV × AV × Nat) (fun _ => Nat → List (AV × AV × Nat)) (fun _ => []) (fun e es g i => @Nat.rec (fun _ => List (AV × AV × Nat)) ((key, v, e.2.2) :: es) (fun i _ => e :: g i) i) es
theorem EntriesR.mod {x y : AV} {u v : Value} (hx : VR ι x u) (hy : VR ι y v) : ∀ {es : List (AV × AV × Nat)} {ms : List MapEntry} (i : Nat), EntriesR ι es ms → EntriesR ι (modE x y es i) (ms.modify i fun e => { e with key := u, val := v })
  | [], ms, i, h => by have h : ms = [] := h; subst h; show List.modify _ i _ = []; simp
  | (a, b, c) :: es, ms, 0, h => by
    obtain ⟨e, t, rfl, h1, h2, h3, h4⟩ := h
    exact ⟨{ e with key := u, val := v }, t, by simp, hx, hy, h3, h4⟩
  | (a, b, c) :: es, ms, i + 1, h => by
    obtain ⟨e, t, rfl, h1, h2, h3, h4⟩ := h
    exact ⟨e, t.modify i fun e => { e with key := u, val := v }, by simp, h1, h2, h3, EntriesR.mod hx hy i h4⟩

theorem Rel.setMap (hr : Rel ι h w) {b B base sz c c' : Nat} {es es' : List (AV × AV × Nat)} {ms ms' : Array MapEntry} (hb : h.get b = .map es c) (ib : ι b = some (B, base, sz)) (hm : w.heap[B]? = some (.map ms c)) (hE : EntriesR ι es' ms'.toList) :
    Rel ι (h.set b (.map es' c')) { w with heap := w.heap.setIfInBounds B (.map ms' c') } ∧ Ext ι h w ι (h.set b (.map es' c')) { w with heap := w.heap.setIfInBounds B (.map ms' c') } := by
  obtain ⟨h1, h2⟩ := heap_set (o' := .map ms' c') hm
  have ho : (h.get b).own := by rw [hb]; exact trivial
  exact ⟨hr.change b B base sz _ ib ho ⟨ms', h1, hE⟩ (by simp) h2, Ext.change hr b B base sz _ ib ho rfl rfl rfl (by simp) h2⟩

def aMapSet (m key v : AV) (h : H) (k : AV → H → Option α) : Option α :=
  m.onLeaf none fun l => @Leaf.rec (fun _ => Option α) none none none none none none none (fun b => withMap h b fun es c => findE key es 0 (fun i _ => k (.leaf .undef) (h.set b (.map (modE key v es i) c))) (k (.leaf .undef) (h.set b (.map (es ++ [(key, v, c)]) (Nat.succ c))))) (fun _ _ _ _ => none) (fun _ => none) l

theorem aMapSet_gives {t kt et : TypeId} {D : TypeDesc} {x y z : Operand} {m key v : AV} (hr : Rel ι h w) (ho : o.op = .mapUpdate t x y z) (ht : P.underlying t = some (.map kt et)) (hk : P.underlying kt = some D)
    (hD : keyD D key = true) (hx : VR ι m (ρ x)) (hy : VR ι key (ρ y)) (hz : VR ι v (ρ z)) (e : aMapSet m key v h k = some r) : Gives P ρ o ι h w k r := by
  have hK := keyD_isKey hD hy
  unfold aMapSet at e
  cases m using AV.casesE <;> first | (cases e; done) | skip
  rename_i b
  have e : (withMap h b fun es c => findE key es 0 (fun i _ => k (.leaf .undef) (h.set b (.map (modE key v es i) c))) (k (.leaf .undef) (h.set b (.map (es ++ [(key, v, c)]) (Nat.succ c))))) = some r := e
  obtain ⟨es, c, hb, e⟩ := withMap_some e
  obtain ⟨B, base, sz, ib, ex⟩ := hx
  have ex : ρ x = .map (some B) := by simpa using ex
  obtain ⟨B', o', s', ib', hB⟩ := hr.blk b (by rw [hb]; intro hh; cases hh)
  rw [ib] at ib'
  cases ib'
  rw [hb] at hB
  obtain ⟨ms, hm, hE⟩ := hB
  rcases findE_some hD hy hE e with ⟨j, a, u, g1, g2, g3⟩ | ⟨g1, g2⟩
  · obtain ⟨_, en, hen, hkey⟩ := findNow_at hK _ _ _ _ g1
    have hen : ms[j]? = some en := by simpa using hen
    obtain ⟨R, E⟩ := hr.setMap (es' := modE key v es j) (c' := c) (ms' := ms.modify j fun e => { e with key := ρ y, val := ρ z }) hb ib hm (by simpa using EntriesR.mod hy hz j hE)
    refine ⟨.skip, undef, _, ι, .undef, _, ?_, .inr ⟨rfl, rfl⟩, E, R, rfl, g3⟩
    simp [execOp, ho, ex, Instr.mapUpdate, run_underlying ht, Go.MapKept.run_getObj_map hm, run_checkKey hk hK, run_findKey (P := P) (w := w) (kt := kt) hk g1, Result.andThen, hen, hkey, run_keyThatStays hK, Go.MapKept.run_setObj_map _ hm]
  · obtain ⟨R, E⟩ := hr.setMap (es' := es ++ [(key, v, c)]) (c' := Nat.succ c) (ms' := ms.push { key := ρ y, val := ρ z, born := c }) hb ib hm (by simpa using EntriesR.push (es := es) (m := { key := ρ y, val := ρ z, born := c }) hy hz rfl hE)
    refine ⟨.skip, undef, _, ι, .undef, _, ?_, .inr ⟨rfl, rfl⟩, E, R, rfl, g2⟩
    simp [execOp, ho, ex, Instr.mapUpdate, run_underlying ht, Go.MapKept.run_getObj_map hm, run_checkKey hk hK, run_findKey (P := P) (w := w) (kt := kt) hk g1, Result.andThen, Go.MapKept.run_setObj_map _ hm]

/-! ### An emptied map -/
def aClearM (m : AV) (h : H) (k : AV → H → Option α) : Option α :=
  m.onLeaf none fun l => @Leaf.rec (fun _ => Option α) none none none none none none none (fun b => withMap h b fun es c => k (.one .tup (.leaf .nil)) (h.set b (.map [] c))) (fun _ _ _ _ => none) (fun _ => none) l
theorem aClearM_gives {t kt et : TypeId} {c : Call} {x : Operand} {m : AV} (hr : Rel ι h w) (ho : o.op = .call c) (hc : c.callee = .builtin .clear) (ha : c.args = #[x]) (hat : c.argTypes[0]? = some t) (ht : P.underlying t = some (.map kt et))
    (hx : VR ι m (ρ x)) (e : aClearM m h k = some r) : Gives P ρ o ι h w k r := by
  unfold aClearM at e
  cases m using AV.casesE <;> first | (cases e; done) | skip
  rename_i b
  have e : (withMap h b fun es c => k (.one .tup (.leaf .nil)) (h.set b (.map [] c))) = some r := e
  obtain ⟨es, n, hb, e⟩ := withMap_some e
  obtain ⟨B, base, sz, ib, ex⟩ := hx
  have ex : ρ x = .map (some B) := by simpa using ex
  obtain ⟨B', o', s', ib', hB⟩ := hr.blk b (by rw [hb]; intro hh; cases hh)
  rw [ib] at ib'
  cases ib'
  rw [hb] at hB
  obtain ⟨ms, hm, hE⟩ := hB
  obtain ⟨R, E⟩ := hr.setMap (es' := []) (c' := n) (ms' := #[]) hb ib hm rfl
  refine ⟨.value (.tuple #[]), .tuple #[], _, ι, .one .tup (.leaf .nil), _, ?_, .inl rfl, E, R, ⟨_, rfl, rfl⟩, e⟩
  simp [execOp, ho, resolve, hc, ha, hat, ex, invoke, builtin, Builtin.clear_, run_underlying ht, Go.MapKept.run_getObj_map hm, Go.MapKept.run_setObj_map _ hm, Result.andThen]
end
end Go.AI

/- Function values with what they hold; parts of structs and arrays; arrays compared; copy. -/
namespace Go.AI
noncomputable section
open Go Go.RowKit
set_option linter.unusedVariables false
set_option linter.unusedSimpArgs false
variable {α : Type} {P : Program} {ρ : Operand → Value} {o : Oper} {ι : Inj} {h : H} {w : World} {k : AV → H → Option α} {r : α}

theorem VL.map_op {ι : Inj} {ρA : Operand → AV} {ρ : Operand → Value} (hρ : ∀ x, VR ι (ρA x) (ρ x)) : ∀ (l : List Operand), VL ι (l.map ρA) (l.map ρ)
  | [] => .nil
  | x :: l => .cons (hρ x) (VL.map_op hρ l)

/-! ### A function value that holds other values -/
def aMakeF (fn : Fn) (as cs : List AV) (h : H) (k : AV → H → Option α) : Option α := k (.func fn (AV.ofL as) (AV.ofL cs)) h
theorem aMakeF_gives {C : World → Prop} {fn : Fn} {first captured : Array Operand} {ρA : Operand → AV} (ho : o.op = .makeFunc fn first captured) (hρ : ∀ x, VR ι (ρA x) (ρ x))
    (e : aMakeF fn (first.toList.map ρA) (captured.toList.map ρA) h k = some r) : GivesC C P ρ o ι h k r := by
  unfold aMakeF at e
  rw [AV.ofL_eq, AV.ofL_eq] at e
  exact GivesQ.pure (a := .func fn (AV.ofList (first.toList.map ρA)) (AV.ofList (captured.toList.map ρA))) (v := .func fn (first.map ρ) (captured.map ρ)) (fun w' _ => by simp [execOp, ho, Instr.makeFunc])
    ⟨first.map ρ, captured.map ρ, rfl, by simpa using VX.of_list (VL.map_op hρ first.toList), by simpa using VX.of_list (VL.map_op hρ captured.toList)⟩ e

/-! ### Parts of structs and arrays -/
def aPart (agg : Bool) (n off : Nat) (l : List AV) (f : AV → Option α) : Option α :=
  bc agg (bc (Nat.beq (lenL (takeL n (dropL off l))) n) (f (.agg (AV.ofL (takeL n (dropL off l))))) none) (onSome (nthO l off) f)
theorem aPart_run {t : TypeId} {agg : Bool} {n off : Nat} {l : List AV} {cs : Array Value} {f : AV → Option α} (ht : isAggT P t = some agg) (hs : sizeT P t = some n) (hv : VL ι l cs.toList) (e : aPart agg n off l f = some r) :
    ∃ a v, f a = some r ∧ VR ι a v ∧ ∀ w : World, (part t cs off).run P w = .ok v w := by
  unfold aPart at e
  cases agg with
  | true =>
    rw [bc_true, lenL_eq, AV.ofL_eq, takeL_eq, dropL_eq] at e
    obtain ⟨hl, e1⟩ := bif_some e
    have hl := Nat.eq_of_beq_eq_true hl
    refine ⟨_, .agg (cs.extract off (off + n)), e1, ⟨_, rfl, ?_⟩, fun w => by simp [part, run_isAggT ht, run_sizeT hs]⟩
    have := VX.of_list ((hv.drop off).take n)
    simpa [Array.toList_extract, List.extract_eq_take_drop] using this
  | false =>
    rw [bc_false] at e
    obtain ⟨a, ha, e1⟩ := onSome_some e
    rw [nthO_eq] at ha
    obtain ⟨v, hv1, hv2⟩ := hv.get _ _ ha
    exact ⟨a, v, e1, hv2, fun w => by simp [part, run_isAggT ht, show cs[off]? = some v by simpa using hv1]⟩

/-- A field's type, and where it lies. -/
def fieldT (P : Program) (t : TypeId) (f : Nat) : Option (TypeId × Nat) := match P.underlying t with
  | some (.struct fs) => match fs[f]? with | some fd => some (fd.type, fd.offset) | none => none
  | _ => none
def aFieldV (agg : Bool) (n off : Nat) (x : AV) (h : H) (k : AV → H → Option α) : Option α := withAgg x fun a => withListA a fun l => aPart agg n off l fun y => k y h
theorem aFieldV_gives {C : World → Prop} {t ft : TypeId} {x : Operand} {f n off : Nat} {agg : Bool} {a : AV} (ho : o.op = .field t x f) (hf : fieldT P t f = some (ft, off)) (ht : isAggT P ft = some agg) (hs : sizeT P ft = some n)
    (hx : VR ι a (ρ x)) (e : aFieldV agg n off a h k = some r) : GivesC C P ρ o ι h k r := by
  obtain ⟨b, rfl, e1⟩ := withAgg_some e
  obtain ⟨l, hl, e2⟩ := withListA_some e1
  obtain ⟨cs, ex, hc⟩ := hx.agg
  obtain ⟨y, v, e3, hy, hrun⟩ := aPart_run (P := P) ht hs (toListO_VL hl hc) e2
  unfold fieldT at hf
  split at hf
  case h_2 => cases hf
  rename_i fs hu
  split at hf
  case h_2 => cases hf
  rename_i fd hfd
  cases hf
  exact GivesQ.pure (fun w' _ => by simp [execOp, ho, ex, Instr.field, run_underlying hu, hfd, asAgg, hrun]) hy e3

def aIndexV (agg : Bool) (n len : Nat) (x i : AV) (h : H) (k : AV → H → Option α) : Option α := withAgg x fun a => withListA a fun l => withInt i fun _ j => inB j len fun j => aPart agg n (Nat.mul j n) l fun y => k y h
theorem aIndexV_gives {C : World → Prop} {t el : TypeId} {x i : Operand} {n len : Nat} {agg : Bool} {a ai : AV} (ho : o.op = .index t x i) (hu : P.underlying t = some (.array len el)) (ht : isAggT P el = some agg) (hs : sizeT P el = some n)
    (hx : VR ι a (ρ x)) (hi : VR ι ai (ρ i)) (e : aIndexV agg n len a ai h k = some r) : GivesC C P ρ o ι h k r := by
  obtain ⟨b, rfl, e1⟩ := withAgg_some e
  obtain ⟨l, hl, e2⟩ := withListA_some e1
  obtain ⟨k1, i0, rfl, e3⟩ := withInt_some e2
  obtain ⟨j, rfl, hj, e4⟩ := inB_some e3
  obtain ⟨cs, ex, hc⟩ := hx.agg
  obtain ⟨y, v, e5, hy, hrun⟩ := aPart_run (P := P) ht hs (toListO_VL hl hc) e4
  have hj' : (j : Int) < (len : Int) := by omega
  have hrun : ∀ w : World, (part el cs (j * n)).run P w = .ok v w := hrun
  exact GivesQ.pure (fun w' _ => by simp [execOp, ho, ex, hi.int, Instr.index, asIntOf, run_underlying hu, hj, hj', run_sizeT hs, hrun]) hy e5

def aIdxArr (es len : Nat) (x i : AV) (h : H) (k : AV → H → Option α) : Option α := withPtr x fun b o => withInt i fun _ j => inB j len fun j => k (.ptr b (Nat.add o (Nat.mul j es))) h
theorem aIdxArr_gives {C : World → Prop} {t el : TypeId} {x i : Operand} {es len : Nat} {a ai : AV} (ho : o.op = .indexAddr t x i) (hu : P.underlying t = some (.array len el)) (hs : sizeT P el = some es)
    (hx : VR ι a (ρ x)) (hi : VR ι ai (ρ i)) (e : aIdxArr es len a ai h k = some r) : GivesC C P ρ o ι h k r := by
  obtain ⟨b, q, rfl, e1⟩ := withPtr_some e
  obtain ⟨k1, i0, rfl, e2⟩ := withInt_some e1
  obtain ⟨j, rfl, hj, e3⟩ := inB_some e2
  obtain ⟨B, base, sz, ib, ex⟩ := hx.ptr
  have hj' : (j : Int) < (len : Int) := by omega
  refine GivesQ.pure (a := .ptr b (q + j * es)) (v := .pointer (some ⟨B, base + (q + j * es), none⟩)) (fun w' _ => ?_) ⟨B, base, sz, ib, rfl⟩ e3
  simp [execOp, ho, ex, hi.int, Instr.indexAt, Instr.sureAddr, asIntOf, run_underlying hu, hj, hj', run_sizeT hs, addr_add, Nat.add_assoc]
end
end Go.AI
namespace Go.AI
noncomputable section
open Go Go.RowKit
set_option linter.unusedVariables false
set_option linter.unusedSimpArgs false
variable {α : Type} {P : Program} {ρ : Operand → Value} {o : Oper} {ι : Inj} {h : H} {w : World} {k : AV → H → Option α} {r : α}
/-! ### Arrays of integers compared -/
def eqI : List AV → List AV → (Bool → Option α) → Option α :=
  @List.rec AV (fun _ => List AV → (Bool → Option α) → Option α) (fun m f => @List.rec AV (fun _ => Option α) (f true) (fun _ _ _ => none) m)
    (fun a _ g m f => @List.rec AV (fun _ => Option α) none (fun b m' _ => withInt a fun k x => withInt b fun k' y => bc (Nat.beq k k') (bc (ieq x y) (g m' f) (f false)) none) m)
theorem eqI_run {e : TypeId} {kk : IntKind} (he : P.underlying e = some (.int kk)) (hc : P.cellsOf e = 1) (hi : isAggT P e = some false) (d : Nat) : ∀ (l m : List AV) (xs ys : Array Value) (q : Nat) (f : Bool → Option α), VL ι l (xs.toList.drop q) → VL ι m (ys.toList.drop q) → eqI l m f = some r →
    ∃ b, f b = some r ∧ ∀ w : World, (Op.eqItems (d + 1) e 1 xs ys (List.range' q l.length)).run P w = .ok b w
  | [], [], xs, ys, q, f, _, _, h => ⟨true, h, fun w => by simp [Op.eqItems]⟩
  | [], _ :: _, _, _, _, _, _, _, h => by cases h
  | _ :: _, [], _, _, _, _, _, _, h => by cases h
  | a :: l, b :: m, xs, ys, q, f, hl, hm, h => by
    have h : (withInt a fun k x => withInt b fun k' y => bc (Nat.beq k k') (bc (ieq x y) (eqI l m f) (f false)) none) = some r := h
    obtain ⟨k1, x, rfl, h1⟩ := withInt_some h
    obtain ⟨k2, y, rfl, h2⟩ := withInt_some h1
    obtain ⟨hk, h3⟩ := bif_some h2
    have hk := Nat.eq_of_beq_eq_true hk
    subst hk
    obtain ⟨v, vs, hv⟩ : ∃ v vs, xs.toList.drop q = v :: vs := by cases hx : xs.toList.drop q with | nil => rw [hx] at hl; cases hl | cons v vs => exact ⟨v, vs, rfl⟩
    obtain ⟨u, us, hu⟩ : ∃ u us, ys.toList.drop q = u :: us := by cases hy : ys.toList.drop q with | nil => rw [hy] at hm; cases hm | cons v vs => exact ⟨v, vs, rfl⟩
    rw [hv] at hl
    rw [hu] at hm
    cases hl with | cons hv1 hl =>
    cases hm with | cons hu1 hm =>
    have ev := VR.int hv1
    have eu := VR.int hu1
    subst ev eu
    have gx : xs[q]? = some (.int (kd k1) x) := by
      have := congrArg (·[0]?) hv; simpa using this
    have gy : ys[q]? = some (.int (kd k1) y) := by
      have := congrArg (·[0]?) hu; simpa using this
    have dx : xs.toList.drop (q + 1) = vs := by rw [← List.drop_drop, hv]; rfl
    have dy : ys.toList.drop (q + 1) = us := by rw [← List.drop_drop, hu]; rfl
    have step : ∀ w : World, (Op.eqItems (d + 1) e 1 xs ys (List.range' q (l.length + 1))).run P w = (if (!decide (x = y)) = true then (pure false : Sem Bool) else Op.eqItems (d + 1) e 1 xs ys (List.range' (q + 1) l.length)).run P w := fun w => by
      rw [List.range'_succ]
      simp [Op.eqItems, part, run_isAggT hi, gx, gy, Op.equalIn, run_underlying he]
    rw [ieq_eq] at h3
    by_cases hxy : x = y
    · rw [decide_eq_true hxy, bc_true] at h3
      obtain ⟨b, hb, hrun⟩ := eqI_run he hc hi d l m xs ys (q + 1) f (by rw [dx]; exact hl) (by rw [dy]; exact hm) h3
      exact ⟨b, hb, fun w => by rw [List.length_cons, step, decide_eq_true hxy]; simpa using hrun w⟩
    · rw [decide_eq_false hxy, bc_false] at h3
      exact ⟨false, h3, fun w => by rw [List.length_cons, step, decide_eq_false hxy]; simp⟩

def aEqA (neg : Bool) (len : Nat) (x y : AV) (h : H) (k : AV → H → Option α) : Option α := withAgg x fun a => withListA a fun l => withAgg y fun b => withListA b fun m => bc (Nat.beq (lenL l) len) (eqI l m fun q => k (.bool (bc neg (bnot q) q)) h) none
theorem aEqA_gives {C : World → Prop} {op : BinOp} {t u e : TypeId} {x y : Operand} {a b : AV} {neg : Bool} {len : Nat} {kk : IntKind} (ho : o.op = .binOp op t x y u) (hu : P.underlying t = some (.array len e)) (he : P.underlying e = some (.int kk)) (hi : (P.info? e).map (·.size) = some 1)
    (hg : P.eqGuardType P.depth t = false) (hx : VR ι a (ρ x)) (hy : VR ι b (ρ y)) (hn : (op = .eql ∧ neg = false) ∨ (op = .neq ∧ neg = true)) (e0 : aEqA neg len a b h k = some r) : GivesC C P ρ o ι h k r := by
  obtain ⟨a', rfl, e1⟩ := withAgg_some e0
  obtain ⟨l, hl, e2⟩ := withListA_some e1
  obtain ⟨b', rfl, e3⟩ := withAgg_some e2
  obtain ⟨m, hm, e4⟩ := withListA_some e3
  obtain ⟨h5, e5⟩ := bif_some e4
  have h5 := Nat.eq_of_beq_eq_true h5
  rw [lenL_eq] at h5
  obtain ⟨cs, ex, hcs⟩ := hx.agg
  obtain ⟨ds, ey, hds⟩ := hy.agg
  obtain ⟨i, hi1, hi2⟩ : ∃ i, P.info? e = some i ∧ i.size = 1 := by
    cases hq : P.info? e with
    | none => rw [hq] at hi; cases hi
    | some i => rw [hq] at hi; exact ⟨i, rfl, by simpa using hi⟩
  have hc1 : P.cellsOf e = 1 := by simp [Program.cellsOf, hi1, hi2]
  have hagg : isAggT P e = some false := by unfold isAggT; rw [he]
  obtain ⟨q, hq, hrun⟩ := eqI_run (ι := ι) he hc1 hagg 9998 l m cs ds 0 _ (by simpa using toListO_VL hl hcs) (by simpa using toListO_VL hm hds) e5
  have heq : ∀ w : World, (Op.equal t (.agg cs) (.agg ds)).run P w = .ok q w := fun w => by
    show (Op.equalIn (9999 + 1) t (.agg cs) (.agg ds)).run P w = _
    rw [run_equalIn_array w 9999 cs ds hu hi1, hc1, List.range_eq_range', ← h5]
    exact hrun w
  have hguard : ∀ w : World, (eqGuard op t x y (.agg cs) (.agg ds)).run P w = .ok () w := fun w => by
    rcases hn with ⟨rfl, _⟩ | ⟨rfl, _⟩ <;> simp [eqGuard, hg]
  rcases hn with ⟨rfl, rfl⟩ | ⟨rfl, rfl⟩
  · rw [bc_false] at hq
    exact GivesQ.pure (a := .bool q) (v := .bool q) (fun w' _ => by simp [execOp, ho, ex, ey, hguard, binOp, heq]) rfl hq
  · rw [bc_true, bnot_eq] at hq
    exact GivesQ.pure (a := .bool (!q)) (v := .bool (!q)) (fun w' _ => by simp [execOp, ho, ex, ey, hguard, binOp, heq]) rfl hq
end
end Go.AI
namespace Go.AI
noncomputable section
open Go Go.RowKit
set_option linter.unusedVariables false
set_option linter.unusedSimpArgs false
variable {α : Type} {P : Program} {ρ : Operand → Value} {o : Oper} {ι : Inj} {h : H} {w : World} {k : AV → H → Option α} {r : α}
/-! ### copy, of no more than there is room for -/
def aCopy1 (es n2 : Nat) (vs : List AV) (b o n : Nat) (h : H) (k : AV → H → Option α) : Option α :=
  bc (Nat.ble n2 n) (@Nat.rec (fun _ => Option α) (k (.int 3 (.ofNat 0)) h) (fun _ _ => withCells h b fun fl l => bc (Nat.ble fl 1) (bc (Nat.ble (Nat.add o (Nat.mul n2 es)) (lenL l)) (bc (allOne vs) (k (.int 3 (.ofNat n2)) (h.set b (.cells fl (spliceF l o vs)))) none) none) none) n2) none
def aCopy (es : Nat) (x y : AV) (h : H) (k : AV → H → Option α) : Option α := withElems es y h fun n2 vs =>
  x.onSl none (fun l => @Leaf.rec (fun _ => Option α) none none (bc (Nat.beq n2 0) (k (.int 3 (.ofNat 0)) h) none) none none none none (fun _ => none) (fun _ _ _ _ => none) (fun _ => none) l)
    (fun b o n _ => aCopy1 es n2 vs b o n h k) (fun b o n _ => aCopy1 es n2 vs b o n h k)
theorem exec_copy {c : Call} {x y : Operand} {t el : TypeId} {es : Nat} {n2 n : Nat} {cs : Array Value} {base : Option Addr} {cp : Nat} {w' : World} (ho : o.op = .call c) (hc : c.callee = .builtin .copy) (ha : c.args = #[x, y]) (hat : c.argTypes[0]? = some t) (hu : P.underlying t = some (.slice el)) (hs : sizeT P el = some es)
    (hx : ρ x = .slice base n cp) (hl : (Builtin.lenOf (ρ y)).run P w = .ok n2 w) (hn : n2 ≤ n) (hf : (Builtin.firstCells es n2 (ρ y)).run P w = .ok cs w)
    (hst : ∀ a, base = some a → (storeCells a cs.toList 0).run P w = .ok () w') (hno : base = none → w' = w) : (execOp ρ o).run P w = .ok (.value (.int .i64 n2)) w' := by
  have hmin : Nat.min n2 n = n2 := Nat.min_eq_left hn
  cases base with
  | none =>
    have := hno rfl; subst this
    simp [execOp, ho, resolve, hc, ha, invoke, builtin, Builtin.copy_, hat, run_underlying hu, run_sizeT hs, hx, hl, hmin, hf, goInt]
  | some a =>
    have := hst a rfl
    simp [execOp, ho, resolve, hc, ha, invoke, builtin, Builtin.copy_, hat, run_underlying hu, run_sizeT hs, hx, hl, hmin, hf, this, goInt]
theorem aCopy_gives {c : Call} {x y : Operand} {t el : TypeId} {es : Nat} {a b : AV} (hr : Rel ι h w) (ho : o.op = .call c) (hc : c.callee = .builtin .copy) (ha : c.args = #[x, y]) (hat : c.argTypes[0]? = some t) (hu : P.underlying t = some (.slice el)) (hs : sizeT P el = some es)
    (hx : VR ι a (ρ x)) (hy : VR ι b (ρ y)) (e : aCopy es a b h k = some r) : Gives P ρ o ι h w k r := by
  obtain ⟨n2, as, vs, e1, hvl, hlen, hlo, hfc⟩ := withElems_some (P := P) hr hy e
  have hf := hfc w rfl
  have key : ∀ (bk q n : Nat) (base : Option Addr) (cp : Nat), ρ x = .slice base n cp → (1 ≤ n → ∃ B b0 sz, ι bk = some (B, b0, sz) ∧ base = some ⟨B, b0 + q, none⟩) → aCopy1 es n2 as bk q n h k = some r → Gives P ρ o ι h w k r := by
    intro bk q n base cp ex hpl e2
    obtain ⟨hn, e3⟩ := bif_some e2
    have hn := Nat.le_of_ble_eq_true hn
    cases n2 with
    | zero =>
      have hv0 : vs = [] := List.eq_nil_of_length_eq_zero (by rw [hlen]; simp)
      subst hv0
      exact Gives.pure (a := .int 3 (.ofNat 0)) (v := .int .i64 0) hr (exec_copy ho hc ha hat hu hs ex hlo hn hf (fun a _ => by simp [storeCells]) (fun _ => rfl)) rfl e3
    | succ n2 =>
      have e3 : (withCells h bk fun fl l => bc (Nat.ble fl 1) (bc (Nat.ble (Nat.add q (Nat.mul (n2 + 1) es)) (lenL l)) (bc (allOne as) (k (.int 3 (.ofNat (n2 + 1))) (h.set bk (.cells fl (spliceF l q as)))) none) none) none) = some r := e3
      obtain ⟨fl, l, hb, e4⟩ := withCells_some e3
      obtain ⟨g1, e5⟩ := bif_some e4
      obtain ⟨g2, e6⟩ := bif_some e5
      obtain ⟨g3, e7⟩ := bif_some e6
      have g1 := Nat.le_of_ble_eq_true g1
      have g2 : q + (n2 + 1) * es ≤ lenL l := Nat.le_of_ble_eq_true g2
      rw [lenL_eq] at g2
      rw [spliceF_eq] at e7
      obtain ⟨B, b0, sz, ib, rfl⟩ := hpl (by omega)
      have hal := hvl.length
      obtain ⟨w', e8, R, E⟩ := hr.write P hb (by omega) ib hvl (hvl.one g3) (q := q) (by omega)
      exact ⟨.value (.int .i64 (n2 + 1 : Nat)), .int .i64 (n2 + 1 : Nat), w', ι, .int 3 (.ofNat (n2 + 1)), _, exec_copy ho hc ha hat hu hs ex hlo hn hf (fun a h => by cases h; simpa using e8) (fun h => by cases h), .inl rfl, E, R, rfl, e7⟩
  cases a using AV.casesE <;> (try (cases e1; done))
  case nils =>
    obtain ⟨h0, e2⟩ := bif_some (c := Nat.beq n2 0) e1
    have h0 := Nat.eq_of_beq_eq_true h0
    subst h0
    exact Gives.pure (a := .int 3 (.ofNat 0)) (v := .int .i64 0) hr (exec_copy ho hc ha hat hu hs hx.nils hlo (Nat.le_refl _) hf (fun a h => by cases h) (fun _ => rfl)) rfl e2
  case sl bk q n cp =>
    obtain ⟨B, b0, sz, ib, ex⟩ := hx.sl
    exact key bk q n _ cp ex (fun _ => ⟨B, b0, sz, ib, rfl⟩) e1
  case osl bk q n es' =>
    by_cases hn : 1 ≤ n
    · obtain ⟨B, b0, sz, cp, ib, ex, _⟩ := hx.osl1 hn
      exact key bk q n _ cp ex (fun _ => ⟨B, b0, sz, ib, rfl⟩) e1
    · obtain ⟨A, cp, ex, _⟩ := hx.osl
      exact key bk q n _ cp ex (fun h => absurd h hn) e1
end
end Go.AI
namespace Go.AI
noncomputable section
open Go Go.RowKit
set_option linter.unusedVariables false
set_option linter.unusedSimpArgs false
variable {α : Type} {P : Program} {ρ : Operand → Value} {o : Oper} {ι : Inj} {h : H} {w : World} {k : AV → H → Option α} {r : α}
/-! ### clear, of a slice -/
def aClearS1 (es : Nat) (zs : List AV) (b o n : Nat) (h : H) (k : AV → H → Option α) : Option α :=
  @Nat.rec (fun _ => Option α) (k (.one .tup (.leaf .nil)) h) (fun _ _ => withCells h b fun fl l => bc (Nat.ble fl 1) (bc (Nat.beq (lenL (repL n zs)) (Nat.mul n es)) (bc (Nat.ble (Nat.add o (Nat.mul n es)) (lenL l)) (bc (allOne (repL n zs)) (k (.one .tup (.leaf .nil)) (h.set b (.cells fl (spliceF l o (repL n zs))))) none) none) none) none) n
def aClearS (es : Nat) (zs : List AV) (x : AV) (h : H) (k : AV → H → Option α) : Option α :=
  x.onSl none (fun l => @Leaf.rec (fun _ => Option α) none none (k (.one .tup (.leaf .nil)) h) none none none none (fun _ => none) (fun _ _ _ _ => none) (fun _ => none) l)
    (fun b o n _ => aClearS1 es zs b o n h k) (fun b o n _ => aClearS1 es zs b o n h k)
theorem aClearS_gives {c : Call} {x : Operand} {t el : TypeId} {es : Nat} {a : AV} {z : Value} {i : TypeInfo} (hr : Rel ι h w) (ho : o.op = .call c) (hc : c.callee = .builtin .clear) (ha : c.args = #[x]) (hat : c.argTypes[0]? = some t) (hu : P.underlying t = some (.slice el)) (hi : P.info? el = some i) (hz : i.zero = some z)
    (hx : VR ι a (ρ x)) (e : aClearS es (z.cells.toList.map ofV) a h k = some r) : Gives P ρ o ι h w k r := by
  have hVL : ∀ n, VL ι (repL n (z.cells.toList.map ofV)) (Builtin.zeroCells z.cells n).toList := fun n => by
    refine VL.of_get (by rw [repL_length]; simp [Builtin.zeroCells]) fun j a hj => ?_
    have hlt := (List.getElem?_eq_some_iff.1 hj).1
    rw [repL_length] at hlt
    rw [repL_get _ _ _ hlt] at hj
    obtain ⟨v, hv, hR⟩ := (VL.ofV ι z.cells.toList).get _ _ hj
    refine ⟨v, ?_, hR⟩
    simp only [List.length_map, Array.length_toList] at hlt hv
    rw [Array.getElem?_toList] at hv ⊢
    obtain ⟨hlt2, hv2⟩ := Array.getElem?_eq_some_iff.1 hv
    simp [Builtin.zeroCells, hlt, Array.getElem!_eq_getD, Array.getD_eq_getD_getElem?, hv]
  have hzr : (zeroValue el).run P w = .ok z w := by simp [zeroValue, typeInfo, hi, hz]
  have key : ∀ (bk q n : Nat) (base : Option Addr) (cp : Nat), ρ x = .slice base n cp → (1 ≤ n → ∃ B b0 sz, ι bk = some (B, b0, sz) ∧ base = some ⟨B, b0 + q, none⟩) → aClearS1 es (z.cells.toList.map ofV) bk q n h k = some r → Gives P ρ o ι h w k r := by
    intro bk q n base cp ex hpl e2
    cases n with
    | zero =>
      refine Gives.pure (a := .one .tup (.leaf .nil)) (v := .tuple #[]) hr ?_ ⟨_, rfl, rfl⟩ e2
      cases base <;> simp [execOp, ho, resolve, hc, ha, invoke, builtin, Builtin.clear_, hat, run_underlying hu, ex]
    | succ n =>
      have e2 : (withCells h bk fun fl l => bc (Nat.ble fl 1) (bc (Nat.beq (lenL (repL (n + 1) (z.cells.toList.map ofV))) (Nat.mul (n + 1) es)) (bc (Nat.ble (Nat.add q (Nat.mul (n + 1) es)) (lenL l)) (bc (allOne (repL (n + 1) (z.cells.toList.map ofV))) (k (.one .tup (.leaf .nil)) (h.set bk (.cells fl (spliceF l q (repL (n + 1) (z.cells.toList.map ofV)))))) none) none) none) none) = some r := e2
      obtain ⟨fl, l, hb, e4⟩ := withCells_some e2
      obtain ⟨g1, e5⟩ := bif_some e4
      obtain ⟨g0, e5⟩ := bif_some e5
      obtain ⟨g2, e6⟩ := bif_some e5
      obtain ⟨g3, e7⟩ := bif_some e6
      have g1 := Nat.le_of_ble_eq_true g1
      have g0 := Nat.eq_of_beq_eq_true g0
      have g2 : q + (n + 1) * es ≤ lenL l := Nat.le_of_ble_eq_true g2
      rw [lenL_eq] at g0 g2
      have g0 : (repL (n + 1) (z.cells.toList.map ofV)).length = (n + 1) * es := g0
      rw [spliceF_eq] at e7
      obtain ⟨B, b0, sz, ib, rfl⟩ := hpl (by omega)
      obtain ⟨w', e8, R, E⟩ := hr.write P hb (by omega) ib (hVL (n + 1)) ((hVL (n + 1)).one g3) (q := q) (by omega)
      refine ⟨.value (.tuple #[]), .tuple #[], w', ι, .one .tup (.leaf .nil), _, ?_, .inl rfl, E, R, ⟨_, rfl, rfl⟩, e7⟩
      simp [execOp, ho, resolve, hc, ha, invoke, builtin, Builtin.clear_, hat, run_underlying hu, ex, hzr, e8]
  cases a using AV.casesE <;> (try (cases e; done))
  case nils =>
    refine Gives.pure (a := .one .tup (.leaf .nil)) (v := .tuple #[]) hr ?_ ⟨_, rfl, rfl⟩ e
    simp [execOp, ho, resolve, hc, ha, invoke, builtin, Builtin.clear_, hat, run_underlying hu, hx.nils]
  case sl bk q n cp =>
    obtain ⟨B, b0, sz, ib, ex⟩ := hx.sl
    exact key bk q n _ cp ex (fun _ => ⟨B, b0, sz, ib, rfl⟩) e
  case osl bk q n es' =>
    by_cases hn : 1 ≤ n
    · obtain ⟨B, b0, sz, cp, ib, ex, _⟩ := hx.osl1 hn
      exact key bk q n _ cp ex (fun _ => ⟨B, b0, sz, ib, rfl⟩) e
    · obtain ⟨A, cp, ex, _⟩ := hx.osl
      exact key bk q n _ cp ex (fun h => absurd h hn) e
end
end Go.AI

/- What an interface value holds: assertions, and whose method is called. -/
namespace Go.AI
noncomputable section
open Go Go.RowKit
set_option linter.unusedVariables false
set_option linter.unusedSimpArgs false
variable {α : Type} {P : Program} {ρ : Operand → Value} {o : Oper} {ι : Inj} {h : H} {w : World} {k : AV → H → Option α} {r : α}

def AV.onIf (x : AV) (d n : α) (f : TypeId → AV → α) : α := @AV.rec (fun _ => α) (fun _ _ => d) (fun _ => d) (fun _ _ => d) (fun _ _ => d) (fun _ _ _ _ => d)
  (fun l => @Leaf.rec (fun _ => α) d d d d d n d (fun _ => d) (fun _ _ _ _ => d) (fun _ => d) l) (fun t a _ => @One.rec (fun _ => α) d d (fun t => f t a) t) (fun _ _ _ _ _ => d) (fun _ _ _ _ => d) x

/-! ### An assertion to a type that is no interface -/
def concD (D : TypeDesc) : Bool := match D with | .interface _ => false | _ => true

/-- A zero value, also of a struct or an array. -/
def ofZ : Value → AV
  | .agg cs => .agg (AV.ofList (cs.toList.map ofV))
  | v => ofV v
theorem VR.ofZ (ι : Inj) (v : Value) : VR ι (ofZ v) v := by
  unfold AI.ofZ
  split
  · exact ⟨_, rfl, VX.of_list (VL.ofV ι _)⟩
  · exact VR.ofV ι _
def aAssertC (ok : Bool) (t : Nat) (z x : AV) (h : H) (k : AV → H → Option α) : Option α :=
  x.onIf none (bc ok (k (resL true z false) h) none) fun t' v => bc (Nat.beq t' t) (k (resL ok v true) h) (bc ok (k (resL true z false) h) none)
theorem run_assert_hit {D : TypeDesc} {t xT : TypeId} {ok : Bool} {v : Value} (w : World) (hu : P.underlying t = some D) (hD : concD D = true) :
    (Instr.typeAssert (.iface t v) xT t ok).run P w = .ok (bif ok then .tuple #[v, .bool true] else v) w := by
  cases D <;> first | (cases hD; done) | (cases ok <;> simp [Instr.typeAssert, run_underlying hu])
theorem run_assert_miss {D : TypeDesc} {t t' xT : TypeId} {i : TypeInfo} {v z : Value} (w : World) (hu : P.underlying t = some D) (hD : concD D = true) (hi : P.info? t = some i) (hz : i.zero = some z) (hne : t' ≠ t) :
    (Instr.typeAssert (.iface t' v) xT t true).run P w = .ok (.tuple #[z, .bool false]) w := by
  cases D <;> first | (cases hD; done) | simp [Instr.typeAssert, run_underlying hu, hne, zeroValue, typeInfo, hi, hz]
theorem run_assert_nil {D : TypeDesc} {t xT : TypeId} {i : TypeInfo} {z : Value} (w : World) (hu : P.underlying t = some D) (hi : P.info? t = some i) (hz : i.zero = some z) :
    (Instr.typeAssert .nilIface xT t true).run P w = .ok (.tuple #[z, .bool false]) w := by
  cases D <;> simp [Instr.typeAssert, run_underlying hu, zeroValue, typeInfo, hi, hz]
theorem resL_true {a : AV} {v : Value} {b : Bool} (hv : VR ι a v) : VR ι (resL true a b) (.tuple #[v, .bool b]) := resL_VR (ok := true) hv
theorem aAssertC_gives {C : World → Prop} {x : Operand} {xT t : TypeId} {ok : Bool} {D : TypeDesc} {i : TypeInfo} {z : Value} {a : AV} (ho : o.op = .typeAssert x xT t ok) (hu : P.underlying t = some D) (hD : concD D = true)
    (hi : P.info? t = some i) (hz : i.zero = some z) (hx : VR ι a (ρ x)) (e : aAssertC ok t (ofZ z) a h k = some r) : GivesC C P ρ o ι h k r := by
  cases a using AV.casesE <;> (try (cases e; done))
  case nili =>
    have ex := hx.nili
    have e : bc ok (k (resL true (ofZ z) false) h) none = some r := e
    obtain ⟨rfl, e⟩ := bif_some e
    exact GivesQ.pure (fun w' _ => by simp [execOp, ho, ex, run_assert_nil w' hu hi hz]) (resL_true (VR.ofZ ι z)) e
  case iface t' v =>
    obtain ⟨y, ex, hy⟩ := hx.iface
    have e : bc (Nat.beq t' t) (k (resL ok v true) h) (bc ok (k (resL true (ofZ z) false) h) none) = some r := e
    cases hb : Nat.beq t' t with
    | true =>
      rw [hb, bc_true] at e
      have e2 := e
      have hb := Nat.eq_of_beq_eq_true hb
      subst hb
      cases ok with
      | true => exact GivesQ.pure (a := resL true v true) (v := .tuple #[y, .bool true]) (fun w' _ => by simp [execOp, ho, ex, run_assert_hit w' hu hD]) (resL_true hy) e2
      | false => exact GivesQ.pure (a := v) (v := y) (fun w' _ => by simp [execOp, ho, ex, run_assert_hit w' hu hD]) hy e2
    | false =>
      rw [hb, bc_false] at e
      obtain ⟨rfl, e⟩ := bif_some e
      have hne : t' ≠ t := fun hh => by rw [hh, Nat.beq_refl] at hb; cases hb
      exact GivesQ.pure (fun w' _ => by simp [execOp, ho, ex, run_assert_miss w' hu hD hi hz hne]) (resL_true (VR.ofZ ι z)) e

/-! ### An assertion to an interface type -/
/-- The types that have all methods. -/
def hasT (P : Program) (want : Array (String × TypeId)) (t : TypeId) : Bool := match P.info? t with | some i => (lacking want i.methods).isEmpty | none => false
def lacksT (P : Program) (want : Array (String × TypeId)) (t : TypeId) : Bool := match P.info? t with | some i => bnot (lacking want i.methods).isEmpty | none => false
def allHas (P : Program) (want : Array (String × TypeId)) : List Nat := (List.range P.types.size).filter (hasT P want)
def memN (t : Nat) : List Nat → Bool := @List.rec Nat (fun _ => Bool) false (fun x _ ih => bc (Nat.beq t x) true ih)
def aAssertI (ok : Bool) (ts : List Nat) (n : Nat) (x : AV) (h : H) (k : AV → H → Option α) : Option α :=
  x.onIf none (bc ok (k (resL true .nili false) h) none) fun t' v => bc (memN t' ts) (k (resL ok (.iface t' v) true) h) (bc (Nat.ble (Nat.succ t') n) (bc ok (k (resL true .nili false) h) none) none)
theorem memN_spec {t : Nat} : ∀ l : List Nat, memN t l = true ↔ t ∈ l
  | [] => by simp [memN]
  | x :: l => by
    have ih := memN_spec (t := t) l
    show bc (Nat.beq t x) true (memN t l) = true ↔ _
    cases hb : Nat.beq t x with
    | true => simp [bc_true, Nat.eq_of_beq_eq_true hb]
    | false =>
      have hne : t ≠ x := fun hh => by rw [hh, Nat.beq_refl] at hb; cases hb
      rw [bc_false, ih]; simp [hne]
theorem info_lt {t : Nat} (ht : t < P.types.size) : ∃ i, P.info? t = some i := by
  unfold Tables.info?
  simp [ht]
theorem aAssertI_gives {C : World → Prop} {x : Operand} {xT t : TypeId} {ok : Bool} {want : Array (String × TypeId)} {j : TypeInfo} {a : AV} (ho : o.op = .typeAssert x xT t ok) (hu : P.underlying t = some (.interface want))
    (hj : P.info? t = some j) (hz : j.zero = some .nilIface) (hx : VR ι a (ρ x)) (e : aAssertI ok (allHas P want) P.types.size a h k = some r) : GivesC C P ρ o ι h k r := by
  cases a using AV.casesE <;> (try (cases e; done))
  case nili =>
    have ex := hx.nili
    have e : bc ok (k (resL true .nili false) h) none = some r := e
    obtain ⟨rfl, e⟩ := bif_some e
    exact GivesQ.pure (a := resL true .nili false) (v := .tuple #[.nilIface, .bool false]) (fun w' _ => by simp [execOp, ho, ex, run_assert_nil w' hu hj hz]) (resL_true (show VR ι .nili .nilIface from rfl)) e
  case iface t' v =>
    obtain ⟨y, ex, hy⟩ := hx.iface
    have e : bc (memN t' (allHas P want)) (k (resL ok (.iface t' v) true) h) (bc (Nat.ble (Nat.succ t') P.types.size) (bc ok (k (resL true .nili false) h) none) none) = some r := e
    cases hm : memN t' (allHas P want) with
    | true =>
      rw [hm, bc_true] at e
      have hin := (memN_spec _).1 hm
      unfold allHas at hin
      rw [List.mem_filter, List.mem_range] at hin
      obtain ⟨i, hi⟩ := info_lt hin.1
      have hl : lacking want i.methods = [] := by
        have := hin.2
        unfold hasT at this
        rw [hi] at this
        simpa using this
      have hrun : ∀ w' : World, (Instr.typeAssert (.iface t' y) xT t ok).run P w' = .ok (bif ok then .tuple #[.iface t' y, .bool true] else .iface t' y) w' := fun w' => by
        cases ok <;> simp [Instr.typeAssert, run_underlying hu, typeInfo, hi, missingMethod_none hl]
      have hyy : VR ι (.iface t' v) (.iface t' y) := ⟨y, rfl, hy⟩
      cases ok with
      | true => exact GivesQ.pure (a := resL true (.iface t' v) true) (v := .tuple #[.iface t' y, .bool true]) (fun w' _ => by simp [execOp, ho, ex, hrun]) (resL_true hyy) e
      | false => exact GivesQ.pure (a := .iface t' v) (v := .iface t' y) (fun w' _ => by simp [execOp, ho, ex, hrun]) hyy e
    | false =>
      rw [hm, bc_false] at e
      obtain ⟨hlt, e⟩ := bif_some e
      obtain ⟨rfl, e⟩ := bif_some e
      have hlt : t' < P.types.size := Nat.le_of_ble_eq_true hlt
      obtain ⟨i, hi⟩ := info_lt hlt
      have hl : lacking want i.methods ≠ [] := fun hh => by
        have : memN t' (allHas P want) = true := (memN_spec _).2 (by
          unfold allHas
          rw [List.mem_filter, List.mem_range]
          exact ⟨hlt, by unfold hasT; rw [hi]; show (lacking want i.methods).isEmpty = true; rw [hh]; rfl⟩)
        rw [hm] at this; cases this
      exact GivesQ.pure (a := resL true .nili false) (v := .tuple #[.nilIface, .bool false]) (fun w' _ => by simp [execOp, ho, ex, run_typeAssert_lacks hu hi hj hz hl]) (resL_true (show VR ι .nili .nilIface from rfl)) e

/-! ### Whose method is called -/
def methodF (P : Program) (name : String) (t : TypeId) : Option FuncId := match P.info? t with
  | some i => match i.methods.find? (·.name == name) with
    | some m => match m.func, m.path.toList, P.underlying t with
      | some (f, true), [], some (.pointer _) => some f
      | some (_, false), [], some (.pointer _) => none
      | some (f, false), [], some _ => some f
      | _, _, _ => none
    | none => none
  | none => none
/-- The types that have the method, each with its function. -/
def methTbl (P : Program) (name : String) : List (Nat × Nat) := (List.range P.types.size).filterMap fun t => (methodF P name t).map fun f => (t, f)
def pickF (t : Nat) (g : Nat → Option α) : List (Nat × Nat) → Option α := @List.rec _ (fun _ => Option α) none (fun p _ ih => bc (Nat.beq t p.1) (g p.2) ih)
theorem pickF_some {t : Nat} {g : Nat → Option α} {r : α} : ∀ l : List (Nat × Nat), pickF t g l = some r → ∃ f, (t, f) ∈ l ∧ g f = some r
  | [], e => by cases e
  | p :: l, e => by
    have e : bc (Nat.beq t p.1) (g p.2) (pickF t g l) = some r := e
    cases hb : Nat.beq t p.1 with
    | true =>
      rw [hb, bc_true] at e
      have hb := Nat.eq_of_beq_eq_true hb
      exact ⟨p.2, by rw [hb]; exact List.mem_cons_self, e⟩
    | false =>
      rw [hb, bc_false] at e
      obtain ⟨f, h1, h2⟩ := pickF_some l e
      exact ⟨f, List.mem_cons_of_mem _ h1, h2⟩
theorem methTbl_mem {name : String} {t f : Nat} (hm : (t, f) ∈ methTbl P name) : methodF P name t = some f := by
  unfold methTbl at hm
  rw [List.mem_filterMap] at hm
  obtain ⟨t', _, e⟩ := hm
  rw [Option.map_eq_some_iff] at e
  obtain ⟨f', e1, e2⟩ := e
  cases e2
  exact e1
theorem run_method {name : String} {t f n : Nat} {v : Value} (w : World) (hm : methodF P name t = some f) : (method (n + 1) t v name).run P w = .ok (f, v) w := by
  unfold methodF at hm
  split at hm
  case h_2 => cases hm
  rename_i i hi
  split at hm
  case h_2 => cases hm
  rename_i m hf
  split at hm
  · rename_i g el hfn hp hu
    cases hm
    simp [method, typeInfo, hi, hf, hp, hfn, follow, receiverAt, run_underlying hu, Place.get]
  · cases hm
  · rename_i g D hnp hfn hp hu
    cases hm
    cases D <;> first | exact (hnp _ rfl).elim | simp [method, typeInfo, hi, hf, hp, hfn, follow, receiverAt, run_underlying hu, Place.get]
  · cases hm
theorem run_callMethod {name : String} {t f : Nat} {v : Value} {args : Array Value} {w : World} {x : Next} (hm : methodF P name t = some f) (hc : (callFunc f (#[v] ++ args)).run P w = .ok x w) :
    (callMethod (.iface t v) name args).run P w = .ok x w := by
  have hd : ∃ n, P.types.size + Made.depth = n + 1 := ⟨P.types.size + 99, rfl⟩
  obtain ⟨n, hn⟩ := hd
  simp [callMethod, hn, run_method w hm, hc]
end
end Go.AI

/- cap; append of a number of zeros to no slice. -/
namespace Go.AI
noncomputable section
open Go Go.RowKit
set_option linter.unusedVariables false
set_option linter.unusedSimpArgs false
variable {α : Type} {P : Program} {ρ : Operand → Value} {o : Oper} {ι : Inj} {h : H} {w : World} {k : AV → H → Option α} {r : α}

def aCap (x : AV) (h : H) (k : AV → H → Option α) : Option α :=
  x.onSl none (fun l => @Leaf.rec (fun _ => Option α) none none (k (.int 3 (.ofNat 0)) h) none none none none (fun _ => none) (fun _ _ _ _ => none) (fun _ => none) l) (fun _ _ _ c => k (.int 3 (.ofNat c)) h) (fun _ _ _ _ => none)
theorem aCap_gives {C : World → Prop} {c : Call} {x : Operand} {t el : TypeId} {a : AV} (ho : o.op = .call c) (hc : c.callee = .builtin .cap) (ha : c.args = #[x]) (hat : c.argTypes[0]? = some t)
    (ht : P.underlying t = some (.slice el)) (hx : VR ι a (ρ x)) (e : aCap a h k = some r) : GivesC C P ρ o ι h k r := by
  cases a using AV.casesE <;> (try (cases e; done))
  case nils =>
    refine GivesQ.pure (a := .int 3 (.ofNat 0)) (v := .int .i64 0) (fun w' hw' => ?_) rfl e
    simp [execOp, ho, resolve, hc, ha, invoke, builtin, Builtin.cap_, hat, run_underlying ht, hx.nils, goInt]
  case sl b q n cc =>
    obtain ⟨B, base, sz, ib, ex⟩ := hx.sl
    refine GivesQ.pure (a := .int 3 (.ofNat cc)) (v := .int .i64 cc) (fun w' hw' => ?_) rfl e
    simp [execOp, ho, resolve, hc, ha, invoke, builtin, Builtin.cap_, hat, run_underlying ht, ex, goInt]

/-- The elements' cells, bytes, and their first contents, where so many of them are appended. -/
def elemZ (P : Program) (c : Call) : Option (Nat × Nat × List AV) :=
  match c.argTypes[0]?, c.argTypes[1]? with
  | some t, some t2 => match P.underlying t, P.underlying t2 with
    | some (.slice el), some (.int _) => match P.info? el with
        | some i => match i.zero with
          | some z => bc (Nat.beq z.cells.size i.size) (bc (Nat.ble 1 i.size) (some (i.size, i.bytes, z.cells.toList.map ofV)) none) none
          | none => none
        | none => none
    | _, _ => none
  | _, _ => none
structure ElemZ (P : Program) (c : Call) (es bs : Nat) (zs : List AV) : Prop where
  out : ∃ t t2 el kk i z, c.argTypes[0]? = some t ∧ c.argTypes[1]? = some t2 ∧ P.underlying t = some (.slice el) ∧ P.underlying t2 = some (.int kk) ∧
    P.info? el = some i ∧ i.zero = some z ∧ i.size = es ∧ i.bytes = bs ∧ z.cells.size = es ∧ 1 ≤ es ∧ zs = z.cells.toList.map ofV
theorem elemZ_spec {c : Call} {es bs : Nat} {zs : List AV} (e : elemZ P c = some (es, bs, zs)) : ElemZ P c es bs zs := by
  unfold elemZ at e
  split at e
  case h_2 => cases e
  rename_i t t2 ht ht2
  split at e
  case h_2 => cases e
  rename_i el kk hu hu2
  split at e
  case h_2 => cases e
  rename_i i hi
  split at e
  case h_2 => cases e
  rename_i z hz
  cases hb : Nat.beq z.cells.size i.size with
  | false => rw [hb] at e; cases e
  | true =>
    rw [hb, bc_true] at e
    cases hb1 : Nat.ble 1 i.size with
    | false => rw [hb1] at e; cases e
    | true =>
      rw [hb1, bc_true] at e
      cases e
      exact ⟨⟨t, t2, el, kk, i, z, ht, ht2, hu, hu2, hi, hz, rfl, rfl, Nat.eq_of_beq_eq_true hb, Nat.le_of_ble_eq_true hb1, rfl⟩⟩

/-- append(nothing, make(..)...). -/
def aAppZ (es bs : Nat) (zs : List AV) (x y : AV) (h : H) (k : AV → H → Option α) : Option α :=
  x.onSl none (fun l => @Leaf.rec (fun _ => Option α) none none (withInt y fun _ i => natI i fun n => bc (Nat.ble 1 n) (bc (Nat.ble (Nat.mul n bs) 140737488355328) (bc (Nat.ble n strMax) (k (.osl h.n 0 n es) (h.push (.cells 0 (repL n zs)))) none) none) none) none none none none (fun _ => none) (fun _ _ _ _ => none) (fun _ => none) l) (fun _ _ _ _ => none) (fun _ _ _ _ => none)

theorem zeroCells_VL (ι : Inj) (z : Value) (n : Nat) (hs : 0 < z.cells.size) : VL ι (repL n (z.cells.toList.map ofV)) (Builtin.zeroCells z.cells n).toList := by
  refine VL.of_get (by rw [repL_length]; simp [size_zeroCells]) fun j a hj => ?_
  have hlt := (List.getElem?_eq_some_iff.1 hj).1
  rw [repL_length] at hlt
  rw [repL_get _ _ _ hlt] at hj
  obtain ⟨v, hv, hR⟩ := (VL.ofV ι z.cells.toList).get _ _ hj
  refine ⟨v, ?_, hR⟩
  simp only [List.length_map, Array.length_toList] at hlt hv
  rw [Array.getElem?_toList] at hv ⊢
  obtain ⟨hlt2, hv2⟩ := Array.getElem?_eq_some_iff.1 hv
  simp [Builtin.zeroCells, hlt, Array.getElem!_eq_getD, Array.getD_eq_getD_getElem?, hv]

theorem run_app_zero {t t2 el ty : TypeId} {kk kv : IntKind} {i : TypeInfo} {z : Value} {tys : Array TypeId} {v y : Value} {n : Nat} (h0 : tys[0]? = some t) (h1 : tys[1]? = some t2)
    (ht : P.underlying t = some (.slice el)) (ht2 : P.underlying t2 = some (.int kk)) (hi : P.info? el = some i) (hz : i.zero = some z) (hv : v = .slice none 0 0) (hy : y = .int kv (n : Int))
    (hn : 1 ≤ n) (hs : 1 ≤ i.size) (h63 : n ≤ 9223372036854775807) (hb : n * i.bytes ≤ 140737488355328) :
    (Builtin.append_ tys ty #[v, y]).run P w = .ok (.slice (some ⟨w.heap.size, 0, none⟩) n (grownCap w n 0 el))
      (w.drew.alloc (.cells (#[] ++ Builtin.zeroCells z.cells n ++ Builtin.zeroCells z.cells (grownCap w n 0 el - n)) el)) := by
  subst hv hy
  have h63' : ¬ (9223372036854775807 < (n : Int)) := by omega
  have hwrap : IntKind.i64.wrap (n : Int) = (n : Int) := IntWalk.i64_in _ (by omega)
  have hneg : ¬ ((n : Int) < 0) := by omega
  have hbig : ¬ ((n : Int) * (i.bytes : Int) > 281474976710656) := by
    have h : ((n * i.bytes : Nat) : Int) ≤ 140737488355328 := by omega
    rw [Int.natCast_mul] at h; omega
  have h48' : ¬ (281474976710656 < Builtin.nextslicecap n 0 * i.bytes) := by
    have h2 := Nat.mul_le_mul_right i.bytes (nextslicecap_le (need := n) (old := 0) (by omega))
    rw [Nat.mul_assoc] at h2
    omega
  have hnz : ¬ (n * i.size = 0) := by
    have := Nat.mul_le_mul hn hs; omega
  have hn0 : ¬ n = 0 := by omega
  have hs0 : ¬ i.size = 0 := by omega
  have hroom : ¬ (n ≤ 0) := by omega
  simp [Builtin.append_, h0, h1, run_underlying ht, run_underlying ht2, sizeOf, typeInfo, zeroValue, hi, hz, asInt, asIntOf, hwrap, hneg, hbig, hn0, hs0, h63', h48', Question.forced, newRow, grownCap, Builtin.firstCells]
  intro h0; exact absurd h0 hnz

theorem exec_appendZ {c : Call} {x y : Operand} {res : Value} {w' : World} (ho : o.op = .call c) (hc : c.callee = .builtin .append) (ha : c.args = #[x, y])
    (hrun : (Builtin.append_ c.argTypes o.type #[ρ x, ρ y]).run P w = .ok res w') : (execOp ρ o).run P w = .ok (.value res) w' := exec_append ho hc ha hrun

theorem aAppZ_gives {c : Call} {x y : Operand} {es bs : Nat} {zs : List AV} {a b : AV} (hr : Rel ι h w) (ho : o.op = .call c) (hc : c.callee = .builtin .append) (ha : c.args = #[x, y]) (hT : ElemZ P c es bs zs)
    (hx : VR ι a (ρ x)) (hy : VR ι b (ρ y)) (e : aAppZ es bs zs a b h k = some r) : Gives P ρ o ι h w k r := by
  obtain ⟨t, t2, el, kk, i, z, ta, tb, ht, ht2, hi, hz, rfl, rfl, hzs, h1s, rfl⟩ := hT.out
  cases a using AV.casesE <;> (try (cases e; done))
  case nils =>
    dsimp only [aAppZ, AV.onSl] at e
    obtain ⟨kv, iv, rfl, e1⟩ := withInt_some e
    obtain ⟨n, rfl, e2⟩ := natI_some e1
    obtain ⟨c1, e3⟩ := bif_some e2
    obtain ⟨c2, e4⟩ := bif_some e3
    obtain ⟨c3, e5⟩ := bif_some e4
    clear e e1 e2 e3 e4
    have c1 := Nat.le_of_ble_eq_true c1
    have c2 : n * i.bytes ≤ 140737488355328 := Nat.le_of_ble_eq_true c2
    have c3 := Nat.le_of_ble_eq_true c3
    have hrun := run_app_zero (P := P) (w := w) (ty := o.type) ta tb ht ht2 hi hz hx.nils (n := n) hy.int c1 h1s (strMax_lt c3) c2
    have hvl := zeroCells_VL ι z n (by omega)
    have hR := hr.drew.newRowN (zs := (Builtin.zeroCells z.cells (grownCap w n 0 el - n)).toList) el hvl
    have hge : n ≤ grownCap w n 0 el := grownCap_ge _ _ _ _
    have earr : (#[] ++ Builtin.zeroCells z.cells n ++ Builtin.zeroCells z.cells (grownCap w n 0 el - n)) = ((Builtin.zeroCells z.cells n).toList ++ (Builtin.zeroCells z.cells (grownCap w n 0 el - n)).toList).toArray := by
      apply Array.ext'; simp
    rw [earr] at hrun
    refine ⟨_, _, _, _, .osl h.n 0 n i.size, _, exec_append ho hc ha hrun, .inl rfl, (Ext.drew ι h w).trans (Ext.alloc hr.drew _ _ _), hR, ?_, e5⟩
    have hsz : ((Builtin.zeroCells z.cells n).toList ++ (Builtin.zeroCells z.cells (grownCap w n 0 el - n)).toList).length = grownCap w n 0 el * i.size := by
      simp only [List.length_append, Array.length_toList, size_zeroCells, hzs, ← Nat.add_mul]
      rw [Nat.add_sub_cancel' hge]
    refine ⟨⟨w.drew.heap.size, 0, none⟩, grownCap w n 0 el, rfl, hge, .inr ⟨w.drew.heap.size, 0, _, by simp [Inj.add]; rfl, rfl, ?_⟩⟩
    simp only [List.length_append, Array.length_toList] at hsz ⊢
    omega
end
end Go.AI

/- Regions that draw their order: the order of the text stands for all, where what may come up together does not meddle. -/
namespace Go.AI
open Go Go.RowKit
set_option linter.unusedVariables false
set_option linter.unusedSimpArgs false

section
variable {P : Program} {ops : Array Oper} {md : Region.Mode}

/-- An operation goes well: a value, or a call that returns. -/
def goodUpon (P : Program) (o : Oper) (a : Act) (next : Act → World → Prop) : Result Next → Prop
  | .ok (.value v) w' => next (a.put o.dst v) w'
  | .ok .skip w' => next (a.put o.dst undef) w'
  | .ok (.enter f args) w' => Calls P f args w' fun e w'' => ∃ v, e = .returned v ∧ next (a.put o.dst v) w''
  | _ => False
def good (P : Program) (o : Oper) (a : Act) (w : World) (next : Act → World → Prop) : Prop := goodUpon P o a next ((execOp a.eval o).run P w)

theorem goodUpon_mono {o : Oper} {a a' : Act} {n n' : Act → World → Prop} (h : ∀ v w, n (a.put o.dst v) w → n' (a'.put o.dst v) w) {r : Result Next} (hh : goodUpon P o a n r) : goodUpon P o a' n' r := by
  cases r with
  | ok x w' =>
    cases x <;> simp only [goodUpon] at hh ⊢
    · exact h _ _ hh
    · exact h _ _ hh
    · exact hh.mono fun e w'' ⟨v, he, hn⟩ => ⟨v, he, h _ _ hn⟩
  | halt x w' => simp only [goodUpon] at hh

theorem good_some {o : Oper} {a : Act} {n : Act → World → Prop} {r : Result Next} (hh : goodUpon P o a n r) : ∃ v w, n (a.put o.dst v) w := by
  cases r with
  | ok x w' =>
    cases x <;> simp only [goodUpon] at hh
    · exact ⟨_, _, hh⟩
    · exact ⟨_, _, hh⟩
    · obtain ⟨e, w', fr, ⟨v, _, hn⟩, _⟩ := hh []; exact ⟨v, w', hn⟩
  | halt x w' => simp only [goodUpon] at hh

theorem wp_of_good {o : Oper} {a : Act} {w : World} {n : Act → World → Prop} {Q : Exit → Act → World → Prop} (h : good P o a w n) : o.wp P a w n Q := by
  unfold good at h
  unfold Oper.wp
  generalize (execOp a.eval o).run P w = r at *
  cases r with
  | ok x w' =>
    cases x <;> simp only [goodUpon] at h <;> simp only [Oper.upon]
    · exact h
    · exact h
    · exact h.mono fun e w'' ⟨v, he, hn⟩ => by subst he; exact hn
  | halt x w' => simp only [goodUpon] at h

/-- What is sure of all worlds that come up: kept where only blocks come in. -/
abbrev Adm := {S : World → Prop // ∀ w w', S w → Below w.heap.size w w' → S w'}
def Adm.all : Adm := ⟨fun _ => True, fun _ _ _ _ => trivial⟩
variable {S : Adm}
/-- The blocks that nobody knows of are there; and what is sure holds. -/
def OkU (S : Adm) (U : Nat → Prop) (w : World) : Prop := (∀ B, U B → B < w.heap.size) ∧ S.1 w
/-- One value, in whatever world; or, of what is left out. -/
def yP (S : Adm) (P : Program) (ops : Array Oper) (o : Oper) (v : Value) (a : Act) : Prop :=
  (Region.wanted o (yielded ops a.tmps) = true ∧ ∀ w, S.1 w → (execOp a.eval o).run P w = .ok (.value v) w) ∨ (Region.wanted o (yielded ops a.tmps) = false ∧ v = undef)
/-- One value, in every world with at most more blocks than w, and at most more blocks behind it. -/
def yR (P : Program) (ops : Array Oper) (o : Oper) (v : Value) (a : Act) (w : World) : Prop :=
  (Region.wanted o (yielded ops a.tmps) = true ∧ ∀ w', Below w.heap.size w w' → o.quietAt P a (fun w'' => Below w'.heap.size w' w'') w' v) ∨ (Region.wanted o (yielded ops a.tmps) = false ∧ v = undef)
/-- What stands for a new row of n elements at a block. -/
def mkA (n B : Nat) : Value := .slice (some ⟨B, 0, none⟩) n n
/-- A new row, in whatever world. -/
def yA (P : Program) (o : Oper) (n : Nat) (X : Obj) (a : Act) : Prop := ∀ w, (execOp a.eval o).run P w = .ok (.value (mkA n w.heap.size)) (w.alloc X)

/-- A world with at most more blocks, U and U' being the blocks that nobody knows of. -/
structure Gr (w : World) (U : Nat → Prop) (w' : World) (U' : Nat → Prop) : Prop where
  below : Below w.heap.size w w'
  more : U' = fun B => U B ∨ (w.heap.size ≤ B ∧ B < w'.heap.size)

theorem bel_trans {a b c : World} (h : Below a.heap.size a b) (k : Below b.heap.size b c) : Below a.heap.size a c :=
  ⟨k.os.trans h.os, k.tape.trans h.tape, k.output.trans h.output, Nat.le_trans h.size k.size, fun j hj => (k.block j (Nat.lt_of_lt_of_le hj h.size)).trans (h.block j hj)⟩
theorem Gr.refl (w : World) (U : Nat → Prop) : Gr w U w U := ⟨Below.refl _ _, by funext B; apply propext; constructor; exact .inl; rintro (h | ⟨h1, h2⟩); exact h; omega⟩
theorem Gr.trans {a b c : World} {U V W : Nat → Prop} (h : Gr a U b V) (k : Gr b V c W) : Gr a U c W :=
  ⟨bel_trans h.below k.below, by
    rw [k.more, h.more]; funext B; apply propext
    have := h.below.size; have := k.below.size
    constructor
    · rintro ((h1 | h1) | h1); exact .inl h1; exact .inr (by omega); exact .inr (by omega)
    · rintro (h1 | h1); exact .inl (.inl h1); by_cases hb : B < b.heap.size; exact .inl (.inr (by omega)); exact .inr (by omega)⟩
/-- One block of those that nobody knew of is known. -/
def less (U : Nat → Prop) (B : Nat) : Nat → Prop := fun C => U C ∧ C ≠ B
def plus (U : Nat → Prop) (B : Nat) : Nat → Prop := fun C => U C ∨ C = B
theorem less_plus {U : Nat → Prop} {B : Nat} (h : ¬ U B) : less (plus U B) B = U := by
  funext C; apply propext; unfold less plus
  constructor
  · rintro ⟨h1 | h1, h2⟩; exact h1; exact absurd h1 h2
  · intro h1; exact ⟨.inl h1, fun e => h (e ▸ h1)⟩
theorem less_comm {U : Nat → Prop} {B C : Nat} : less (less U B) C = less (less U C) B := by
  funext D; apply propext; unfold less; constructor <;> rintro ⟨⟨h1, h2⟩, h3⟩ <;> exact ⟨⟨h1, h3⟩, h2⟩
/-- What grows beside a block that is known has grown with it unknown. -/
theorem gr_plus {w w' : World} {U U' : Nat → Prop} {B : Nat} (hB : U B) (hlt : B < w.heap.size) (h : Gr w (less U B) w' U') : Gr w U w' (plus U' B) ∧ ¬ U' B := by
  refine ⟨⟨h.below, ?_⟩, ?_⟩
  · rw [h.more]; funext C; apply propext; unfold AI.plus less
    constructor
    · rintro ((⟨h1, _⟩ | h1) | rfl); exact .inl h1; exact .inr h1; exact .inl hB
    · rintro (h1 | h1)
      · by_cases e : C = B
        · exact .inr e
        · exact .inl (.inl ⟨h1, e⟩)
      · exact .inl (.inr h1)
  · rw [h.more]; unfold less; rintro (⟨_, h1⟩ | h1); exact h1 rfl; omega

/-- An operation's class: 0: only computes; 1: reads, or is a call that changes nothing old; 3: makes a row; 2: all others. -/
def step (S : Adm) (P : Program) (ops : Array Oper) (c : Nat) (o : Oper) (K : Act → World → (Nat → Prop) → Prop) (a : Act) (w : World) (U : Nat → Prop) : Prop :=
  if c = 0 then ∃ v, yP S P ops o v a ∧ K (a.put o.dst v) w U
  else if c = 1 then ∃ v, yR P ops o v a w ∧ ∀ w' U', Gr w U w' U' → K (a.put o.dst v) w' U'
  else if c = 3 then (Region.wanted o (yielded ops a.tmps) = true ∧ ∃ n X, yA P o n X a ∧ ∀ w' U' B, Gr w U w' U' → U' B → w'.heap[B]? = some X → K (a.put o.dst (mkA n B)) w' (less U' B)) ∨
    (Region.wanted o (yielded ops a.tmps) = false ∧ ∀ w' U', Gr w U w' U' → K (a.put o.dst undef) w' U')
  else (Region.wanted o (yielded ops a.tmps) = true ∧ ∀ w' U', Gr w U w' U' → good P o a w' fun a' w'' => K a' w'' U' ∧ (∀ B, U' B → w''.heap[B]? = w'.heap[B]?) ∧ S.1 w'') ∨
    (Region.wanted o (yielded ops a.tmps) = false ∧ ∀ w' U', Gr w U w' U' → K (a.put o.dst undef) w' U')

theorem step_mono {c : Nat} {o : Oper} {a : Act} {w : World} {U : Nat → Prop} {K K' : Act → World → (Nat → Prop) → Prop} (h : ∀ v w' U', K (a.put o.dst v) w' U' → K' (a.put o.dst v) w' U') (hh : step S P ops c o K a w U) : step S P ops c o K' a w U := by
  unfold step at *
  split
  · rename_i h0; rw [if_pos h0] at hh; obtain ⟨v, y, k⟩ := hh; exact ⟨v, y, h _ _ _ k⟩
  · rename_i h0; rw [if_neg h0] at hh
    split
    · rename_i h1; rw [if_pos h1] at hh; obtain ⟨v, y, k⟩ := hh; exact ⟨v, y, fun w' U' hg => h _ _ _ (k w' U' hg)⟩
    · rename_i h1; rw [if_neg h1] at hh
      split
      · rename_i h3; rw [if_pos h3] at hh
        rcases hh with ⟨hw, n, X, y, k⟩ | ⟨hw, k⟩
        · exact .inl ⟨hw, n, X, y, fun w' U' B hg hu hx => h _ _ _ (k w' U' B hg hu hx)⟩
        · exact .inr ⟨hw, fun w' U' hg => h _ _ _ (k w' U' hg)⟩
      · rename_i h3; rw [if_neg h3] at hh
        rcases hh with ⟨hw, k⟩ | ⟨hw, k⟩
        · exact .inl ⟨hw, fun w' U' hg => goodUpon_mono (fun v w => fun ⟨h1, h2, h3⟩ => ⟨h _ _ _ h1, h2, h3⟩) (k w' U' hg)⟩
        · exact .inr ⟨hw, fun w' U' hg => h _ _ _ (k w' U' hg)⟩

variable (cls : Nat → Nat)

/-- Whatever order is picked from here on. -/
def anyX (S : Adm) (P : Program) (md : Region.Mode) (ops : Array Oper) (cls : Nat → Nat) (Q : Act → World → Prop) : Nat → Array Bool → Act → World → (Nat → Prop) → Prop
  | 0, listed, a, w, _ => Region.ready md ops listed = [] ∧ Q a w
  | fuel + 1, listed, a, w, U =>
    (Region.ready md ops listed = [] → Q a w) ∧ ∀ i ∈ Region.ready md ops listed, ∀ o, ops[i]? = some o → step S P ops (cls i) o (anyX S P md ops cls Q fuel (listed.setIfInBounds i true)) a w U

theorem Gr.new {w : World} {U : Nat → Prop} (hU : ∀ B, U B → B < w.heap.size) (X : Obj) : Gr w U (w.alloc X) (plus U w.heap.size) :=
  ⟨⟨rfl, rfl, rfl, by simp, fun k hk => Below.heap_alloc w X k hk⟩, by
    funext B; apply propext; unfold AI.plus
    constructor
    · rintro (h | rfl); exact .inl h; exact .inr ⟨Nat.le_refl _, by simp⟩
    · rintro (h | ⟨h1, h2⟩); exact .inl h; simp at h2; exact .inr (by omega)⟩
theorem OkU.gr {S : Adm} {U U' : Nat → Prop} {w w' : World} (h : OkU S U w) (g : Gr w U w' U') : OkU S U' w' := ⟨fun B hB => by
    rw [g.more] at hB
    rcases hB with h1 | h1
    · exact Nat.lt_of_lt_of_le (h.1 B h1) g.below.size
    · exact h1.2, S.2 _ _ h.2 g.below⟩
theorem OkU.eff {S : Adm} {U : Nat → Prop} {w w' : World} (h : ∀ B, U B → B < w.heap.size) (h2 : ∀ B, U B → w'.heap[B]? = w.heap[B]?) (h3 : S.1 w') : OkU S U w' := ⟨fun B hB => by
    have h4 := h2 B hB
    rw [Array.getElem?_eq_getElem (h B hB)] at h4
    exact (Array.getElem?_eq_some_iff.1 h4).1, h3⟩
theorem OkU.less {S : Adm} {U : Nat → Prop} {w : World} {B : Nat} (h : OkU S U w) : OkU S (less U B) w := ⟨fun C hC => h.1 C hC.1, h.2⟩
theorem Gr.of {w w' : World} (U : Nat → Prop) (h : Below w.heap.size w w') : Gr w U w' (fun B => U B ∨ (w.heap.size ≤ B ∧ B < w'.heap.size)) := ⟨h, rfl⟩
theorem alloc_new (w : World) (X : Obj) : (w.alloc X).heap[w.heap.size]? = some X := heap_alloc_new w X

theorem wpAny_of_anyX {Q : Act → World → Prop} {Q' : Exit → Act → World → Prop} (hQ : ∀ a w, Q a w → Q' .normal a w) : ∀ (fuel : Nat) (listed : Array Bool) (a : Act) (w : World) (U : Nat → Prop), OkU S U w → anyX S P md ops cls Q fuel listed a w U → wpAny P md ops Q' fuel listed a w
  | 0, _, _, _, _, _, h => ⟨h.1, hQ _ _ h.2⟩
  | fuel + 1, listed, a, w, U, hU, h => ⟨fun h0 => hQ _ _ (h.1 h0), fun i hi => by
    obtain ⟨_, o, ho, _⟩ := mem_ready.1 hi
    have hs := h.2 i hi o ho
    have ih := wpAny_of_anyX hQ fuel (listed.setIfInBounds i true)
    have hg : ∀ w', Below w.heap.size w w' → OkU S (fun B => U B ∨ (w.heap.size ≤ B ∧ B < w'.heap.size)) w' := fun w' hb => hU.gr (Gr.of U hb)
    unfold wpOp
    simp only [ho]
    unfold step at hs
    split at hs
    · obtain ⟨v, y, k⟩ := hs
      rcases y with ⟨hw, y⟩ | ⟨hw, rfl⟩
      · rw [if_pos hw]
        left
        unfold Oper.wp
        rw [y w hU.2]
        exact ih _ _ U hU k
      · rw [if_neg (by rw [hw]; simp)]; exact ih _ _ U hU k
    · split at hs
      · obtain ⟨v, y, k⟩ := hs
        rcases y with ⟨hw, y⟩ | ⟨hw, rfl⟩
        · rw [if_pos hw]
          left
          have y := y w (Below.refl _ _)
          unfold Oper.quietAt at y
          unfold Oper.wp
          generalize (execOp a.eval o).run P w = r at *
          cases r with
          | ok n w' =>
            cases n <;> simp only [Oper.quietUpon] at y <;> simp only [Oper.upon]
            · obtain ⟨e1, e2⟩ := y; rw [e1, e2]; exact ih _ _ U hU (k w U (Gr.refl _ _))
            · obtain ⟨e1, e2⟩ := y; rw [e1, ← e2]; exact ih _ _ U hU (k w U (Gr.refl _ _))
            · obtain ⟨e1, hc⟩ := y
              rw [e1]
              exact hc.mono fun e w'' ⟨he, hw''⟩ => by subst he; exact ih _ _ _ (hg w'' hw'') (k w'' _ (Gr.of U hw''))
          | halt x w' => simp only [Oper.quietUpon] at y
        · rw [if_neg (by rw [hw]; simp)]; exact ih _ _ U hU (k w U (Gr.refl _ _))
      · split at hs
        · rcases hs with ⟨hw, n, X, y, k⟩ | ⟨hw, k⟩
          · rw [if_pos hw]
            left
            unfold Oper.wp
            rw [y w]
            have := k (w.alloc X) _ w.heap.size (Gr.new hU.1 X) (.inr rfl) (alloc_new w X)
            rw [less_plus (fun h => absurd (hU.1 _ h) (by omega))] at this
            have hN := hU.gr (Gr.new hU.1 X)
            exact ih _ _ U ⟨fun B hB => hN.1 B (.inl hB), hN.2⟩ this
          · rw [if_neg (by rw [hw]; simp)]; exact ih _ _ U hU (k w U (Gr.refl _ _))
        · rcases hs with ⟨hw, k⟩ | ⟨hw, k⟩
          · rw [if_pos hw]
            left
            refine Oper.wp_mono ?_ (wp_of_good (k w U (Gr.refl _ _)))
            rintro a' w'' ⟨h1, h2, h3⟩
            exact ih _ _ U (OkU.eff hU.1 h2 h3) h1
          · rw [if_neg (by rw [hw]; simp)]; exact ih _ _ U hU (k w U (Gr.refl _ _))⟩

theorem yP_put {o : Oper} (hs : ∀ cs b, o.op ≠ .select cs b) {a : Act} {d : Option Tmp} {u v : Value} (h : ∀ t, d = some t → t ∉ o.looksAt ops) : yP S P ops o v (a.put d u) ↔ yP S P ops o v a := by
  unfold yP; rw [execOp_put o hs a d u h, wanted_put o a d u h]
theorem yR_put {o : Oper} (hs : ∀ cs b, o.op ≠ .select cs b) {a : Act} {d : Option Tmp} {u v : Value} {w : World} (h : ∀ t, d = some t → t ∉ o.looksAt ops) : yR P ops o v (a.put d u) w ↔ yR P ops o v a w := by
  unfold yR Oper.quietAt; rw [execOp_put o hs a d u h, wanted_put o a d u h]
theorem yA_put {o : Oper} (hs : ∀ cs b, o.op ≠ .select cs b) {a : Act} {d : Option Tmp} {u : Value} {n : Nat} {X : Obj} (h : ∀ t, d = some t → t ∉ o.looksAt ops) : yA P o n X (a.put d u) ↔ yA P o n X a := by
  unfold yA; rw [execOp_put o hs a d u h]
theorem yP_one {o : Oper} {u v : Value} {a : Act} {w : World} (hS : S.1 w) (h1 : yP S P ops o u a) (h2 : yP S P ops o v a) : u = v := by
  rcases h1 with ⟨w1, e1⟩ | ⟨w1, rfl⟩ <;> rcases h2 with ⟨w2, e2⟩ | ⟨w2, rfl⟩
  · have := (e1 w hS).symm.trans (e2 w hS); cases this; rfl
  · rw [w1] at w2; cases w2
  · rw [w1] at w2; cases w2
  · rfl
theorem yA_one {o : Oper} {n m : Nat} {X Y : Obj} {a : Act} (h1 : yA P o n X a) (h2 : yA P o m Y a) : n = m ∧ X = Y := by
  have e := (h1 default).symm.trans (h2 default)
  simp only [Result.ok.injEq, Next.value.injEq, mkA, Value.slice.injEq] at e
  refine ⟨e.1.2.1, ?_⟩
  have hx := alloc_new (default : World) X
  rw [e.2, alloc_new] at hx
  exact (Option.some.inj hx).symm
theorem yR_later {o : Oper} {v : Value} {a : Act} {w w' : World} (hg : Below w.heap.size w w') (h : yR P ops o v a w) : yR P ops o v a w' := by
  rcases h with ⟨h1, h2⟩ | h
  · exact .inl ⟨h1, fun w2 h3 => h2 w2 (bel_trans hg h3)⟩
  · exact .inr h
theorem step_some {c : Nat} {o : Oper} {a : Act} {w : World} {U : Nat → Prop} (hU : OkU S U w) {K : Act → World → (Nat → Prop) → Prop} (h : step S P ops c o K a w U) : ∃ v w' U', K (a.put o.dst v) w' U' ∧ OkU S U' w' := by
  unfold step at h
  split at h
  · obtain ⟨v, _, k⟩ := h; exact ⟨v, w, U, k, hU⟩
  · split at h
    · obtain ⟨v, _, k⟩ := h; exact ⟨v, w, U, k w U (Gr.refl _ _), hU⟩
    · split at h
      · rcases h with ⟨hw, n, X, y, k⟩ | ⟨hw, k⟩
        · exact ⟨_, _, _, k (w.alloc X) _ w.heap.size (Gr.new hU.1 X) (.inr rfl) (alloc_new w X), (hU.gr (Gr.new hU.1 X)).less⟩
        · exact ⟨undef, w, U, k w U (Gr.refl _ _), hU⟩
      · rcases h with ⟨hw, k⟩ | ⟨hw, k⟩
        · obtain ⟨v, w', h1, h2, h3⟩ := good_some (k w U (Gr.refl _ _))
          exact ⟨v, w', U, h1, OkU.eff hU.1 h2 h3⟩
        · exact ⟨undef, w, U, k w U (Gr.refl _ _), hU⟩

/-- Another operation's result is laid ahead. -/
theorem step_put {c : Nat} {o : Oper} (hs : ∀ cs b, o.op ≠ .select cs b) {a : Act} {d : Option Tmp} {u : Value} {w : World} {U : Nat → Prop} {K K' : Act → World → (Nat → Prop) → Prop} (h : ∀ t, d = some t → t ∉ o.looksAt ops)
    (hk : ∀ v w' U', K ((a.put d u).put o.dst v) w' U' → K' (a.put o.dst v) w' U') (hh : step S P ops c o K (a.put d u) w U) : step S P ops c o K' a w U := by
  unfold step at *
  rw [wanted_put o a d u h] at hh
  split
  · rename_i h0; rw [if_pos h0] at hh; obtain ⟨v, y, k⟩ := hh; exact ⟨v, (yP_put hs h).1 y, hk _ _ _ k⟩
  · rename_i h0; rw [if_neg h0] at hh
    split
    · rename_i h1; rw [if_pos h1] at hh; obtain ⟨v, y, k⟩ := hh; exact ⟨v, (yR_put hs h).1 y, fun w' U' hg => hk _ _ _ (k w' U' hg)⟩
    · rename_i h1; rw [if_neg h1] at hh
      split
      · rename_i h3; rw [if_pos h3] at hh
        rcases hh with ⟨hw, n, X, y, k⟩ | ⟨hw, k⟩
        · exact .inl ⟨hw, n, X, (yA_put hs h).1 y, fun w' U' B hg hu hx => hk _ _ _ (k w' U' B hg hu hx)⟩
        · exact .inr ⟨hw, fun w' U' hg => hk _ _ _ (k w' U' hg)⟩
      · rename_i h3; rw [if_neg h3] at hh
        rcases hh with ⟨hw, k⟩ | ⟨hw, k⟩
        · refine .inl ⟨hw, fun w' U' hg => ?_⟩
          have k := k w' U' hg
          unfold good at k ⊢
          rw [execOp_put o hs a d u h] at k
          exact goodUpon_mono (fun v w => fun ⟨h1, h2, h3⟩ => ⟨hk _ _ _ h1, h2, h3⟩) k
        · exact .inr ⟨hw, fun w' U' hg => hk _ _ _ (k w' U' hg)⟩

/-- May i be taken ahead of j? -/
def freeC (ci cj : Nat) : Prop := ci = 0 ∨ cj = 0 ∨ (ci = 1 ∧ cj = 1) ∨ cj = 3

/-- What each operation waits for, over others too: a number, bit by bit. -/
def maskOf (md : Region.Mode) (o : Oper) (acc : List Nat) : Nat := o.after.toList.foldl (fun s e => bif Region.binds md e then (s ||| 2 ^ e.on) ||| acc.getD e.on 0 else s) 0
def masks (md : Region.Mode) : List Oper → List Nat → List Nat
  | [], acc => acc
  | o :: l, acc => masks md l (acc ++ [maskOf md o acc])
/-- Does j wait for i, over others too? -/
def reachB (ms : List Nat) (j i : Nat) : Bool := (ms.getD j 0).testBit i
/-- What has come up: what it waited for too. -/
def Closed (md : Region.Mode) (ops : Array Oper) (listed : Array Bool) : Prop := ∀ j oj, ops[j]? = some oj → listed.getD j false = true → ∀ e ∈ oj.after, Region.binds md e = true → listed.getD e.on false = true
/-- Whatever waits for what has come up, i has come up. -/
def Implies (md : Region.Mode) (ops : Array Oper) (j i : Nat) : Prop := (∃ oj, ops[j]? = some oj) ∧ ∀ listed, Closed md ops listed → ∀ oj, ops[j]? = some oj → (∀ e ∈ oj.after, Region.binds md e = true → listed.getD e.on false = true) → listed.getD i false = true
theorem maskOf_spec {acc : List Nat} {j : Nat} {o : Oper} (ho : ops[j]? = some o) (hacc : ∀ k i, (acc.getD k 0).testBit i = true → Implies md ops k i) (i : Nat) (h : (maskOf md o acc).testBit i = true) : Implies md ops j i := by
  have key : ∀ (l : List Edge) (s : Nat), (∀ e ∈ l, e ∈ o.after) → (s.testBit i = true → Implies md ops j i) → (l.foldl (fun s e => bif Region.binds md e then (s ||| 2 ^ e.on) ||| acc.getD e.on 0 else s) s).testBit i = true → Implies md ops j i := by
    intro l
    induction l with
    | nil => intro s _ hs h; exact hs h
    | cons e l ih =>
      intro s hl hs h
      rw [List.foldl_cons] at h
      refine ih _ (fun e' he' => hl e' (List.mem_cons_of_mem _ he')) (fun h2 => ?_) h
      cases hb : Region.binds md e with
      | false => rw [hb, cond_false] at h2; exact hs h2
      | true =>
        rw [hb, cond_true, Nat.testBit_or, Nat.testBit_or, Bool.or_eq_true, Bool.or_eq_true] at h2
        rcases h2 with (h2 | h2) | h2
        · exact hs h2
        · rw [Nat.testBit_two_pow] at h2
          have h2 := of_decide_eq_true h2
          refine ⟨⟨o, ho⟩, ?_⟩
          intro listed hc oj hoj hall
          rw [ho] at hoj; cases hoj
          rw [← h2]; exact hall e (hl e (List.mem_cons_self ..)) hb
        · obtain ⟨⟨oe, hoe⟩, hI⟩ := hacc e.on i h2
          refine ⟨⟨o, ho⟩, ?_⟩
          intro listed hc oj hoj hall
          rw [ho] at hoj; cases hoj
          have h3 := hall e (hl e (List.mem_cons_self ..)) hb
          exact hI listed hc oe hoe fun e' he' hb' => hc e.on oe hoe h3 e' he' hb'
  exact key o.after.toList 0 (fun e he => by simpa using he) (fun h => by simp at h) h
theorem masks_spec : ∀ (l : List Oper) (acc : List Nat), (∀ q, l[q]? = ops[acc.length + q]?) → (∀ k i, (acc.getD k 0).testBit i = true → Implies md ops k i) → ∀ k i, ((masks md l acc).getD k 0).testBit i = true → Implies md ops k i
  | [], acc, _, hacc, k, i, h => hacc k i h
  | o :: l, acc, hl, hacc, k, i, h => by
    have h0 : ops[acc.length]? = some o := by simpa using (hl 0).symm
    refine masks_spec l (acc ++ [maskOf md o acc]) (fun q => ?_) (fun k i h => ?_) k i h
    · have := hl (q + 1)
      rw [List.length_append, List.length_singleton]
      simpa [Nat.add_assoc, Nat.add_comm 1 q] using this
    · by_cases hk : k < acc.length
      · refine hacc k i ?_
        rw [List.getD_eq_getElem?_getD, List.getElem?_append_left hk] at h
        rw [List.getD_eq_getElem?_getD]; exact h
      · by_cases hk2 : k = acc.length
        · subst hk2
          rw [List.getD_eq_getElem?_getD, List.getElem?_append_right (Nat.le_refl _)] at h
          exact maskOf_spec h0 hacc i (by simpa using h)
        · rw [List.getD_eq_getElem?_getD, List.getElem?_eq_none (by simp; omega)] at h
          simp at h

theorem Closed.set {listed : Array Bool} (hc : Closed md ops listed) {j : Nat} (hj : j ∈ Region.ready md ops listed) : Closed md ops (listed.setIfInBounds j true) := by
  intro k ok hk hl e he hb
  obtain ⟨_, oj, hoj, hall⟩ := mem_ready.1 hj
  by_cases hkj : j = k
  · subst hkj; rw [hk] at hoj; cases hoj; exact getD_set_true (hall e he hb)
  · rw [getD_set_ne false hkj] at hl; exact getD_set_true (hc k ok hk hl e he hb)

theorem step_bound {c : Nat} {o : Oper} {a : Act} {w : World} {U : Nat → Prop} (hU : OkU S U w) {K : Act → World → (Nat → Prop) → Prop} (k : step S P ops c o K a w U) :
    step S P ops c o (fun a' w' U' => OkU S U' w' ∧ K a' w' U') a w U := by
  have hgr : ∀ {w' : World} {U' : Nat → Prop}, Gr w U w' U' → OkU S U' w' := fun {w' U'} hg => hU.gr hg
  unfold step at k ⊢
  split
  · rename_i h0; rw [if_pos h0] at k; obtain ⟨u, yu, k⟩ := k; exact ⟨u, yu, hU, k⟩
  · rename_i h0; rw [if_neg h0] at k
    split
    · rename_i h1; rw [if_pos h1] at k; obtain ⟨u, yu, k⟩ := k; exact ⟨u, yu, fun w' U' hg => ⟨hgr hg, k w' U' hg⟩⟩
    · rename_i h1; rw [if_neg h1] at k
      split
      · rename_i h3; rw [if_pos h3] at k
        rcases k with ⟨hw, n, X, yu, k⟩ | ⟨hw, k⟩
        · exact .inl ⟨hw, n, X, yu, fun w' U' B hg hu hx => ⟨(hgr hg).less, k w' U' B hg hu hx⟩⟩
        · exact .inr ⟨hw, fun w' U' hg => ⟨hgr hg, k w' U' hg⟩⟩
      · rename_i h3; rw [if_neg h3] at k
        rcases k with ⟨hw, k⟩ | ⟨hw, k⟩
        · exact .inl ⟨hw, fun w' U' hg => goodUpon_mono (fun v w'' => fun ⟨h1, h2, h3⟩ => ⟨⟨OkU.eff (hgr hg).1 h2 h3, h1⟩, h2, h3⟩) (k w' U' hg)⟩
        · exact .inr ⟨hw, fun w' U' hg => ⟨hgr hg, k w' U' hg⟩⟩

theorem anyX_first {Q : Act → World → Prop} {i : Nat} {oi : Oper} (hi : ops[i]? = some oi) (hsel : ∀ (j : Nat) (o : Oper) cs b, ops[j]? = some o → o.op ≠ .select cs b) :
    ∀ (fuel : Nat) (listed : Array Bool) (a : Act) (w : World) (U : Nat → Prop), OkU S U w →
      Closed md ops listed → (∀ j oj, ops[j]? = some oj → j ≠ i → listed.getD j true = false → reachB (masks md ops.toList []) j i = false → oi.apart ops oj = true ∧ freeC (cls i) (cls j)) →
      i ∈ Region.ready md ops listed → step S P ops (cls i) oi (anyX S P md ops cls Q fuel (listed.setIfInBounds i true)) a w U → anyX S P md ops cls Q (fuel + 1) listed a w U := by
  intro fuel
  induction fuel with
  | zero =>
    intro listed a w U hU _ _ hr H
    refine ⟨fun h => (by rw [h] at hr; cases hr), fun j hj o ho => ?_⟩
    by_cases hji : j = i
    · subst hji; rw [hi] at ho; cases ho; exact H
    · have := ready_mono hj hji
      obtain ⟨v, w', U', k, _⟩ := step_some hU H
      rw [k.1] at this; cases this
  | succ fuel ih =>
    intro listed a w U hU hcl hfree hr H
    refine ⟨fun h => (by rw [h] at hr; cases hr), fun j hj o ho => ?_⟩
    by_cases hji : j = i
    · subst hji; rw [hi] at ho; cases ho; exact H
    obtain ⟨hjun, oj, hoj, hall⟩ := mem_ready.1 hj
    rw [ho] at hoj; cases hoj
    have hnot : reachB (masks md ops.toList []) j i = false := by
      cases hq : reachB (masks md ops.toList []) j i with
      | false => rfl
      | true =>
        have h1 := (masks_spec (md := md) (ops := ops) ops.toList [] (fun q => by simp) (fun k i h => by simp at h) j i hq).2 listed hcl o ho hall
        have h0 := (mem_ready.1 hr).1
        rcases Nat.lt_or_ge i listed.size with h' | h'
        · simp [h'] at h0 h1; rw [h0] at h1; cases h1
        · simp [Array.getElem?_eq_none h'] at h1
    have hcl' := hcl.set hj
    obtain ⟨hap, hcls⟩ := hfree j o ho hji hjun hnot
    obtain ⟨h1, h2, h3⟩ := Oper.apart_spec hap
    have hrj := ready_mono hj hji
    have hri : i ∈ Region.ready md ops (listed.setIfInBounds j true) := ready_mono hr (Ne.symm hji)
    have hso := fun cs b => hsel j o cs b ho
    have hsi := fun cs b => hsel i oi cs b hi
    have hfree' : ∀ k ok, ops[k]? = some ok → k ≠ i → (listed.setIfInBounds j true).getD k true = false →
        reachB (masks md ops.toList []) k i = false → oi.apart ops ok = true ∧ freeC (cls i) (cls k) := by
      intro k ok hk hki hun hno
      refine hfree k ok hk hki ?_ hno
      by_cases hjk : j = k
      · subst hjk; exact hjun
      · rw [getD_set_ne true hjk] at hun; exact hun
    have hcomm : (listed.setIfInBounds i true).setIfInBounds j true = (listed.setIfInBounds j true).setIfInBounds i true := Array.setIfInBounds_comm _ _ (Ne.symm hji)
    have comm : ∀ u v, ((a.put oi.dst v).put o.dst u) = ((a.put o.dst u).put oi.dst v) := fun u v => Act.put_comm a v u h2
    have wj : ∀ v, Region.wanted o (yielded ops (a.put oi.dst v).tmps) = Region.wanted o (yielded ops a.tmps) := fun v => wanted_put o a oi.dst v h1
    have wi : ∀ u, Region.wanted oi (yielded ops (a.put o.dst u).tmps) = Region.wanted oi (yielded ops a.tmps) := fun u => wanted_put oi a o.dst u h3
    have hgr : ∀ {w' : World} {U' : Nat → Prop}, Gr w U w' U' → OkU S U' w' := fun {w' U'} hg => hU.gr hg
    -- what comes of i, j being next
    have J : ∀ {a1 : Act} {w1 : World} {U1 : Nat → Prop}, anyX S P md ops cls Q (fuel + 1) (listed.setIfInBounds i true) a1 w1 U1 → step S P ops (cls j) o (anyX S P md ops cls Q fuel ((listed.setIfInBounds j true).setIfInBounds i true)) a1 w1 U1 := fun {a1 w1 U1} hK => by
      have := hK.2 j hrj o ho
      rw [hcomm] at this; exact this
    by_cases hi0 : cls i = 0
    · rw [hi0] at H
      unfold step at H
      rw [if_pos rfl] at H
      obtain ⟨v, y, k⟩ := H
      have bound := step_bound hU (J k)
      refine step_put hso h1 (fun u w' U' hK => ?_) bound
      refine ih (listed.setIfInBounds j true) (a.put o.dst u) w' U' hK.1 hcl' hfree' hri ?_
      rw [hi0]
      unfold step
      rw [if_pos rfl]
      refine ⟨v, (yP_put hsi h3).2 y, ?_⟩
      rw [← comm]; exact hK.2
    by_cases hj0 : cls j = 0
    · -- j only computes
      obtain ⟨v0, w0, U0, k0, _⟩ := step_some hU H
      have k0 := J k0
      rw [hj0] at k0 ⊢
      unfold step at k0
      rw [if_pos rfl] at k0
      obtain ⟨u, yu, _⟩ := k0
      have yu := (yP_put hso h1).1 yu
      have use : ∀ {v : Value} {w1 : World} {U1 : Nat → Prop}, anyX S P md ops cls Q (fuel + 1) (listed.setIfInBounds i true) (a.put oi.dst v) w1 U1 → anyX S P md ops cls Q fuel ((listed.setIfInBounds j true).setIfInBounds i true) ((a.put o.dst u).put oi.dst v) w1 U1 := fun {v w1 U1} hK => by
        have k1 := J hK
        rw [hj0] at k1
        unfold step at k1
        rw [if_pos rfl] at k1
        obtain ⟨u1, yu1, k2⟩ := k1
        obtain rfl := yP_one hU.2 yu ((yP_put hso h1).1 yu1)
        rw [← comm]; exact k2
      have goal : step S P ops (cls i) oi (anyX S P md ops cls Q fuel ((listed.setIfInBounds j true).setIfInBounds i true)) (a.put o.dst u) w U := by
        unfold step at H ⊢
        rw [wi u]
        rw [if_neg hi0] at H ⊢
        split
        · rename_i hc; rw [if_pos hc] at H; obtain ⟨v, y, k⟩ := H; exact ⟨v, (yR_put hsi h3).2 y, fun w' U' hg => use (k w' U' hg)⟩
        · rename_i hc; rw [if_neg hc] at H
          split
          · rename_i hc3; rw [if_pos hc3] at H
            rcases H with ⟨hw, n, X, y, k⟩ | ⟨hw, k⟩
            · exact .inl ⟨hw, n, X, (yA_put hsi h3).2 y, fun w' U' B hg hu hx => use (k w' U' B hg hu hx)⟩
            · exact .inr ⟨hw, fun w' U' hg => use (k w' U' hg)⟩
          · rename_i hc3; rw [if_neg hc3] at H
            rcases H with ⟨hw, k⟩ | ⟨hw, k⟩
            · refine .inl ⟨hw, fun w' U' hg => ?_⟩
              have k := k w' U' hg
              unfold good at k ⊢
              rw [execOp_put oi hsi a o.dst u h3]
              exact goodUpon_mono (fun v w => fun ⟨h1, h2, h3⟩ => ⟨use h1, h2, h3⟩) k
            · exact .inr ⟨hw, fun w' U' hg => use (k w' U' hg)⟩
      unfold step
      rw [if_pos rfl]
      exact ⟨u, yu, ih (listed.setIfInBounds j true) (a.put o.dst u) w U hU hcl' hfree' hri goal⟩
    by_cases hj3 : cls j = 3
    · -- j makes a row
      obtain ⟨v0, w0, U0, k0, hU0⟩ := step_some hU H
      have k0 := J k0
      rw [hj3] at k0 ⊢
      unfold step at k0
      rw [if_neg (by omega), if_neg (by omega), if_pos rfl, wj] at k0
      unfold step
      rw [if_neg (by omega), if_neg (by omega), if_pos rfl]
      rcases k0 with ⟨hw, n, X, yj, _⟩ | ⟨hw, _⟩
      · have yj := (yA_put hso h1).1 yj
        refine .inl ⟨hw, n, X, yj, fun w1 U1 B hg1 hB hX => ?_⟩
        have hBlt : B < w1.heap.size := (hgr hg1).1 B hB
        have use : ∀ {v : Value} {w3 : World} {U3 : Nat → Prop}, U3 B → w3.heap[B]? = some X → anyX S P md ops cls Q (fuel + 1) (listed.setIfInBounds i true) (a.put oi.dst v) w3 U3 →
            anyX S P md ops cls Q fuel ((listed.setIfInBounds j true).setIfInBounds i true) ((a.put o.dst (mkA n B)).put oi.dst v) w3 (less U3 B) := fun {v w3 U3} hu hx hK => by
          have k1 := J hK
          rw [hj3] at k1
          unfold step at k1
          rw [if_neg (by omega), if_neg (by omega), if_pos rfl, wj] at k1
          rcases k1 with ⟨_, n', X', y', k2⟩ | ⟨hw', _⟩
          · obtain ⟨rfl, rfl⟩ := yA_one yj ((yA_put hso h1).1 y')
            rw [← comm]; exact k2 w3 U3 B (Gr.refl _ _) hu hx
          · rw [hw] at hw'; cases hw'
        refine ih (listed.setIfInBounds j true) (a.put o.dst (mkA n B)) w1 (less U1 B) (hgr hg1).less hcl' hfree' hri ?_
        have later : ∀ {w3 : World} {U3 : Nat → Prop}, Gr w1 (less U1 B) w3 U3 → Gr w U w3 (plus U3 B) ∧ ¬ U3 B ∧ w3.heap[B]? = some X := fun {w3 U3} hg => by
          obtain ⟨g1, g2⟩ := gr_plus hB hBlt hg
          exact ⟨hg1.trans g1, g2, (hg.below.block B hBlt).trans hX⟩
        unfold step at H ⊢
        rw [wi (mkA n B)]
        rw [if_neg hi0] at H ⊢
        split
        · rename_i hc; rw [if_pos hc] at H
          obtain ⟨v, y, k⟩ := H
          refine ⟨v, (yR_put hsi h3).2 (yR_later hg1.below y), fun w3 U3 hg => ?_⟩
          obtain ⟨l1, l2, l3⟩ := later hg
          have := use (.inr rfl) l3 (k w3 _ l1)
          rwa [less_plus l2] at this
        · rename_i hc; rw [if_neg hc] at H
          split
          · rename_i hc3; rw [if_pos hc3] at H
            rcases H with ⟨hwi, m, Y, y, k⟩ | ⟨hwi, k⟩
            · refine .inl ⟨hwi, m, Y, (yA_put hsi h3).2 y, fun w3 U3 C hg hu hx => ?_⟩
              obtain ⟨l1, l2, l3⟩ := later hg
              have hCB : C ≠ B := fun e => l2 (e ▸ hu)
              have := use (v := mkA m C) ⟨.inr rfl, Ne.symm hCB⟩ l3 (k w3 _ C l1 (.inl hu) hx)
              rw [less_comm, less_plus l2] at this
              exact this
            · refine .inr ⟨hwi, fun w3 U3 hg => ?_⟩
              obtain ⟨l1, l2, l3⟩ := later hg
              have := use (.inr rfl) l3 (k w3 _ l1)
              rwa [less_plus l2] at this
          · rename_i hc3; rw [if_neg hc3] at H
            rcases H with ⟨hwi, k⟩ | ⟨hwi, k⟩
            · refine .inl ⟨hwi, fun w3 U3 hg => ?_⟩
              obtain ⟨l1, l2, l3⟩ := later hg
              have k := k w3 _ l1
              unfold good at k ⊢
              rw [execOp_put oi hsi a o.dst (mkA n B) h3]
              refine goodUpon_mono (fun v w4 => fun ⟨h1, h2, h3⟩ => ?_) k
              have := use (.inr rfl) ((h2 B (.inr rfl)).trans l3) h1
              rw [less_plus l2] at this
              exact ⟨this, fun C hC => h2 C (.inl hC), h3⟩
            · refine .inr ⟨hwi, fun w3 U3 hg => ?_⟩
              obtain ⟨l1, l2, l3⟩ := later hg
              have := use (.inr rfl) l3 (k w3 _ l1)
              rwa [less_plus l2] at this
      · refine .inr ⟨hw, fun w1 U1 hg1 => ?_⟩
        have use : ∀ {v : Value} {w3 : World} {U3 : Nat → Prop}, anyX S P md ops cls Q (fuel + 1) (listed.setIfInBounds i true) (a.put oi.dst v) w3 U3 →
            anyX S P md ops cls Q fuel ((listed.setIfInBounds j true).setIfInBounds i true) ((a.put o.dst undef).put oi.dst v) w3 U3 := fun {v w3 U3} hK => by
          have k1 := J hK
          rw [hj3] at k1
          unfold step at k1
          rw [if_neg (by omega), if_neg (by omega), if_pos rfl, wj] at k1
          rcases k1 with ⟨hw', _⟩ | ⟨_, k2⟩
          · rw [hw] at hw'; cases hw'
          · rw [← comm]; exact k2 w3 U3 (Gr.refl _ _)
        refine ih (listed.setIfInBounds j true) (a.put o.dst undef) w1 U1 (hgr hg1) hcl' hfree' hri ?_
        unfold step at H ⊢
        rw [wi undef]
        rw [if_neg hi0] at H ⊢
        split
        · rename_i hc; rw [if_pos hc] at H
          obtain ⟨v, y, k⟩ := H
          exact ⟨v, (yR_put hsi h3).2 (yR_later hg1.below y), fun w3 U3 hg => use (k w3 U3 (hg1.trans hg))⟩
        · rename_i hc; rw [if_neg hc] at H
          split
          · rename_i hc3; rw [if_pos hc3] at H
            rcases H with ⟨hwi, m, Y, y, k⟩ | ⟨hwi, k⟩
            · exact .inl ⟨hwi, m, Y, (yA_put hsi h3).2 y, fun w3 U3 C hg hu hx => use (k w3 U3 C (hg1.trans hg) hu hx)⟩
            · exact .inr ⟨hwi, fun w3 U3 hg => use (k w3 U3 (hg1.trans hg))⟩
          · rename_i hc3; rw [if_neg hc3] at H
            rcases H with ⟨hwi, k⟩ | ⟨hwi, k⟩
            · refine .inl ⟨hwi, fun w3 U3 hg => ?_⟩
              have k := k w3 U3 (hg1.trans hg)
              unfold good at k ⊢
              rw [execOp_put oi hsi a o.dst undef h3]
              exact goodUpon_mono (fun v w4 => fun ⟨h1, h2⟩ => ⟨use h1, h2⟩) k
            · exact .inr ⟨hwi, fun w3 U3 hg => use (k w3 U3 (hg1.trans hg))⟩
    · -- both read
      have hi1 : cls i = 1 := by unfold freeC at hcls; omega
      have hj1 : cls j = 1 := by unfold freeC at hcls; omega
      rw [hi1] at H
      unfold step at H
      rw [if_neg (by omega), if_pos rfl] at H
      obtain ⟨v, y, k⟩ := H
      have k0 := J (k w U (Gr.refl _ _))
      rw [hj1] at k0 ⊢
      unfold step at k0 ⊢
      rw [if_neg (by omega), if_pos rfl] at k0 ⊢
      obtain ⟨u, yu, k1⟩ := k0
      refine ⟨u, (yR_put hso h1).1 yu, fun w1 U1 hg1 => ih (listed.setIfInBounds j true) (a.put o.dst u) w1 U1 (hgr hg1) hcl' hfree' hri ?_⟩
      rw [hi1]
      unfold step
      rw [if_neg (by omega), if_pos rfl]
      refine ⟨v, (yR_put hsi h3).2 (yR_later hg1.below y), fun w2 U2 hg2 => ?_⟩
      rw [← comm]
      exact k1 w2 U2 (hg1.trans hg2)

/-! ### The order of the text -/
def freeB (ci cj : Nat) : Bool := ci == 0 || (cj == 0 || ((ci == 1 && cj == 1) || cj == 3))
theorem freeB_spec {ci cj : Nat} (h : freeB ci cj = true) : freeC ci cj := by
  unfold freeB at h; unfold freeC
  simp only [Bool.or_eq_true, Bool.and_eq_true, beq_iff_eq] at h
  exact h
/-- Does what comes up at place k meddle with nothing that may come up beside it? -/
def freeX (ms : List Nat) (ops : Array Oper) (cls : Nat → Nat) (listed : Array Bool) (i : Nat) : Bool :=
  match ops[i]? with
  | none => false
  | some oi => (List.range ops.size).all fun j => j == i || listed.getD j true || match ops[j]? with
      | some oj => reachB ms j i || (oi.apart ops oj && freeB (cls i) (cls j))
      | none => true
def lexFromX (md : Region.Mode) (ms : List Nat) (ops : Array Oper) (cls : Nat → Nat) : Nat → Nat → Array Bool → Bool
  | 0, _, listed => (Region.ready md ops listed).isEmpty
  | fuel + 1, k, listed => (Region.ready md ops listed).contains k && freeX ms ops cls listed k && lexFromX md ms ops cls fuel (k + 1) (listed.setIfInBounds k true)
def lexX (md : Region.Mode) (ops : Array Oper) (cls : Nat → Nat) : Bool := Region.noSelect ops && lexFromX md (masks md ops.toList []) ops cls ops.size 0 (Array.replicate ops.size false)

theorem freeX_spec {i : Nat} {oi : Oper} {listed : Array Bool} (hi : ops[i]? = some oi) (h : freeX (masks md ops.toList []) ops cls listed i = true) (j : Nat) (oj : Oper)
    (hj : ops[j]? = some oj) (hne : j ≠ i) (hun : listed.getD j true = false) (hno : reachB (masks md ops.toList []) j i = false) : oi.apart ops oj = true ∧ freeC (cls i) (cls j) := by
  unfold freeX at h
  simp only [hi] at h
  have hlt := (Array.getElem?_eq_some_iff.1 hj).1
  have := List.all_eq_true.1 h j (List.mem_range.2 hlt)
  simp only [hj, hun, hno, Bool.or_false, Bool.or_eq_true, beq_iff_eq, hne, false_or, Bool.and_eq_true, Bool.false_eq_true] at this
  exact ⟨this.1, freeB_spec this.2⟩

/-- The walk of the text's order. -/
def wpX (S : Adm) (P : Program) (ops : Array Oper) (cls : Nat → Nat) (Q : Act → World → Prop) : Nat → List Oper → Act → World → (Nat → Prop) → Prop
  | _, [], a, w, _ => Q a w
  | k, o :: l, a, w, U => step S P ops (cls k) o (fun a w U => OkU S U w → wpX S P ops cls Q (k + 1) l a w U) a w U

theorem anyX_lex {Q : Act → World → Prop} (hs : Region.noSelect ops = true) : ∀ (l : List Oper) (k : Nat) (listed : Array Bool) (a : Act) (w : World) (U : Nat → Prop), OkU S U w → Closed md ops listed → (∀ j, l[j]? = ops[k + j]?) →
    lexFromX md (masks md ops.toList []) ops cls l.length k listed = true → wpX S P ops cls Q k l a w U → anyX S P md ops cls Q l.length listed a w U
  | [], _, _, _, _, _, _, _, _, hB, h => ⟨by simpa [lexFromX] using hB, h⟩
  | o :: l, k, listed, a, w, U, hU, hcl, hl, hB, h => by
    have h0 : ops[k]? = some o := by simpa using (hl 0).symm
    simp only [List.length_cons, lexFromX, Bool.and_eq_true] at hB
    obtain ⟨⟨hr, hf⟩, hB'⟩ := hB
    refine anyX_first cls h0 (Region.noSelect_spec hs) l.length listed a w U hU hcl (freeX_spec cls h0 hf) (by simpa using hr) ?_
    exact step_mono (fun v w' U' ⟨hB2, hK⟩ => anyX_lex hs l (k + 1) _ _ _ _ hB2 (hcl.set (by simpa using hr)) (fun j => by have := hl (j + 1); simpa [Nat.add_assoc, Nat.add_comm 1 j] using this) hB' (hK hB2)) (step_bound hU h)

theorem wp_region_X {S : Adm} {id : Nat} {Q : Exit → Act → World → Prop} {a : Act} {w : World} (hm : P.follows .mixedOrders = true) (hB : lexX .any ops cls = true) (hS : S.1 { w with drawn := w.drawn + 1 })
    (h : wpX S P ops cls (fun a' w' => Q .normal a' w') 0 ops.toList a { w with drawn := w.drawn + 1 } (fun _ => False)) : (Code.region id ops true).wp P Q a w := by
  simp only [lexX, Bool.and_eq_true] at hB
  refine wp_region_any hm (wpAny_of_anyX cls (Q := fun a' w' => Q .normal a' w') (fun _ _ h => h) _ _ _ _ (fun _ => False) ⟨fun _ h => h.elim, hS⟩ ?_)
  have := anyX_lex cls (md := .any) hB.1 ops.toList 0 (Array.replicate ops.size false) a _ (fun _ => False) ⟨fun _ h => h.elim, hS⟩ (fun j oj _ hl => by rcases Nat.lt_or_ge j ops.size with h | h <;> simp [h] at hl) (by simp) (by simpa using hB.2) h
  simpa using this

/-! ### Another order than that of the text -/
def lexL (md : Region.Mode) (ms : List Nat) (ops : Array Oper) (cls : Nat → Nat) : List Nat → Array Bool → Bool
  | [], listed => (Region.ready md ops listed).isEmpty
  | k :: l, listed => (Region.ready md ops listed).contains k && freeX ms ops cls listed k && lexL md ms ops cls l (listed.setIfInBounds k true)
def lexP (md : Region.Mode) (ops : Array Oper) (cls : Nat → Nat) (l : List Nat) : Bool := Nat.beq l.length ops.size && (Region.noSelect ops && lexL md (masks md ops.toList []) ops cls l (Array.replicate ops.size false))
/-- The walk of this order. -/
def wpL (S : Adm) (P : Program) (ops : Array Oper) (cls : Nat → Nat) (Q : Act → World → Prop) : List Nat → Act → World → (Nat → Prop) → Prop
  | [], a, w, _ => Q a w
  | k :: l, a, w, U => ∃ o, ops[k]? = some o ∧ step S P ops (cls k) o (fun a w U => OkU S U w → wpL S P ops cls Q l a w U) a w U
theorem anyX_lexL {Q : Act → World → Prop} (hs : Region.noSelect ops = true) : ∀ (l : List Nat) (listed : Array Bool) (a : Act) (w : World) (U : Nat → Prop), OkU S U w → Closed md ops listed →
    lexL md (masks md ops.toList []) ops cls l listed = true → wpL S P ops cls Q l a w U → anyX S P md ops cls Q l.length listed a w U
  | [], _, _, _, _, _, _, hB, h => ⟨by simpa [lexL] using hB, h⟩
  | k :: l, listed, a, w, U, hU, hcl, hB, h => by
    obtain ⟨o, h0, h⟩ := h
    simp only [lexL, Bool.and_eq_true] at hB
    obtain ⟨⟨hr, hf⟩, hB'⟩ := hB
    refine anyX_first cls h0 (Region.noSelect_spec hs) l.length listed a w U hU hcl (freeX_spec cls h0 hf) (by simpa using hr) ?_
    exact step_mono (fun v w' U' ⟨hB2, hK⟩ => anyX_lexL hs l _ _ _ _ hB2 (hcl.set (by simpa using hr)) hB' (hK hB2)) (step_bound hU h)
theorem wp_region_L {S : Adm} {id : Nat} {Q : Exit → Act → World → Prop} {a : Act} {w : World} {l : List Nat} (hm : P.follows .mixedOrders = true) (hB : lexP .any ops cls l = true) (hS : S.1 { w with drawn := w.drawn + 1 })
    (h : wpL S P ops cls (fun a' w' => Q .normal a' w') l a { w with drawn := w.drawn + 1 } (fun _ => False)) : (Code.region id ops true).wp P Q a w := by
  simp only [lexP, Bool.and_eq_true] at hB
  refine wp_region_any hm (wpAny_of_anyX cls (Q := fun a' w' => Q .normal a' w') (fun _ _ h => h) _ _ _ _ (fun _ => False) ⟨fun _ h => h.elim, hS⟩ ?_)
  have := anyX_lexL cls (md := .any) hB.2.1 l (Array.replicate ops.size false) a _ (fun _ => False) ⟨fun _ h => h.elim, hS⟩ (fun j oj _ hl => by rcases Nat.lt_or_ge j ops.size with h | h <;> simp [h] at hl) hB.2.2 h
  rw [Nat.eq_of_beq_eq_true hB.1] at this
  simpa using this
end
end Go.AI

/- The evaluator of a function's code, and that it is sound. -/
namespace Go.AI
noncomputable section
open Go Go.RowKit
set_option linter.unusedVariables false
set_option linter.unusedSimpArgs false

abbrev R := AV × H
/-- What is known of calls: a function, its arguments, the memory: the result and the memory behind it. -/
abbrev Env := FuncId → List AV → H → Option R

def Callable (P : Program) (f : FuncId) : Prop := ∃ fn, P.funcs[f]? = some fn ∧ fn.body.isSome = true ∧ (fn.name == "runtime.NumGoroutine") = false

/-- A call comes to r. -/
structure Tri (P : Program) (f : FuncId) (args : List AV) (h : H) (r : R) : Prop where
  can : Callable P f
  run : ∀ ι w vs, Rel ι h w → VL ι args vs → Calls P f vs.toArray w fun e w' => ∃ v ι', e = .returned v ∧ VR ι' r.1 v ∧ Ext ι h w ι' r.2 w' ∧ Rel ι' r.2 w'

def Sound (P : Program) (Γ : Env) : Prop := ∀ f args h r, Γ f args h = some r → Tri P f args h r

/-! ### One operation -/
/-- An operation that has come to a value goes on. -/
def OpS (P : Program) (o : Oper) (ι : Inj) (h : H) (a : Act) (w : World) (k : AV → H → Option R) (r : R) : Prop :=
  ∀ (next : Act → World → Prop),
    (∀ x v w' ι' h', Ext ι h w ι' h' w' → Rel ι' h' w' → VR ι' x v → k x h' = some r → next (a.put o.dst v) w') → good P o a w next

theorem OpS.of_gives {P : Program} {o : Oper} {ι : Inj} {h : H} {a : Act} {w : World} {k : AV → H → Option R} {r : R} (g : Gives P a.eval o ι h w k r) : OpS P o ι h a w k r := by
  intro next hn
  obtain ⟨x, v, w', ι', y, h', e, hx, hE, hR, hV, hk⟩ := g
  unfold good
  rw [e]
  rcases hx with rfl | ⟨rfl, rfl⟩
  · exact hn y v w' ι' h' hE hR hV hk
  · exact hn y undef w' ι' h' hE hR hV hk

theorem OpS.of_q {P : Program} {o : Oper} {ι : Inj} {h : H} {a : Act} {w : World} {k : AV → H → Option R} {r : R} (hr : Rel ι h w) (g : GivesQ P a.eval o ι h w k r) : OpS P o ι h a w k r := .of_gives (g.gives hr)

def lenK (P : Program) (t : TypeId) : Nat := match P.underlying t with | some .string => 0 | some (.slice _) => 1 | some (.map _ _) => 2 | _ => 9
def avLen (x : AV) : Nat := @AV.rec (fun _ => Nat) (fun _ _ => 8) (fun _ => 8) (fun _ _ => 8) (fun _ _ => 0) (fun _ _ _ _ => 1) (fun l => @Leaf.rec (fun _ => Nat) 8 8 1 2 8 8 8 (fun _ => 2) (fun _ _ _ _ => 1) (fun _ => 8) l) (fun _ _ _ => 8) (fun _ _ _ _ _ => 8) (fun _ _ _ _ => 8) x
def aLenK (kd : Nat) (x : AV) (h : H) (k : AV → H → Option R) : Option R := bc (Nat.beq (avLen x) kd) (aLen x h k) none

theorem lenK_kind {P : Program} {t : TypeId} {x : AV} (h : Nat.beq (avLen x) (lenK P t) = true) : lenKind P t x = true := by
  have h := Nat.eq_of_beq_eq_true h
  unfold lenK at h
  unfold lenKind
  cases hu : P.underlying t with
  | none => rw [hu] at h; cases x using AV.casesE <;> cases h
  | some d => rw [hu] at h; cases d <;> cases x using AV.casesE <;> first | rfl | (cases h; done)

/-- An element's cells and bytes, where append may ask for them. -/
def elemT (P : Program) (c : Call) : Option (Nat × Nat) :=
  match c.argTypes[0]?, c.argTypes[1]? with
  | some t, some t2 => match P.underlying t, P.underlying t2 with
    | some (.slice el), some d2 => match d2 with
      | .int _ => none
      | _ => match P.info? el with
        | some i => match i.zero with
          | some z => bc (Nat.beq z.cells.size i.size) (some (i.size, i.bytes)) none
          | none => none
        | none => none
    | _, _ => none
  | _, _ => none

theorem elemT_spec {P : Program} {c : Call} {es bs : Nat} (e : elemT P c = some (es, bs)) : ElemT P c es bs := by
  unfold elemT at e
  split at e
  case h_2 => cases e
  rename_i t t2 ht ht2
  split at e
  case h_2 => cases e
  rename_i el d2 hu hu2
  split at e
  · cases e
  rename_i hni
  split at e
  case h_2 => cases e
  rename_i i hi
  split at e
  case h_2 => cases e
  rename_i z hz
  cases hb : Nat.beq z.cells.size i.size with
  | false => rw [hb] at e; cases e
  | true =>
    rw [hb, bc_true] at e
    cases e
    exact ⟨⟨t, t2, el, d2, i, z, ht, ht2, hu, hu2, fun kk hk => hni kk hk, hi, hz, rfl, rfl, Nat.eq_of_beq_eq_true hb⟩⟩

def bindR (x : Option R) (k : AV → H → Option R) : Option R := @Option.rec R (fun _ => Option R) none (fun r => k r.1 r.2) x
theorem bindR_some {x : Option R} {k : AV → H → Option R} {r : R} (e : bindR x k = some r) : ∃ r1, x = some r1 ∧ k r1.1 r1.2 = some r := by
  cases x with
  | none => cases e
  | some r1 => exact ⟨r1, rfl, e⟩

/-- A call of a function value. -/
def onFn (f : Fn) (d : Option R) (k : Nat → Option R) : Option R := @Fn.rec (fun _ => Option R) k (fun _ => d) (fun _ _ => d) (fun _ _ _ _ => d) (fun _ => d) f
def dCall (Γ : Env) (f : AV) (args : List AV) (h : H) (k : AV → H → Option R) : Option R :=
  f.onFunc none fun fn a c => onFn fn none fun g => withListA a fun as => withListA c fun cs => bindR (Γ g (appA as (appA args cs)) h) k

/-- A call of a method of what an interface value holds. -/
def dInv (Γ : Env) (T : List (Nat × Nat)) (x : AV) (args : List AV) (h : H) (k : AV → H → Option R) : Option R :=
  x.onIf none none fun t v => pickF t (fun g => bindR (Γ g (.cons v args) h) k) T

/-- A part of a text; of a slice. -/
def aSliceS (x : AV) (lo hi mx : Option AV) (h : H) (k : AV → H → Option R) : Option R := withStr x fun l n => aSliceT l n lo hi mx h k
def aSliceV (es : Nat) (x : AV) (lo hi mx : Option AV) (h : H) (k : AV → H → Option R) : Option R := aSlice es x lo hi mx h k

def dBin (P : Program) (op : BinOp) (t : TypeId) (x y : AV) (h : H) (k : AV → H → Option R) : Option R :=
  match P.underlying t with
  | some (.int _) => match op with
    | .add => aArith iadd x y h k
    | .sub => aArith isub x y h k
    | .mul => aArith imul x y h k
    | .quo => aQuo x y h k
    | .rem => aRem x y h k
    | .and => aBits .and x y h k
    | .or => aBits .or x y h k
    | .xor => aBits .xor x y h k
    | .andNot => aBits .andNot x y h k
    | .shl => aShl x y h k
    | .shr => aShr x y h k
    | .eql => aCmpI ieq x y h k
    | .neq => aCmpI (fun a b => bnot (ieq a b)) x y h k
    | .lss => aCmpI ilt x y h k
    | .leq => aCmpI ile x y h k
    | .gtr => aCmpI (fun a b => ilt b a) x y h k
    | .geq => aCmpI (fun a b => ile b a) x y h k
  | some .string => match op with
    | .add => aSAdd x y h k
    | .eql => aCmpS eqL x y h k
    | .neq => aCmpS (fun a b => bnot (eqL a b)) x y h k
    | .lss => aCmpS ltL x y h k
    | .leq => aCmpS (fun a b => bnot (ltL b a)) x y h k
    | .gtr => aCmpS (fun a b => ltL b a) x y h k
    | .geq => aCmpS (fun a b => bnot (ltL a b)) x y h k
    | _ => none
  | some (.array len el) => (match P.underlying el, (P.info? el).map (·.size) with
    | some (.int _), some 1 => bx (bnot (P.eqGuardType P.depth t)) (match op with
      | .eql => aEqA false len x y h k
      | .neq => aEqA true len x y h k
      | _ => none) none
    | _, _ => none)
  | _ => match op with
    | .eql => aEq false (eqKind P t) x y h k
    | .neq => aEq true (eqKind P t) x y h k
    | _ => none

def dConv (P : Program) (s d : TypeId) (x : AV) (h : H) (k : AV → H → Option R) : Option R :=
  match P.underlying s, P.underlying d with
  | some _, some (.int kn) => aConvI (kc kn) x h k
  | some (.slice el), some .string => (match P.underlying el with | some (.int .u8) => aB2S x h k | _ => none)
  | some _, some .string => aSame x h k
  | _, _ => none

def dOp (P : Program) (Γ : Env) (o : Oper) (st : St) (h : H) (k : AV → H → Option R) : Option R :=
  match o.op with
  | .move x => k (ev st x) h
  | .assign x => k (ev st x) h
  | .pick c x y => aPick (ev st c) (ev st x) (ev st y) h k
  | .alloc t => (match zerosT P t with | some zs => aAlloc zs h k | none => none)
  | .box _ x => aBox (ev st x) h k
  | .build t ps => (match zerosT P t, placesT P t with
    | some zs, some pl => (match pairUp pl (ps.toList.map fun p => (p.1, ev st p.2)) with | some qs => aBuild zs qs h k | none => none)
    | _, _ => none)
  | .buildSlice t n ps => (match P.underlying t with
    | some (.slice el) => (match sizeT P el, zerosT P el with
      | some es, some _ => bx (Nat.ble (n * es) 16777216) (aBuildSlice n es (pairE es (ps.toList.map fun p => (p.1, ev st p.2))) h k) none
      | _, _ => none)
    | _ => none)
  | .load t x => (match isAggT P t with
    | some true => (match sizeT P t with | some n => aLoadN n (ev st x) h k | none => none)
    | some false => aLoad (ev st x) h k
    | none => none)
  | .store t x y => (match sizeT P t, isAggT P t with
    | some n, some true => aStoreN n (ev st x) (ev st y) h k
    | some n, some false => bx (Nat.beq n 1) (aStore (ev st x) (ev st y) h k) none
    | _, _ => none)
  | .nilCheck x => aNilCheck (ev st x) h k
  | .binOp op t x y _ => dBin P op t (ev st x) (ev st y) h k
  | .unOp op _ x => (match op with | .not => aNot (ev st x) h k | .neg => aNeg (ev st x) h k | _ => none)
  | .convert s d x => dConv P s d (ev st x) h k
  | .makeInterface t x => bx (P.concrete t) (aMkIface t (ev st x) h k) none
  | .slice t x lo hi mx => (match P.underlying t with
    | some .string => aSliceS (ev st x) (lo.map (ev st)) (hi.map (ev st)) (mx.map (ev st)) h k
    | some (.slice el) => (match sizeT P el with
      | some es => bx (hi.isSome || mx.isNone) (aSliceV es (ev st x) (lo.map (ev st)) (hi.map (ev st)) (mx.map (ev st)) h k) none
      | none => none)
    | some (.array n el) => (match sizeT P el with
      | some es => bx (hi.isSome || mx.isNone) (aSliceA es n (ev st x) (lo.map (ev st)) (hi.map (ev st)) (mx.map (ev st)) h k) none
      | none => none)
    | _ => none)
  | .fieldAddr t x f => (match fieldOff P t f with | some off => aField off (ev st x) h k | none => none)
  | .indexAddr t x i => (match P.underlying t with
    | some (.slice el) => (match sizeT P el with | some es => aIdxAddr es (ev st x) (ev st i) h k | none => none)
    | some (.array len el) => (match sizeT P el with | some es => aIdxArr es len (ev st x) (ev st i) h k | none => none)
    | _ => none)
  | .index t x i => (match P.underlying t with
    | some .string => aIdxStr (ev st x) (ev st i) h k
    | some (.array len el) => (match isAggT P el, sizeT P el with | some g, some n => aIndexV g n len (ev st x) (ev st i) h k | _, _ => none)
    | _ => none)
  | .extract x i => aExtract (ev st x) i h k
  | .call c => (match c.callee with
    | .value f => dCall Γ (ev st f) (c.args.toList.map (ev st)) h k
    | .invoke x n => dInv Γ (methTbl P n) (ev st x) (c.args.toList.map (ev st)) h k
    | .builtin .len => (match c.args.toList, c.argTypes[0]? with
      | [x], some t => aLenK (lenK P t) (ev st x) h k
      | _, _ => none)
    | .builtin .append => (match c.args.toList, elemT P c with
      | [x, y], some (es, bs) => aAppend es bs (ev st x) (ev st y) h k
      | [x, y], none => (match elemZ P c with | some (es, bs, zs) => aAppZ es bs zs (ev st x) (ev st y) h k | none => none)
      | _, _ => none)
    | .builtin .cap => (match c.args.toList, c.argTypes[0]? with
      | [x], some t => (match P.underlying t with | some (.slice _) => aCap (ev st x) h k | _ => none)
      | _, _ => none)
    | .builtin .max => (match c.args.toList with | [x, y] => aMM true (ev st x) (ev st y) h k | _ => none)
    | .builtin .min => (match c.args.toList with | [x, y] => aMM false (ev st x) (ev st y) h k | _ => none)
    | .builtin .clear => (match c.args.toList, c.argTypes[0]? with
      | [x], some t => (match P.underlying t with
        | some (.map _ _) => aClearM (ev st x) h k
        | some (.slice el) => (match P.info? el with | some i => (match i.zero with | some z => aClearS i.size (z.cells.toList.map ofV) (ev st x) h k | none => none) | none => none)
        | _ => none)
      | _, _ => none)
    | .builtin .copy => (match c.args.toList, c.argTypes[0]? with
      | [x, y], some t => (match P.underlying t with
        | some (.slice el) => (match sizeT P el with | some es => aCopy es (ev st x) (ev st y) h k | none => none)
        | _ => none)
      | _, _ => none)
    | _ => none)
  | .makeSlice t x y => (match P.underlying t with
    | some (.slice el) => (match P.info? el with
      | some i => (match i.zero with
        | some z => bx (Nat.beq z.cells.size i.size) (aMake i.bytes (z.cells.toList.map ofV) (ev st x) (ev st y) h k) none
        | none => none)
      | none => none)
    | _ => none)
  | .makeMap _ y => (match y with | none => aMakeMap h k | some _ => none)
  | .lookup t x y ok => (match P.underlying t with
    | some (.map kt et) => (match P.underlying kt, P.info? et with
      | some D, some i => (match i.zero with | some z => bc (keyD D (ev st y)) (aLookup ok (ofV z) (ev st x) (ev st y) h k) none | none => none)
      | _, _ => none)
    | _ => none)
  | .mapUpdate t x y z => (match P.underlying t with
    | some (.map kt _) => (match P.underlying kt with | some D => bc (keyD D (ev st y)) (aMapSet (ev st x) (ev st y) (ev st z) h k) none | none => none)
    | _ => none)
  | .makeFunc fn first captured => aMakeF fn (first.toList.map (ev st)) (captured.toList.map (ev st)) h k
  | .field t x f => (match fieldT P t f with
    | some (ft, off) => (match isAggT P ft, sizeT P ft with | some g, some n => aFieldV g n off (ev st x) h k | _, _ => none)
    | none => none)
  | .typeAssert x _ t ok => (match P.underlying t, P.info? t with
    | some (.interface want), some j => (match j.zero with | some .nilIface => aAssertI ok (allHas P want) P.types.size (ev st x) h k | _ => none)
    | some D, some i => (match i.zero with | some z => bc (concD D) (aAssertC ok t (ofZ z) (ev st x) h k) none | none => none)
    | _, _ => none)
  | _ => none

theorem array_of_list {β : Type} {a : Array β} {l : List β} (h : a.toList = l) : a = l.toArray := by subst h; simp

theorem dBin_sound {P : Program} {o : Oper} {op : BinOp} {t u : TypeId} {x y : Operand} {a b : AV} {ι : Inj} {h : H} {w : World} {ρ : Operand → Value} {k : AV → H → Option R} {r : R}
    (hr : Rel ι h w) (ho : o.op = .binOp op t x y u) (hx : VR ι a (ρ x)) (hy : VR ι b (ρ y)) (e : dBin P op t a b h k = some r) : GivesQ P ρ o ι h w k r := by
  unfold dBin at e
  split at e
  · split at e
    · exact aArith_gives hr ho hx hy (.inl ⟨rfl, rfl⟩) e
    · exact aArith_gives hr ho hx hy (.inr (.inl ⟨rfl, rfl⟩)) e
    · exact aArith_gives hr ho hx hy (.inr (.inr ⟨rfl, rfl⟩)) e
    · exact aQuo_gives hr ho hx hy e
    · exact aRem_gives hr ho hx hy e
    · exact aBits_gives hr ho hx hy (.inl rfl) e
    · exact aBits_gives hr ho hx hy (.inr (.inl rfl)) e
    · exact aBits_gives hr ho hx hy (.inr (.inr (.inl rfl))) e
    · exact aBits_gives hr ho hx hy (.inr (.inr (.inr rfl))) e
    · exact aShl_gives hr ho hx hy e
    · exact aShr_gives hr ho hx hy e
    · exact aCmpI_gives hr ho hx hy (.inl ⟨rfl, rfl⟩) e
    · exact aCmpI_gives hr ho hx hy (.inr (.inl ⟨rfl, rfl⟩)) e
    · exact aCmpI_gives hr ho hx hy (.inr (.inr (.inl ⟨rfl, rfl⟩))) e
    · exact aCmpI_gives hr ho hx hy (.inr (.inr (.inr (.inl ⟨rfl, rfl⟩)))) e
    · exact aCmpI_gives hr ho hx hy (.inr (.inr (.inr (.inr (.inl ⟨rfl, rfl⟩))))) e
    · exact aCmpI_gives hr ho hx hy (.inr (.inr (.inr (.inr (.inr ⟨rfl, rfl⟩))))) e
  · split at e
    · exact aSAdd_gives hr ho hx hy e
    · exact aCmpS_gives hr ho hx hy (.inl ⟨rfl, rfl⟩) e
    · exact aCmpS_gives hr ho hx hy (.inr (.inl ⟨rfl, rfl⟩)) e
    · exact aCmpS_gives hr ho hx hy (.inr (.inr (.inl ⟨rfl, rfl⟩))) e
    · exact aCmpS_gives hr ho hx hy (.inr (.inr (.inr (.inl ⟨rfl, rfl⟩)))) e
    · exact aCmpS_gives hr ho hx hy (.inr (.inr (.inr (.inr (.inl ⟨rfl, rfl⟩))))) e
    · exact aCmpS_gives hr ho hx hy (.inr (.inr (.inr (.inr (.inr ⟨rfl, rfl⟩))))) e
    · cases e
  · rename_i len el hu
    split at e
    case h_2 => cases e
    rename_i kk hel hsz
    obtain ⟨hg, e⟩ := bif_some e
    rw [bnot_eq, Bool.not_eq_true'] at hg
    split at e
    · exact aEqA_gives ho hu hel hsz hg hx hy (.inl ⟨rfl, rfl⟩) e
    · exact aEqA_gives ho hu hel hsz hg hx hy (.inr ⟨rfl, rfl⟩) e
    · cases e
  · split at e
    · exact aEq_gives hr ho hx hy (.inl ⟨rfl, rfl⟩) e
    · exact aEq_gives hr ho hx hy (.inr ⟨rfl, rfl⟩) e
    · cases e

theorem dBin_pure {C : World → Prop} {P : Program} {o : Oper} {op : BinOp} {t u : TypeId} {x y : Operand} {a b : AV} {ι : Inj} {h : H} {w : World} {ρ : Operand → Value} {k : AV → H → Option R} {r : R}
    (hr : Rel ι h w) (hpu : (∃ kd, P.underlying t = some (.int kd)) ∨ P.underlying t = some .string) (ho : o.op = .binOp op t x y u) (hx : VR ι a (ρ x)) (hy : VR ι b (ρ y)) (e : dBin P op t a b h k = some r) : GivesC C P ρ o ι h k r := by
  unfold dBin at e
  split at e
  · split at e
    · exact aArith_gives hr ho hx hy (.inl ⟨rfl, rfl⟩) e
    · exact aArith_gives hr ho hx hy (.inr (.inl ⟨rfl, rfl⟩)) e
    · exact aArith_gives hr ho hx hy (.inr (.inr ⟨rfl, rfl⟩)) e
    · exact aQuo_gives hr ho hx hy e
    · exact aRem_gives hr ho hx hy e
    · exact aBits_gives hr ho hx hy (.inl rfl) e
    · exact aBits_gives hr ho hx hy (.inr (.inl rfl)) e
    · exact aBits_gives hr ho hx hy (.inr (.inr (.inl rfl))) e
    · exact aBits_gives hr ho hx hy (.inr (.inr (.inr rfl))) e
    · exact aShl_gives hr ho hx hy e
    · exact aShr_gives hr ho hx hy e
    · exact aCmpI_gives hr ho hx hy (.inl ⟨rfl, rfl⟩) e
    · exact aCmpI_gives hr ho hx hy (.inr (.inl ⟨rfl, rfl⟩)) e
    · exact aCmpI_gives hr ho hx hy (.inr (.inr (.inl ⟨rfl, rfl⟩))) e
    · exact aCmpI_gives hr ho hx hy (.inr (.inr (.inr (.inl ⟨rfl, rfl⟩)))) e
    · exact aCmpI_gives hr ho hx hy (.inr (.inr (.inr (.inr (.inl ⟨rfl, rfl⟩))))) e
    · exact aCmpI_gives hr ho hx hy (.inr (.inr (.inr (.inr (.inr ⟨rfl, rfl⟩))))) e
  · split at e
    · exact aSAdd_gives hr ho hx hy e
    · exact aCmpS_gives hr ho hx hy (.inl ⟨rfl, rfl⟩) e
    · exact aCmpS_gives hr ho hx hy (.inr (.inl ⟨rfl, rfl⟩)) e
    · exact aCmpS_gives hr ho hx hy (.inr (.inr (.inl ⟨rfl, rfl⟩))) e
    · exact aCmpS_gives hr ho hx hy (.inr (.inr (.inr (.inl ⟨rfl, rfl⟩)))) e
    · exact aCmpS_gives hr ho hx hy (.inr (.inr (.inr (.inr (.inl ⟨rfl, rfl⟩))))) e
    · exact aCmpS_gives hr ho hx hy (.inr (.inr (.inr (.inr (.inr ⟨rfl, rfl⟩))))) e
    · cases e
  · rename_i len el hu
    split at e
    case h_2 => cases e
    rename_i kk hel hsz
    obtain ⟨hg, e⟩ := bif_some e
    rw [bnot_eq, Bool.not_eq_true'] at hg
    split at e
    · exact aEqA_gives ho hu hel hsz hg hx hy (.inl ⟨rfl, rfl⟩) e
    · exact aEqA_gives ho hu hel hsz hg hx hy (.inr ⟨rfl, rfl⟩) e
    · cases e
  · rename_i h1 h2 h3; rcases hpu with ⟨kd, hu⟩ | hu
    · exact absurd hu (h1 kd)
    · exact absurd hu h2

theorem VL.map_ev {ι : Inj} {ρA : Operand → AV} {ρ : Operand → Value} (hρ : ∀ x, VR ι (ρA x) (ρ x)) : ∀ (l : List Operand), VL ι (l.map ρA) (l.map ρ)
  | [] => .nil
  | x :: l => .cons (hρ x) (VL.map_ev hρ l)

theorem OptR.map {ι : Inj} {ρA : Operand → AV} {ρ : Operand → Value} (hρ : ∀ x, VR ι (ρA x) (ρ x)) (x : Option Operand) : OptR ι ρ (x.map ρA) x := by
  cases x with
  | none => exact .inl ⟨rfl, rfl⟩
  | some y => exact .inr ⟨_, y, rfl, rfl, hρ y⟩

theorem enter_sound {P : Program} {Γ : Env} {o : Oper} {ι : Inj} {h : H} {a : Act} {w : World} {k : AV → H → Option R} {r r1 : R} {g : Nat} {as : List AV} {vs : List Value} (hΓ : Sound P Γ) (hr : Rel ι h w)
    (hg : Γ g as h = some r1) (hargs : VL ι as vs) (hex : (callFunc g vs.toArray).run P w = .ok (.enter g vs.toArray) w → (execOp a.eval o).run P w = .ok (.enter g vs.toArray) w) (e : k r1.1 r1.2 = some r) : OpS P o ι h a w k r := by
  intro next hn
  have T := hΓ _ _ _ _ hg
  obtain ⟨fn, hfn, hbody, hname⟩ := T.can
  have hcall := T.run ι w _ hr hargs
  have hname' : ¬ fn.name = "runtime.NumGoroutine" := by simpa using hname
  have hb' : ¬ fn.body = none := by intro hh; rw [hh] at hbody; cases hbody
  have hcf : (callFunc g vs.toArray).run P w = .ok (.enter g vs.toArray) w := by simp [callFunc, hfn, hname', hb']
  unfold good
  rw [hex hcf]
  refine hcall.mono fun e' w' hpost => ?_
  obtain ⟨v, ι', rfl, hv, hE, hR⟩ := hpost
  exact ⟨v, rfl, hn r1.1 v w' ι' r1.2 hE hR hv e⟩
theorem dInv_sound {P : Program} {Γ : Env} {o : Oper} {c : Call} {f : Operand} {n : String} {ι : Inj} {h : H} {a : Act} {w : World} {ρA : Operand → AV} {k : AV → H → Option R} {r : R} (hΓ : Sound P Γ)
    (hr : Rel ι h w) (ho : o.op = .call c) (hc : c.callee = .invoke f n) (hρ : ∀ x, VR ι (ρA x) (a.eval x)) (e : dInv Γ (methTbl P n) (ρA f) (c.args.toList.map ρA) h k = some r) : OpS P o ι h a w k r := by
  have hfx : ∃ t v, ρA f = .iface t v ∧ pickF t (fun g => bindR (Γ g (.cons v (c.args.toList.map ρA)) h) k) (methTbl P n) = some r := by
    unfold dInv at e
    generalize ρA f = F at e
    cases F using AV.casesE <;> (try (cases e; done))
    exact ⟨_, _, rfl, e⟩
  obtain ⟨t, v, hf, e⟩ := hfx
  obtain ⟨g, hm, e⟩ := pickF_some _ e
  obtain ⟨r1, hg, e⟩ := bindR_some e
  have hm := methTbl_mem hm
  have hfv := hρ f
  rw [hf] at hfv
  obtain ⟨y, ef, hy⟩ := hfv.iface
  refine enter_sound (vs := y :: c.args.toList.map a.eval) hΓ hr hg (.cons hy (VL.map_ev hρ _)) (fun hcf => ?_) e
  have e1 : (y :: c.args.toList.map a.eval).toArray = #[y] ++ Array.map a.eval c.args := by apply Array.ext'; simp
  rw [e1] at hcf ⊢
  have := run_callMethod (name := n) hm hcf
  have e2 : (#[a.eval f] ++ Array.map a.eval c.args).extract 1 (#[a.eval f] ++ Array.map a.eval c.args).size = Array.map a.eval c.args := by apply Array.ext'; simp; exact List.take_of_length_le (by simp)
  have e3 : (#[a.eval f] ++ Array.map a.eval c.args)[0]? = some (.iface t y) := by rw [← ef]; simp [Array.getElem?_append]
  simp only [execOp, ho, resolve, hc, Sem.run_pure, Sem.run_bind, Result.andThen, invoke, e3, e2, this]

theorem dCall_sound {P : Program} {Γ : Env} {o : Oper} {c : Call} {f : Operand} {ι : Inj} {h : H} {a : Act} {w : World} {ρA : Operand → AV} {k : AV → H → Option R} {r : R} (hΓ : Sound P Γ)
    (hr : Rel ι h w) (ho : o.op = .call c) (hc : c.callee = .value f) (hρ : ∀ x, VR ι (ρA x) (a.eval x)) (e : dCall Γ (ρA f) (c.args.toList.map ρA) h k = some r) : OpS P o ι h a w k r := by
  intro next hn
  have hfx : ∃ g x y, ρA f = .func (.func g) x y ∧ (withListA x fun as => withListA y fun cs => bindR (Γ g (appA as (appA (c.args.toList.map ρA) cs)) h) k) = some r := by
    unfold dCall at e
    generalize ρA f = F at e
    cases F using AV.casesE <;> (try (cases e; done))
    rename_i fn x y
    cases fn <;> (try (cases e; done))
    exact ⟨_, _, _, rfl, e⟩
  obtain ⟨g, x, y, hf, e⟩ := hfx
  obtain ⟨as, has, e⟩ := withListA_some e
  obtain ⟨cs, hcs, e⟩ := withListA_some e
  rw [appA_eq, appA_eq, ← List.append_assoc] at e
  obtain ⟨r1, hg, e⟩ := bindR_some e
  have hfv := hρ f
  rw [hf] at hfv
  obtain ⟨fs, cp, ef, hfs, hcp⟩ := hfv.func
  have T := hΓ _ _ _ _ hg
  obtain ⟨fn, hfn, hbody, hname⟩ := T.can
  have hargs : VL ι (as ++ c.args.toList.map ρA ++ cs) (fs.toList ++ c.args.toList.map a.eval ++ cp.toList) :=
    ((toListO_VL has hfs).append (VL.map_ev hρ _)).append (toListO_VL hcs hcp)
  have hcall := T.run ι w _ hr hargs
  have hex : (execOp a.eval o).run P w = .ok (.enter g (fs.toList ++ c.args.toList.map a.eval ++ cp.toList).toArray) w := by
    have hb : fn.body.isNone = false := by cases hq : fn.body <;> simp_all
    have e1 : fs ++ Array.map a.eval c.args ++ cp = (fs.toList ++ c.args.toList.map a.eval ++ cp.toList).toArray := by
      apply Array.ext'; simp
    have hname' : ¬ fn.name = "runtime.NumGoroutine" := by simpa using hname
    have hb' : ¬ fn.body = none := by intro hh; rw [hh] at hbody; cases hbody
    have hcf : ∀ args, (callFunc g args).run P w = .ok (.enter g args) w := fun args => by
      simp [callFunc, hfn, hname', hb']
    rw [← e1]
    simp [execOp, ho, resolve, hc, ef, Deferred.ofValue, invoke, hcf]
  unfold good
  rw [hex]
  refine hcall.mono fun e' w' hpost => ?_
  obtain ⟨v, ι', rfl, hv, hE, hR⟩ := hpost
  exact ⟨v, rfl, hn r1.1 v w' ι' r1.2 hE hR hv e⟩

theorem dOp_sound {P : Program} {Γ : Env} {o : Oper} {ι : Inj} {h : H} {a : Act} {w : World} {N : Nat} {st : St} {k : AV → H → Option R} {r : R} (hΓ : Sound P Γ) (hr : Rel ι h w) (hs : StR ι N st a)
    (e : dOp P Γ o st h k = some r) : OpS P o ι h a w k r := by
  have hρ : ∀ x, VR ι (ev st x) (a.eval x) := hs.ev
  unfold dOp at e
  split at e
  · rename_i x ho; exact .of_q hr (move_gives hr (.inl ho) (hρ x) e)
  · rename_i x ho; exact .of_q hr (move_gives hr (.inr ho) (hρ x) e)
  · rename_i c x y ho; exact .of_q hr (aPick_gives hr ho (hρ c) (hρ x) (hρ y) e)
  · rename_i t ho
    split at e
    · exact .of_gives (aAlloc_gives hr ho ‹_› e)
    · cases e
  · rename_i t x ho; exact .of_gives (aBox_gives hr ho (hρ x) e)
  · rename_i t ps ho
    split at e
    case h_2 => cases e
    split at e
    case h_2 => cases e
    exact .of_gives (aBuild_gives hr ho hρ ‹_› ‹_› ‹_› e)
  · rename_i t n ps ho
    split at e
    case h_2 => cases e
    split at e
    case h_2 => cases e
    obtain ⟨hn, e1⟩ := bif_some e
    exact .of_gives (aBuildSlice_gives hr ho hρ ‹_› ‹_› ‹_› (Nat.le_of_ble_eq_true hn) e1)
  · rename_i t x ho
    split at e
    · split at e
      · exact .of_q hr (aLoadN_gives hr ho ‹_› ‹_› (hρ x) e)
      · cases e
    · exact .of_q hr (aLoad_gives hr ho ‹_› (hρ x) e)
    · cases e
  · rename_i t x y ho
    split at e
    · exact .of_gives (aStoreN_gives hr ho ‹_› (hρ x) (hρ y) e)
    · rename_i n hsz _
      obtain ⟨hn, e1⟩ := bif_some e
      have := Nat.eq_of_beq_eq_true hn
      subst this
      exact .of_gives (aStore_gives hr ho hsz (hρ x) (hρ y) e1)
    · cases e
  · rename_i x ho; exact .of_q hr (aNilCheck_gives hr ho (hρ x) e)
  · rename_i op t x y u ho; exact .of_q hr (dBin_sound hr ho (hρ x) (hρ y) e)
  · rename_i op t x ho
    split at e
    · exact .of_q hr (aNot_gives hr ho (hρ x) e)
    · exact .of_q hr (aNeg_gives hr ho (hρ x) e)
    · cases e
  · rename_i s d x ho
    unfold dConv at e
    split at e
    · exact .of_q hr (aConvI_gives hr ho ‹_› ‹_› (hρ x) e)
    · split at e
      · exact .of_q hr (aB2S_gives hr ho ‹_› ‹_› ‹_› (hρ x) e)
      · cases e
    · exact .of_q hr (aSame_gives hr ho ‹_› ‹_› (hρ x) e)
    · cases e
  · rename_i t x ho
    obtain ⟨hc, e1⟩ := bif_some e
    exact .of_q hr (aMkIface_gives hr ho hc (hρ x) e1)
  · rename_i t x lo hi mx ho
    split at e
    · rename_i hu
      obtain ⟨l, n, hx, e1⟩ := withStr_some e
      have hxv := hρ x
      rw [hx] at hxv
      exact .of_q hr (aSlice_str hr ho hu hxv (OptR.map hρ lo) (OptR.map hρ hi) (OptR.map hρ mx) rfl e1)
    · rename_i el hu
      split at e
      · rename_i es hsz
        obtain ⟨hc, e0⟩ := bif_some e
        exact .of_q hr (aSlice_sl hr ho hu hsz (fun hh => by subst hh; cases mx <;> simp at hc ⊢) (hρ x) (OptR.map hρ lo) (OptR.map hρ hi) (OptR.map hρ mx) e0)
      · cases e
    · rename_i n el hu
      split at e
      · rename_i es hsz
        obtain ⟨hc, e0⟩ := bif_some e
        exact .of_q hr (aSliceA_gives hr ho hu hsz (fun hh => by subst hh; cases mx <;> simp at hc ⊢) (hρ x) (OptR.map hρ lo) (OptR.map hρ hi) (OptR.map hρ mx) e0)
      · cases e
    · cases e
  · rename_i t x f ho
    split at e
    · exact .of_q hr (aField_gives hr ho ‹_› (hρ x) e)
    · cases e
  · rename_i t x i ho
    split at e
    · split at e
      · exact .of_q hr (aIdxAddr_gives hr ho ‹_› ‹_› (hρ x) (hρ i) e)
      · cases e
    · split at e
      · exact .of_q hr (aIdxArr_gives ho ‹_› ‹_› (hρ x) (hρ i) e)
      · cases e
    · cases e
  · rename_i t x i ho
    split at e
    · exact .of_q hr (aIdxStr_gives hr ho ‹_› (hρ x) (hρ i) e)
    · split at e
      · exact .of_q hr (aIndexV_gives ho ‹_› ‹_› ‹_› (hρ x) (hρ i) e)
      · cases e
    · cases e
  · rename_i x i ho; exact .of_q hr (aExtract_gives hr ho (hρ x) e)
  · rename_i c ho
    split at e
    · exact dCall_sound hΓ hr ho ‹_› hρ e
    · exact dInv_sound hΓ hr ho ‹_› hρ e
    · rename_i hc
      split at e
      · rename_i x t ha hat
        obtain ⟨hk, e1⟩ := bif_some e
        exact .of_q hr (aLen_gives hr ho hc (array_of_list ha) hat (lenK_kind hk) (hρ x) e1)
      · cases e
    · rename_i hc
      split at e
      · rename_i x y es bs ha hT
        exact .of_gives (aAppend_gives hr ho hc (array_of_list ha) (elemT_spec hT) (hρ x) (hρ y) e)
      · rename_i x y ha hT
        split at e
        · exact .of_gives (aAppZ_gives hr ho hc (array_of_list ha) (elemZ_spec ‹_›) (hρ x) (hρ y) e)
        · cases e
      · cases e
    · rename_i hc
      split at e
      · rename_i x t ha hat
        split at e
        · exact .of_q hr (aCap_gives ho hc (array_of_list ha) hat ‹_› (hρ x) e)
        · cases e
      · cases e
    · rename_i hc
      split at e
      · rename_i x y ha; exact .of_q hr (aMM_gives (mx := true) ho hc (array_of_list ha) (hρ x) (hρ y) e)
      · cases e
    · rename_i hc
      split at e
      · rename_i x y ha; exact .of_q hr (aMM_gives (mx := false) ho hc (array_of_list ha) (hρ x) (hρ y) e)
      · cases e
    · rename_i hc
      split at e
      · rename_i x t ha hat
        split at e
        · exact .of_gives (aClearM_gives hr ho hc (array_of_list ha) hat ‹_› (hρ x) e)
        · split at e
          case h_2 => cases e
          split at e
          case h_2 => cases e
          exact .of_gives (aClearS_gives hr ho hc (array_of_list ha) hat ‹_› ‹_› ‹_› (hρ x) e)
        · cases e
      · cases e
    · rename_i hc
      split at e
      · rename_i x y t ha hat
        split at e
        · split at e
          · exact .of_gives (aCopy_gives hr ho hc (array_of_list ha) hat ‹_› ‹_› (hρ x) (hρ y) e)
          · cases e
        · cases e
      · cases e
    · cases e
  · rename_i t x y ho
    split at e
    case h_2 => cases e
    split at e
    case h_2 => cases e
    split at e
    case h_2 => cases e
    obtain ⟨hs, e⟩ := bif_some e
    exact .of_gives (aMake_gives hr ho ‹_› ‹_› ‹_› (Nat.eq_of_beq_eq_true hs) (hρ x) (hρ y) e)
  · rename_i t y ho
    split at e
    · exact .of_gives (aMakeMap_gives hr ho e)
    · cases e
  · rename_i t x y ok ho
    split at e
    case h_2 => cases e
    split at e
    case h_2 => cases e
    split at e
    case h_2 => cases e
    obtain ⟨hD, e⟩ := bif_some e
    exact .of_q hr (aLookup_gives hr ho ‹_› ‹_› ‹_› ‹_› hD (hρ x) (hρ y) e)
  · rename_i t x y z ho
    split at e
    case h_2 => cases e
    split at e
    case h_2 => cases e
    obtain ⟨hD, e⟩ := bif_some e
    exact .of_gives (aMapSet_gives hr ho ‹_› ‹_› hD (hρ x) (hρ y) (hρ z) e)
  · rename_i fn first captured ho; exact .of_q hr (aMakeF_gives ho hρ e)
  · rename_i t x f ho
    split at e
    case h_2 => cases e
    split at e
    case h_2 => cases e
    exact .of_q hr (aFieldV_gives ho ‹_› ‹_› ‹_› (hρ x) e)
  · rename_i x xT t ok ho
    split at e
    · split at e
      · exact .of_q hr (aAssertI_gives ho ‹_› ‹_› ‹_› (hρ x) e)
      · cases e
    · split at e
      · obtain ⟨hD, e⟩ := bif_some e
        exact .of_q hr (aAssertC_gives ho ‹_› hD ‹_› ‹_› (hρ x) e)
      · cases e
    · cases e
  · cases e


/-! ### Quiet: a call whose answer holds no memory, and that has written nothing that was there -/
/-- Does a value hold no memory? -/
def AV.plain : AV → Bool := @AV.rec (fun _ => Bool) (fun _ _ => true) (fun _ => true) (fun _ _ => false) (fun _ _ => true) (fun _ _ _ _ => false)
  (fun l => @Leaf.rec (fun _ => Bool) false true true true true true true (fun _ => false) (fun _ _ _ _ => false) (fun _ => false) l) (fun t _ p => @One.rec (fun _ => Bool) p p (fun _ => false) t) (fun _ _ _ _ _ => false) (fun _ _ p q => bc p q false)

/-- What a value without memory is, a chain's as a list. -/
def valsOf : AV → List Value
  | .int k n => [.int (kd k) n]
  | .bool b => [.bool b]
  | .str l _ => [.string ⟨(l.map UInt8.ofNat).toArray⟩]
  | .leaf .nilp => [.pointer none]
  | .leaf .nils => [.slice none 0 0]
  | .leaf .nilm => [.map none]
  | .leaf .nilf => [.nilFunc]
  | .leaf .nili => [.nilIface]
  | .leaf .nil => []
  | .one .agg a => [.agg (valsOf a).toArray]
  | .one .tup a => [.tuple (valsOf a).toArray]
  | .cons a t => valsOf a ++ valsOf t
  | _ => []

theorem bytes_back (s : ByteArray) : (⟨((s.data.toList.map UInt8.toNat).map UInt8.ofNat).toArray⟩ : ByteArray) = s := by
  have : (s.data.toList.map UInt8.toNat).map UInt8.ofNat = s.data.toList := by
    rw [List.map_map]
    conv => rhs; rw [← List.map_id s.data.toList]
    apply List.map_congr_left
    intro x _
    simp
  rw [this]

theorem plain_vals {ι : Inj} : ∀ {a : AV} {l : List Value}, a.plain = true → VX ι a l → l = valsOf a := by
  intro a
  induction a with
  | int k n => intro l _ hv; exact hv
  | bool b => intro l _ hv; exact hv
  | ptr b o => intro l h _; cases h
  | osl b o n es => intro l h _; cases h
  | func f a c => intro l h _; cases h
  | str t n =>
    intro l _ hv
    obtain ⟨s, rfl, ht, _⟩ := hv
    show _ = [Value.string ⟨(t.map UInt8.ofNat).toArray⟩]
    rw [← ht, bytes_back]
  | leaf x =>
    intro l h hv
    cases x <;> first | (cases h; done) | exact hv
  | one t a ih =>
    intro l h hv
    cases t with
    | agg => obtain ⟨cs, rfl, hc⟩ := hv; have := ih h hc; show _ = [Value.agg (valsOf a).toArray]; rw [← this]
    | tup => obtain ⟨cs, rfl, hc⟩ := hv; have := ih h hc; show _ = [Value.tuple (valsOf a).toArray]; rw [← this]
    | iface t => cases h
  | cons a t iha iht =>
    intro l h hv
    obtain ⟨x, xs, rfl, h1, h2⟩ := hv
    have h : bc a.plain t.plain false = true := h
    cases ha : a.plain with
    | false => rw [ha] at h; cases h
    | true =>
      rw [ha, bc_true] at h
      have e1 := iha ha h1
      have e2 := iht h h2
      show _ = valsOf a ++ valsOf t
      rw [← e1, ← e2]; rfl

theorem plain_mono {ι ι' : Inj} : ∀ {a : AV} {l : List Value}, a.plain = true → VX ι a l → VX ι' a l := by
  intro a
  induction a with
  | int k n => intro l _ hv; exact hv
  | bool b => intro l _ hv; exact hv
  | ptr b o => intro l h _; cases h
  | osl b o n es => intro l h _; cases h
  | func f a c => intro l h _; cases h
  | str t n => intro l _ hv; exact hv
  | leaf x => intro l h hv; cases x <;> first | (cases h; done) | exact hv
  | one t a ih =>
    intro l h hv
    cases t with
    | agg => obtain ⟨cs, e, hc⟩ := hv; exact ⟨cs, e, ih h hc⟩
    | tup => obtain ⟨cs, e, hc⟩ := hv; exact ⟨cs, e, ih h hc⟩
    | iface t => cases h
  | cons a t iha iht =>
    intro l h hv
    obtain ⟨x, xs, rfl, h1, h2⟩ := hv
    have h : bc a.plain t.plain false = true := h
    cases ha : a.plain with
    | false => rw [ha] at h; cases h
    | true => rw [ha, bc_true] at h; exact ⟨x, xs, rfl, iha ha h1, iht h h2⟩

/-- The mark is laid here. -/
def H.mark (h : H) : H := ⟨h.n, h.t, h.n⟩
theorem Rel.mark {ι : Inj} {h : H} {w : World} (r : Rel ι h w) : Rel ι h.mark w := ⟨r.fresh, r.lt, r.inj, r.blk, r.pin⟩

/-- A world that has at most more blocks. -/
theorem Rel.grow {ι : Inj} {h : H} {w w' : World} (r : Rel ι h w) (hg : Below w.heap.size w w') : Rel ι h w' where
  fresh := r.fresh
  lt := fun b B o s e => Nat.lt_of_lt_of_le (r.lt b B o s e) hg.size
  inj := r.inj
  blk := fun b hb => by
    obtain ⟨B, o, s, e, hR⟩ := r.blk b hb
    exact ⟨B, o, s, e, by rw [hg.block _ (r.lt _ _ _ _ e)]; exact hR⟩
  pin := fun b r' e' hp => by
    obtain ⟨⟨s', hb⟩, hc⟩ := r.pin b r' e' hp
    exact ⟨⟨s', hb⟩, by rw [cell_of_heap (hg.block _ (r.lt _ _ _ _ hb))]; exact hc⟩

theorem below_up {w w' w'' : World} (h : Below w.heap.size w w') (k : Below w'.heap.size w' w'') : Below w.heap.size w w'' :=
  ⟨k.os.trans h.os, k.tape.trans h.tape, k.output.trans h.output, Nat.le_trans h.size k.size, fun j hj => (k.block j (Nat.lt_of_lt_of_le hj h.size)).trans (h.block j hj)⟩

/-- What a call that wrote nothing old leaves. -/
theorem Ext.quiet {ι ι' : Inj} {h h' : H} {w w' : World} (r : Rel ι h w) (e : Ext ι h.mark w ι' h' w') (hlo : h.n ≤ h'.lo) : Below w.heap.size w w' :=
  ⟨e.os, e.tape, e.output, e.size, fun B hB => by
    by_cases ho : Own ι h B
    · obtain ⟨b, o, s, hb, hown⟩ := ho
      have := r.fresh _ _ hb
      exact e.keepW b B o s (by omega) this hown hb
    · exact e.block B hB ho⟩

def bindF (x : Option R) (h : H) (k : AV → H → Option R) : Option R := onSome x fun r => bc r.1.plain (bc (Nat.ble h.n r.2.lo) (k r.1 h) none) none
theorem bindF_some {x : Option R} {h : H} {k : AV → H → Option R} {r : R} (e : bindF x h k = some r) : ∃ r1, x = some r1 ∧ r1.1.plain = true ∧ h.n ≤ r1.2.lo ∧ k r1.1 h = some r := by
  obtain ⟨r1, h1, e⟩ := onSome_some e
  obtain ⟨h2, e⟩ := bif_some e
  obtain ⟨h3, e⟩ := bif_some e
  exact ⟨r1, h1, h2, Nat.le_of_ble_eq_true h3, e⟩

def dCallF (Γ : Env) (f : AV) (args : List AV) (h : H) (k : AV → H → Option R) : Option R :=
  f.onFunc none fun fn a c => onFn fn none fun g => withListA a fun as => withListA c fun cs => bindF (Γ g (appA as (appA args cs)) h.mark) h k

def dInvF (Γ : Env) (T : List (Nat × Nat)) (x : AV) (args : List AV) (h : H) (k : AV → H → Option R) : Option R :=
  x.onIf none none fun t v => pickF t (fun g => bindF (Γ g (.cons v args) h.mark) h k) T

/-- An operation that leaves memory alone, by its kind. -/
def quietV : Op → Bool
  | .move _ => true | .assign _ => true | .pick .. => true | .load .. => true | .nilCheck _ => true | .binOp .. => true | .unOp .. => true | .convert .. => true | .makeInterface .. => true
  | .makeFunc .. => true | .field .. => true | .typeAssert .. => true | .slice .. => true | .fieldAddr .. => true | .indexAddr .. => true | .index .. => true | .extract .. => true
  | .call c => (match c.callee with | .builtin .len => true | .builtin .max => true | .builtin .min => true | _ => false)
  | _ => false

def dOpQ (P : Program) (Γ : Env) (o : Oper) (st : St) (h : H) (k : AV → H → Option R) : Option R :=
  match o.op with
  | .call c => (match c.callee with
    | .value f => dCallF Γ (ev st f) (c.args.toList.map (ev st)) h k
    | .invoke x n => dInvF Γ (methTbl P n) (ev st x) (c.args.toList.map (ev st)) h k
    | _ => bx (quietV o.op) (dOp P Γ o st h k) none)
  | _ => bx (quietV o.op) (dOp P Γ o st h k) none

/-- Quiet in all worlds that have at most more blocks. -/
def QuietS (P : Program) (o : Oper) (ι : Inj) (h : H) (a : Act) (w : World) (k : AV → H → Option R) (r : R) : Prop :=
  ∃ v x, (∀ w', Below w.heap.size w w' → o.quietAt P a (fun w'' => Below w'.heap.size w' w'') w' v) ∧ VR ι x v ∧ k x h = some r

theorem QuietS.of_q {P : Program} {o : Oper} {ι : Inj} {h : H} {a : Act} {w : World} {k : AV → H → Option R} {r : R} (g : GivesQ P a.eval o ι h w k r) : QuietS P o ι h a w k r := by
  obtain ⟨v, x, e, hv, hk⟩ := g
  refine ⟨v, x, fun w' hw' => ?_, hv, hk⟩
  unfold Oper.quietAt
  rw [e w' hw']
  exact ⟨rfl, rfl⟩
theorem dOp_quiet {P : Program} {Γ : Env} {o : Oper} {ι : Inj} {h : H} {a : Act} {w : World} {N : Nat} {st : St} {k : AV → H → Option R} {r : R} (hr : Rel ι h w) (hs : StR ι N st a)
    (hq : quietV o.op = true) (e : dOp P Γ o st h k = some r) : GivesQ P a.eval o ι h w k r := by
  have hρ : ∀ x, VR ι (ev st x) (a.eval x) := hs.ev
  unfold dOp at e
  split at e
  · rename_i x ho; exact (move_gives hr (.inl ho) (hρ x) e)
  · rename_i x ho; exact (move_gives hr (.inr ho) (hρ x) e)
  · rename_i c x y ho; exact (aPick_gives hr ho (hρ c) (hρ x) (hρ y) e)
  · rename_i t ho
    split at e
    · exact absurd hq (by rw [ho]; exact Bool.false_ne_true)
    · cases e
  · rename_i t x ho; exact absurd hq (by rw [ho]; exact Bool.false_ne_true)
  · rename_i t ps ho
    split at e
    case h_2 => cases e
    split at e
    case h_2 => cases e
    exact absurd hq (by rw [ho]; exact Bool.false_ne_true)
  · rename_i t n ps ho
    split at e
    case h_2 => cases e
    split at e
    case h_2 => cases e
    obtain ⟨hn, e1⟩ := bif_some e
    exact absurd hq (by rw [ho]; exact Bool.false_ne_true)
  · rename_i t x ho
    split at e
    · split at e
      · exact (aLoadN_gives hr ho ‹_› ‹_› (hρ x) e)
      · cases e
    · exact (aLoad_gives hr ho ‹_› (hρ x) e)
    · cases e
  · rename_i t x y ho
    split at e
    · exact absurd hq (by rw [ho]; exact Bool.false_ne_true)
    · rename_i n hsz _
      obtain ⟨hn, e1⟩ := bif_some e
      have := Nat.eq_of_beq_eq_true hn
      subst this
      exact absurd hq (by rw [ho]; exact Bool.false_ne_true)
    · cases e
  · rename_i x ho; exact (aNilCheck_gives hr ho (hρ x) e)
  · rename_i op t x y u ho; exact (dBin_sound hr ho (hρ x) (hρ y) e)
  · rename_i op t x ho
    split at e
    · exact (aNot_gives hr ho (hρ x) e)
    · exact (aNeg_gives hr ho (hρ x) e)
    · cases e
  · rename_i s d x ho
    unfold dConv at e
    split at e
    · exact (aConvI_gives hr ho ‹_› ‹_› (hρ x) e)
    · split at e
      · exact (aB2S_gives hr ho ‹_› ‹_› ‹_› (hρ x) e)
      · cases e
    · exact (aSame_gives hr ho ‹_› ‹_› (hρ x) e)
    · cases e
  · rename_i t x ho
    obtain ⟨hc, e1⟩ := bif_some e
    exact (aMkIface_gives hr ho hc (hρ x) e1)
  · rename_i t x lo hi mx ho
    split at e
    · rename_i hu
      obtain ⟨l, n, hx, e1⟩ := withStr_some e
      have hxv := hρ x
      rw [hx] at hxv
      exact (aSlice_str hr ho hu hxv (OptR.map hρ lo) (OptR.map hρ hi) (OptR.map hρ mx) rfl e1)
    · rename_i el hu
      split at e
      · rename_i es hsz
        obtain ⟨hc, e0⟩ := bif_some e
        exact (aSlice_sl hr ho hu hsz (fun hh => by subst hh; cases mx <;> simp at hc ⊢) (hρ x) (OptR.map hρ lo) (OptR.map hρ hi) (OptR.map hρ mx) e0)
      · cases e
    · rename_i n el hu
      split at e
      · rename_i es hsz
        obtain ⟨hc, e0⟩ := bif_some e
        exact (aSliceA_gives hr ho hu hsz (fun hh => by subst hh; cases mx <;> simp at hc ⊢) (hρ x) (OptR.map hρ lo) (OptR.map hρ hi) (OptR.map hρ mx) e0)
      · cases e
    · cases e
  · rename_i t x f ho
    split at e
    · exact (aField_gives hr ho ‹_› (hρ x) e)
    · cases e
  · rename_i t x i ho
    split at e
    · split at e
      · exact (aIdxAddr_gives hr ho ‹_› ‹_› (hρ x) (hρ i) e)
      · cases e
    · split at e
      · exact (aIdxArr_gives ho ‹_› ‹_› (hρ x) (hρ i) e)
      · cases e
    · cases e
  · rename_i t x i ho
    split at e
    · exact (aIdxStr_gives hr ho ‹_› (hρ x) (hρ i) e)
    · split at e
      · exact (aIndexV_gives ho ‹_› ‹_› ‹_› (hρ x) (hρ i) e)
      · cases e
    · cases e
  · rename_i x i ho; exact (aExtract_gives hr ho (hρ x) e)
  · rename_i c ho
    split at e
    · rename_i hc; exact absurd hq (by rw [ho]; simp [quietV, hc])
    · rename_i hc; exact absurd hq (by rw [ho]; simp [quietV, hc])
    · rename_i hc
      split at e
      · rename_i x t ha hat
        obtain ⟨hk, e1⟩ := bif_some e
        exact (aLen_gives hr ho hc (array_of_list ha) hat (lenK_kind hk) (hρ x) e1)
      · cases e
    · rename_i hc; exact absurd hq (by rw [ho]; simp [quietV, hc])
    · rename_i hc; exact absurd hq (by rw [ho]; simp [quietV, hc])
    · rename_i hc
      split at e
      · rename_i x y ha; exact aMM_gives (mx := true) ho hc (array_of_list ha) (hρ x) (hρ y) e
      · cases e
    · rename_i hc
      split at e
      · rename_i x y ha; exact aMM_gives (mx := false) ho hc (array_of_list ha) (hρ x) (hρ y) e
      · cases e
    · rename_i hc; exact absurd hq (by rw [ho]; simp [quietV, hc])
    · rename_i hc; exact absurd hq (by rw [ho]; simp [quietV, hc])
    · cases e
  · rename_i t x y ho; exact absurd hq (by rw [ho]; exact Bool.false_ne_true)
  · rename_i t y ho; exact absurd hq (by rw [ho]; exact Bool.false_ne_true)
  · rename_i t x y ok ho; exact absurd hq (by rw [ho]; exact Bool.false_ne_true)
  · rename_i t x y z ho; exact absurd hq (by rw [ho]; exact Bool.false_ne_true)
  · rename_i fn first captured ho; exact (aMakeF_gives ho hρ e)
  · rename_i t x f ho
    split at e
    case h_2 => cases e
    split at e
    case h_2 => cases e
    exact (aFieldV_gives ho ‹_› ‹_› ‹_› (hρ x) e)
  · rename_i x xT t ok ho
    split at e
    · split at e
      · exact (aAssertI_gives ho ‹_› ‹_› ‹_› (hρ x) e)
      · cases e
    · split at e
      · obtain ⟨hD, e⟩ := bif_some e
        exact (aAssertC_gives ho ‹_› hD ‹_› ‹_› (hρ x) e)
      · cases e
    · cases e
  · cases e

/-- The classes of operations where orders are drawn: 0: only computes; 1: reads, or a call (m: its class); 3: makes a row; 2: all others. -/
def clsOf (P : Program) (m : Nat) (o : Oper) : Nat :=
  match o.op with
  | .move _ => 0 | .assign _ => 0 | .makeFunc .. => 0 | .field .. => 0 | .typeAssert .. => 0 | .pick .. => 0 | .nilCheck _ => 0 | .fieldAddr .. => 0 | .indexAddr .. => 0 | .index .. => 0 | .extract .. => 0 | .slice .. => 0 | .unOp .. => 0 | .makeInterface .. => 0
  | .binOp _ t _ _ _ => (match P.underlying t with | some (.int _) => 0 | some .string => 0 | _ => 1)
  | .convert _ d _ => (match P.underlying d with | some (.int _) => 0 | _ => 1)
  | .load .. => 1
  | .buildSlice .. => 3
  | .call c => (match c.callee with | .builtin .len => 1 | .builtin .max => 0 | .builtin .min => 0 | .value _ => m | .invoke .. => m | _ => 2)
  | _ => 2

theorem dOp_pure {P : Program} {Γ : Env} {o : Oper} {ι : Inj} {h : H} {a : Act} {w : World} {N : Nat} {st : St} {k : AV → H → Option R} {r : R} (hr : Rel ι h w) (hs : StR ι N st a)
    (hq : clsOf P 1 o = 0) (e : dOp P Γ o st h k = some r) : GivesC (fun _ => True) P a.eval o ι h k r := by
  have hρ : ∀ x, VR ι (ev st x) (a.eval x) := hs.ev
  unfold dOp at e
  split at e
  · rename_i x ho; exact (move_gives hr (.inl ho) (hρ x) e)
  · rename_i x ho; exact (move_gives hr (.inr ho) (hρ x) e)
  · rename_i c x y ho; exact (aPick_gives hr ho (hρ c) (hρ x) (hρ y) e)
  · rename_i t ho
    split at e
    · exact absurd hq (by simp [clsOf, ho])
    · cases e
  · rename_i t x ho; exact absurd hq (by simp [clsOf, ho])
  · rename_i t ps ho
    split at e
    case h_2 => cases e
    split at e
    case h_2 => cases e
    exact absurd hq (by simp [clsOf, ho])
  · rename_i t n ps ho
    split at e
    case h_2 => cases e
    split at e
    case h_2 => cases e
    obtain ⟨hn, e1⟩ := bif_some e
    exact absurd hq (by simp [clsOf, ho])
  · rename_i t x ho
    split at e
    · split at e
      · exact absurd hq (by simp [clsOf, ho])
      · cases e
    · exact absurd hq (by simp [clsOf, ho])
    · cases e
  · rename_i t x y ho
    split at e
    · exact absurd hq (by simp [clsOf, ho])
    · rename_i n hsz _
      obtain ⟨hn, e1⟩ := bif_some e
      have := Nat.eq_of_beq_eq_true hn
      subst this
      exact absurd hq (by simp [clsOf, ho])
    · cases e
  · rename_i x ho; exact (aNilCheck_gives hr ho (hρ x) e)
  · rename_i op t x y u ho; exact (dBin_pure hr (by
      cases hu : P.underlying t with
      | none => simp [clsOf, ho, hu] at hq
      | some d => cases d <;> first | exact .inl ⟨_, rfl⟩ | exact .inr rfl | (simp [clsOf, ho, hu] at hq)) ho (hρ x) (hρ y) e)
  · rename_i op t x ho
    split at e
    · exact (aNot_gives hr ho (hρ x) e)
    · exact (aNeg_gives hr ho (hρ x) e)
    · cases e
  · rename_i s d x ho
    unfold dConv at e
    split at e
    · exact (aConvI_gives hr ho ‹_› ‹_› (hρ x) e)
    · rename_i hd; exact absurd hq (by simp [clsOf, ho, hd])
    · exact (aSame_gives hr ho ‹_› ‹_› (hρ x) e)
    · cases e
  · rename_i t x ho
    obtain ⟨hc, e1⟩ := bif_some e
    exact (aMkIface_gives hr ho hc (hρ x) e1)
  · rename_i t x lo hi mx ho
    split at e
    · rename_i hu
      obtain ⟨l, n, hx, e1⟩ := withStr_some e
      have hxv := hρ x
      rw [hx] at hxv
      exact (aSlice_str hr ho hu hxv (OptR.map hρ lo) (OptR.map hρ hi) (OptR.map hρ mx) rfl e1)
    · rename_i el hu
      split at e
      · rename_i es hsz
        obtain ⟨hc, e0⟩ := bif_some e
        exact (aSlice_sl hr ho hu hsz (fun hh => by subst hh; cases mx <;> simp at hc ⊢) (hρ x) (OptR.map hρ lo) (OptR.map hρ hi) (OptR.map hρ mx) e0)
      · cases e
    · rename_i n el hu
      split at e
      · rename_i es hsz
        obtain ⟨hc, e0⟩ := bif_some e
        exact (aSliceA_gives hr ho hu hsz (fun hh => by subst hh; cases mx <;> simp at hc ⊢) (hρ x) (OptR.map hρ lo) (OptR.map hρ hi) (OptR.map hρ mx) e0)
      · cases e
    · cases e
  · rename_i t x f ho
    split at e
    · exact (aField_gives hr ho ‹_› (hρ x) e)
    · cases e
  · rename_i t x i ho
    split at e
    · split at e
      · exact (aIdxAddr_gives hr ho ‹_› ‹_› (hρ x) (hρ i) e)
      · cases e
    · split at e
      · exact (aIdxArr_gives ho ‹_› ‹_› (hρ x) (hρ i) e)
      · cases e
    · cases e
  · rename_i t x i ho
    split at e
    · exact (aIdxStr_gives hr ho ‹_› (hρ x) (hρ i) e)
    · split at e
      · exact (aIndexV_gives ho ‹_› ‹_› ‹_› (hρ x) (hρ i) e)
      · cases e
    · cases e
  · rename_i x i ho; exact (aExtract_gives hr ho (hρ x) e)
  · rename_i c ho
    split at e
    · rename_i hc; exact absurd hq (by simp [clsOf, ho, hc])
    · rename_i hc; exact absurd hq (by simp [clsOf, ho, hc])
    · rename_i hc
      split at e
      · rename_i x t ha hat
        obtain ⟨hk, e1⟩ := bif_some e
        exact absurd hq (by simp [clsOf, ho, hc])
      · cases e
    · rename_i hc; exact absurd hq (by simp [clsOf, ho, hc])
    · rename_i hc; exact absurd hq (by simp [clsOf, ho, hc])
    · rename_i hc
      split at e
      · rename_i x y ha; exact aMM_gives (mx := true) ho hc (array_of_list ha) (hρ x) (hρ y) e
      · cases e
    · rename_i hc
      split at e
      · rename_i x y ha; exact aMM_gives (mx := false) ho hc (array_of_list ha) (hρ x) (hρ y) e
      · cases e
    · rename_i hc; exact absurd hq (by simp [clsOf, ho, hc])
    · rename_i hc; exact absurd hq (by simp [clsOf, ho, hc])
    · cases e
  · rename_i t x y ho; exact absurd hq (by simp [clsOf, ho])
  · rename_i t y ho; exact absurd hq (by simp [clsOf, ho])
  · rename_i t x y ok ho; exact absurd hq (by simp [clsOf, ho])
  · rename_i t x y z ho; exact absurd hq (by simp [clsOf, ho])
  · rename_i fn first captured ho; exact (aMakeF_gives ho hρ e)
  · rename_i t x f ho
    split at e
    case h_2 => cases e
    split at e
    case h_2 => cases e
    exact (aFieldV_gives ho ‹_› ‹_› ‹_› (hρ x) e)
  · rename_i x xT t ok ho
    split at e
    · split at e
      · exact (aAssertI_gives ho ‹_› ‹_› ‹_› (hρ x) e)
      · cases e
    · split at e
      · obtain ⟨hD, e⟩ := bif_some e
        exact (aAssertC_gives ho ‹_› hD ‹_› ‹_› (hρ x) e)
      · cases e
    · cases e
  · cases e

theorem calls_some {P : Program} {f : FuncId} {args : Array Value} {w : World} {Q : Ending → World → Prop} (h : Calls P f args w Q) : ∃ e w', Q e w' :=
  let ⟨e, w', _, hq, _⟩ := h []; ⟨e, w', hq⟩

theorem dCallF_sound {P : Program} {Γ : Env} {o : Oper} {c : Call} {f : Operand} {ι : Inj} {h : H} {a : Act} {w : World} {ρA : Operand → AV} {k : AV → H → Option R} {r : R} (hΓ : Sound P Γ)
    (hr : Rel ι h w) (ho : o.op = .call c) (hc : c.callee = .value f) (hρ : ∀ x, VR ι (ρA x) (a.eval x)) (e : dCallF Γ (ρA f) (c.args.toList.map ρA) h k = some r) : QuietS P o ι h a w k r := by
  have hfx : ∃ g x y, ρA f = .func (.func g) x y ∧ (withListA x fun as => withListA y fun cs => bindF (Γ g (appA as (appA (c.args.toList.map ρA) cs)) h.mark) h k) = some r := by
    unfold dCallF at e
    generalize ρA f = F at e
    cases F using AV.casesE <;> (try (cases e; done))
    rename_i fn x y
    cases fn <;> (try (cases e; done))
    exact ⟨_, _, _, rfl, e⟩
  obtain ⟨g, x, y, hf, e⟩ := hfx
  obtain ⟨as, has, e⟩ := withListA_some e
  obtain ⟨cs, hcs, e⟩ := withListA_some e
  rw [appA_eq, appA_eq, ← List.append_assoc] at e
  obtain ⟨r1, hg, hpl, hlo, e⟩ := bindF_some e
  have hfv := hρ f
  rw [hf] at hfv
  obtain ⟨fs, cp, ef, hfs, hcp⟩ := hfv.func
  have T := hΓ _ _ _ _ hg
  obtain ⟨fn, hfn, hbody, hname⟩ := T.can
  have hargs : VL ι (as ++ c.args.toList.map ρA ++ cs) (fs.toList ++ c.args.toList.map a.eval ++ cp.toList) :=
    ((toListO_VL has hfs).append (VL.map_ev hρ _)).append (toListO_VL hcs hcp)
  have hname' : ¬ fn.name = "runtime.NumGoroutine" := by simpa using hname
  have hb' : ¬ fn.body = none := by intro hh; rw [hh] at hbody; cases hbody
  have hex : ∀ w' : World, (execOp a.eval o).run P w' = .ok (.enter g (fs.toList ++ c.args.toList.map a.eval ++ cp.toList).toArray) w' := fun w' => by
    have e1 : fs ++ Array.map a.eval c.args ++ cp = (fs.toList ++ c.args.toList.map a.eval ++ cp.toList).toArray := by
      apply Array.ext'; simp
    have hcf : ∀ args, (callFunc g args).run P w' = .ok (.enter g args) w' := fun args => by
      simp [callFunc, hfn, hname', hb']
    rw [← e1]
    simp [execOp, ho, resolve, hc, ef, Deferred.ofValue, invoke, hcf]
  -- a value of the answer that every world's is
  obtain ⟨v0, hv0⟩ : ∃ v0 : Value, ∀ (ι' : Inj) v, VR ι' r1.1 v → v = v0 := by
    cases hvs : valsOf r1.1 with
    | nil => exact ⟨undef, fun ι' v hv => by have := plain_vals hpl hv; rw [hvs] at this; cases this⟩
    | cons z t => exact ⟨z, fun ι' v hv => by have := plain_vals hpl hv; rw [hvs] at this; cases this; rfl⟩
  have hcall : ∀ w', Below w.heap.size w w' → Calls P g (fs.toList ++ c.args.toList.map a.eval ++ cp.toList).toArray w' fun e w'' => e = .returned v0 ∧ Below w'.heap.size w' w'' := fun w' hw' =>
    (T.run ι w' _ (hr.grow hw').mark hargs).mono fun e' w'' ⟨v, ι', he, hv, hE, hR⟩ => ⟨by rw [he, hv0 _ _ hv], Ext.quiet (hr.grow hw') hE hlo⟩
  by_cases hex0 : ∃ (ι' : Inj) (v : Value), VR ι' r1.1 v
  · obtain ⟨ι', v, hv⟩ := hex0
    have := hv0 _ _ hv
    subst this
    refine ⟨v, r1.1, fun w' hw' => ?_, plain_mono hpl hv, e⟩
    unfold Oper.quietAt
    rw [hex w']
    exact ⟨rfl, hcall w' hw'⟩
  · -- no answer at all: the call's run shows one
    obtain ⟨e', w'', v, ι', _, hv, _⟩ := calls_some (T.run ι w _ hr.mark hargs)
    exact absurd ⟨ι', v, hv⟩ hex0

theorem enterF_sound {P : Program} {Γ : Env} {o : Oper} {ι : Inj} {h : H} {a : Act} {w : World} {k : AV → H → Option R} {r r1 : R} {g : Nat} {as : List AV} {vs : List Value} (hΓ : Sound P Γ) (hr : Rel ι h w)
    (hg : Γ g as h.mark = some r1) (hpl : r1.1.plain = true) (hlo : h.n ≤ r1.2.lo) (hargs : VL ι as vs) (hex : ∀ w' : World, (callFunc g vs.toArray).run P w' = .ok (.enter g vs.toArray) w' → (execOp a.eval o).run P w' = .ok (.enter g vs.toArray) w')
    (e : k r1.1 h = some r) : QuietS P o ι h a w k r := by
  have T := hΓ _ _ _ _ hg
  obtain ⟨fn, hfn, hbody, hname⟩ := T.can
  have hname' : ¬ fn.name = "runtime.NumGoroutine" := by simpa using hname
  have hb' : ¬ fn.body = none := by intro hh; rw [hh] at hbody; cases hbody
  have hex : ∀ w' : World, (execOp a.eval o).run P w' = .ok (.enter g vs.toArray) w' := fun w' => hex w' (by simp [callFunc, hfn, hname', hb'])
  obtain ⟨v0, hv0⟩ : ∃ v0 : Value, ∀ (ι' : Inj) v, VR ι' r1.1 v → v = v0 := by
    cases hvs : valsOf r1.1 with
    | nil => exact ⟨undef, fun ι' v hv => by have := plain_vals hpl hv; rw [hvs] at this; cases this⟩
    | cons z t => exact ⟨z, fun ι' v hv => by have := plain_vals hpl hv; rw [hvs] at this; cases this; rfl⟩
  have hcall : ∀ w', Below w.heap.size w w' → Calls P g vs.toArray w' fun e w'' => e = .returned v0 ∧ Below w'.heap.size w' w'' := fun w' hw' =>
    (T.run ι w' _ (hr.grow hw').mark hargs).mono fun e' w'' ⟨v, ι', he, hv, hE, hR⟩ => ⟨by rw [he, hv0 _ _ hv], Ext.quiet (hr.grow hw') hE hlo⟩
  by_cases hex0 : ∃ (ι' : Inj) (v : Value), VR ι' r1.1 v
  · obtain ⟨ι', v, hv⟩ := hex0
    have := hv0 _ _ hv
    subst this
    refine ⟨v, r1.1, fun w' hw' => ?_, plain_mono hpl hv, e⟩
    unfold Oper.quietAt
    rw [hex w']
    exact ⟨rfl, hcall w' hw'⟩
  · obtain ⟨e', w'', v, ι', _, hv, _⟩ := calls_some (T.run ι w _ hr.mark hargs)
    exact absurd ⟨ι', v, hv⟩ hex0
theorem dInvF_sound {P : Program} {Γ : Env} {o : Oper} {c : Call} {f : Operand} {n : String} {ι : Inj} {h : H} {a : Act} {w : World} {ρA : Operand → AV} {k : AV → H → Option R} {r : R} (hΓ : Sound P Γ)
    (hr : Rel ι h w) (ho : o.op = .call c) (hc : c.callee = .invoke f n) (hρ : ∀ x, VR ι (ρA x) (a.eval x)) (e : dInvF Γ (methTbl P n) (ρA f) (c.args.toList.map ρA) h k = some r) : QuietS P o ι h a w k r := by
  have hfx : ∃ t v, ρA f = .iface t v ∧ pickF t (fun g => bindF (Γ g (.cons v (c.args.toList.map ρA)) h.mark) h k) (methTbl P n) = some r := by
    unfold dInvF at e
    generalize ρA f = F at e
    cases F using AV.casesE <;> (try (cases e; done))
    exact ⟨_, _, rfl, e⟩
  obtain ⟨t, v, hf, e⟩ := hfx
  obtain ⟨g, hm, e⟩ := pickF_some _ e
  obtain ⟨r1, hg, hpl, hlo, e⟩ := bindF_some e
  have hm := methTbl_mem hm
  have hfv := hρ f
  rw [hf] at hfv
  obtain ⟨y, ef, hy⟩ := hfv.iface
  refine enterF_sound (vs := y :: c.args.toList.map a.eval) hΓ hr hg hpl hlo (.cons hy (VL.map_ev hρ _)) (fun w' hcf => ?_) e
  have e1 : (y :: c.args.toList.map a.eval).toArray = #[y] ++ Array.map a.eval c.args := by apply Array.ext'; simp
  rw [e1] at hcf ⊢
  have := run_callMethod (name := n) hm hcf
  have e2 : (#[a.eval f] ++ Array.map a.eval c.args).extract 1 (#[a.eval f] ++ Array.map a.eval c.args).size = Array.map a.eval c.args := by apply Array.ext'; simp; exact List.take_of_length_le (by simp)
  have e3 : (#[a.eval f] ++ Array.map a.eval c.args)[0]? = some (.iface t y) := by rw [← ef]; simp [Array.getElem?_append]
  simp only [execOp, ho, resolve, hc, Sem.run_pure, Sem.run_bind, Result.andThen, invoke, e3, e2, this]

theorem dOpQ_sound {P : Program} {Γ : Env} {o : Oper} {ι : Inj} {h : H} {a : Act} {w : World} {N : Nat} {st : St} {k : AV → H → Option R} {r : R} (hΓ : Sound P Γ) (hr : Rel ι h w) (hs : StR ι N st a)
    (e : dOpQ P Γ o st h k = some r) : QuietS P o ι h a w k r := by
  unfold dOpQ at e
  split at e
  · rename_i c ho
    split at e
    · exact dCallF_sound hΓ hr ho ‹_› hs.ev e
    · exact dInvF_sound hΓ hr ho ‹_› hs.ev e
    · obtain ⟨h1, h2⟩ := bif_some e; exact .of_q (dOp_quiet hr hs h1 h2)
  · obtain ⟨h1, h2⟩ := bif_some e; exact .of_q (dOp_quiet hr hs h1 h2)
end
end Go.AI

/- The evaluator of code: statements, loops, a function's body. -/
namespace Go.AI
noncomputable section
open Go Go.RowKit
set_option linter.unusedVariables false
set_option linter.unusedSimpArgs false
variable {P : Program}

/-- What is written beside a code: which slots are carried over a seam, and round a loop. -/
inductive An where
  | o
  | at_ (ks : List Nat) (a b : An)
  | two (a b : An)
  | cut (ks : List Nat) (a : An)
  | skip (a : An)

def An.l : An → An
  | .o => .o
  | .at_ _ a _ => a
  | .two a _ => a
  | .cut _ a => a
  | .skip a => a
def An.r : An → An
  | .o => .o
  | .at_ _ _ b => b
  | .two _ b => b
  | .cut _ a => a
  | .skip a => a
def An.ks : An → Option (List Nat)
  | .at_ ks _ _ => some ks
  | _ => none

/-- A seam ahead of an operation; what is written beside the next one. -/
def An.cutK : An → Option (List Nat)
  | .cut ks _ => some ks
  | _ => none
def An.next : An → An
  | .cut _ a => a
  | .skip a => a
  | a => a

def hd (l : List AV) : AV := @List.rec AV (fun _ => AV) (.leaf .undef) (fun a _ _ => a) l
def tl (l : List AV) : List AV := @List.rec AV (fun _ => List AV) [] (fun _ t _ => t) l
def mkSt : List Nat → List AV → St
  | [], _ => []
  | k :: ks, vs => (k, hd vs) :: mkSt ks (tl vs)

abbrev K := St → H → Option R

def putO (N : Nat) (d : Option Nat) (a : AV) (st : St) (f : St → Option R) : Option R :=
  match d with
  | none => f st
  | some d => bc (Nat.ble (d + 1) N) (f ((d, a) :: st)) none

/-- A test of a guard. -/
def guardB (want : Bool) (x : AV) (yes no : Option R) : Option R :=
  x.onBool (x.onTup none fun l => l.onLeaf none fun m => @Leaf.rec (fun _ => Option R) none none none none none none no (fun _ => none) (fun _ _ _ _ => none) (fun _ => none) m) fun b => bc (bc b want (bnot want)) yes no

def sameG (j : Nat) (want : Bool) (o : Oper) : Bool := match o.guard with | some (i, v) => Nat.beq i j && (bif v then want else !want) | none => false

def runAll (P : Program) (Γ : Env) (N : Nat) : List Oper → St → H → K → Option R
  | [], st, h, kn => kn st h
  | o :: rest, st, h, kn => dOp P Γ o st h fun a h' => putO N o.dst a st fun st' => runAll P Γ N rest st' h' kn

def skipAll (N : Nat) : List Oper → St → (St → Option R) → Option R
  | [], st, f => f st
  | o :: rest, st, f => putO N o.dst (.tup .nil) st fun st' => skipAll N rest st' f

/-- The operations, those behind one guard together. -/
def dOps (P : Program) (Γ : Env) (N : Nat) (all : List Oper) : Nat → An → List Oper → St → H → K → Option R
  | _, _, [], st, h, kn => kn st h
  | 0, _, _ :: _, _, _, _ => none
  | n + 1, an, o :: rest, st, h, kn => match o.guard with
    | none => (match an.cutK with
      | none => dOp P Γ o st h fun a h' => putO N o.dst a st fun st' => dOps P Γ N all n an.next rest st' h' kn
      | some ks => (fun J : List AV → H → Option R => J (ks.map (get st)) h) (fun vs h => dOp P Γ o (mkSt ks vs) h fun a h' => putO N o.dst a (mkSt ks vs) fun st' => dOps P Γ N all n an.next rest st' h' kn))
    | some (j, want) => match (all[j]?).bind (·.dst) with
      | none => none
      | some d => bc (((o :: rest).takeWhile (sameG j want)).all (fun o => match o.dst with | some e => !Nat.beq e d | none => true))
        (match an.ks with
        | none => guardB want (get st d) (runAll P Γ N ((o :: rest).takeWhile (sameG j want)) st h fun st h => dOps P Γ N all n an.r ((o :: rest).dropWhile (sameG j want)) st h kn)
            (skipAll N ((o :: rest).takeWhile (sameG j want)) st fun st => dOps P Γ N all n an.r ((o :: rest).dropWhile (sameG j want)) st h kn)
        | some ks => (fun J : List AV → H → Option R => guardB want (get st d) (runAll P Γ N ((o :: rest).takeWhile (sameG j want)) st h fun st h => J (ks.map (get st)) h)
            (skipAll N ((o :: rest).takeWhile (sameG j want)) st fun st => J (ks.map (get st)) h))
            (fun vs h => dOps P Γ N all n an.r ((o :: rest).dropWhile (sameG j want)) (mkSt ks vs) h kn))
        none

/-- An operation of a region that draws its order. -/
def dOpX (P : Program) (Γ : Env) (m : Nat) (o : Oper) (st : St) (h : H) (k : AV → H → Option R) : Option R :=
  bc (Nat.ble 2 (clsOf P m o)) (dOp P Γ o st h k) (dOpQ P Γ o st h fun a _ => k a h)
def clsAt (P : Program) (m : Nat) (ops : Array Oper) (k : Nat) : Nat := match ops[k]? with | some o => clsOf P m o | none => 2
/-! ### Cells that are watched: numbers and truths that no operation of a region changes -/
def isNilp (l : Leaf) : Bool := @Leaf.rec (fun _ => Bool) false true false false false false false (fun _ => false) (fun _ _ _ _ => false) (fun _ => false) l
def wat (a : AV) : Bool := @AV.rec (fun _ => Bool) (fun _ _ => true) (fun _ => true) (fun _ _ => true) (fun _ _ => false) (fun _ _ _ _ => false) (fun l => isNilp l) (fun _ _ _ => false) (fun _ _ _ _ _ => false) (fun _ _ _ _ => false) a
def eqW1 (a b : AV) : Bool := @AV.rec (fun _ => Bool) (fun k n => b.onInt false fun k' n' => bc (Nat.beq k k') (ieq n n') false) (fun x => b.onBool false fun y => bc x y (bnot y)) (fun c q => b.onPtr false fun c' q' => bc (Nat.beq c c') (Nat.beq q q') false) (fun _ _ => true) (fun _ _ _ _ => true) (fun l => bc (isNilp l) (b.onLeaf false isNilp) true) (fun _ _ _ => true) (fun _ _ _ _ _ => true) (fun _ _ _ _ => true) a
def eqW : List AV → List AV → Bool := @List.rec AV (fun _ => List AV → Bool) (fun _ => true) (fun a _ f l => @List.rec AV (fun _ => Bool) false (fun b t _ => bc (eqW1 a b) (f t) false) l)
def watch1 (h : H) (b : Nat) (q : List (Nat × List AV)) : List (Nat × List AV) := @Blk.rec (fun _ => List (Nat × List AV)) q (fun _ l => (b, l) :: q) (fun _ _ => q) (h.get b)
def watch (h : H) (xs : List AV) : List (Nat × List AV) := @List.rec AV (fun _ => List (Nat × List AV)) [] (fun x _ r => x.onSl (x.onPtr r fun b _ => watch1 h b r) (fun _ => r) (fun b _ _ _ => watch1 h b r) (fun b _ _ _ => watch1 h b r)) xs
def okW (Ws : List (Nat × List AV)) (h : H) : Bool := @List.rec (Nat × List AV) (fun _ => Bool) true (fun p _ f => bc (@Blk.rec (fun _ => Bool) false (fun _ l => eqW p.2 l) (fun _ _ => false) (h.get p.1)) f false) Ws
def findW {α : Type} (Ws : List (Nat × List AV)) (b : Nat) (g : List AV → Option α) : Option α := @List.rec (Nat × List AV) (fun _ => Option α) none (fun p _ f => bc (Nat.beq p.1 b) (g p.2) f) Ws
def aLoadW {α : Type} (Ws : List (Nat × List AV)) (x : AV) (h : H) (k : AV → H → Option α) : Option α := x.onPtr none fun b q => findW Ws b fun l => onSome (nthO l q) fun a => bc (wat a) (k a h) none
def srcOf (ops : List Oper) (x : Operand) : Operand := match x with
  | .tmp t => (match ops.find? (fun o => match o.dst with | some d => Nat.beq d t | none => false) with
    | some o => (match o.op with | .move y => y | .assign y => y | _ => x)
    | none => x)
  | _ => x
/-- What pointers among these lead to, and so on. -/
def watchP (h : H) (xs : List AV) : List (Nat × List AV) := @List.rec AV (fun _ => List (Nat × List AV)) [] (fun x _ r => x.onPtr r fun b _ => watch1 h b r) xs
def appW (a b : List (Nat × List AV)) : List (Nat × List AV) := @List.rec (Nat × List AV) (fun _ => List (Nat × List AV)) b (fun p _ r => p :: r) a
def watchN (h : H) (n : Nat) : List AV → List (Nat × List AV) := @Nat.rec (fun _ => List AV → List (Nat × List AV)) (fun xs => watchP h xs) (fun _ f xs => @List.rec (Nat × List AV) (fun _ => List (Nat × List AV)) [] (fun p _ r => p :: appW (f p.2) r) (watchP h xs)) n
def watOpsL (ops : List Oper) : List Operand := ops.filterMap fun o => match o.op with | .load _ x => some (srcOf ops x) | .fieldAddr _ x _ => some (srcOf ops x) | _ => none
def watOps (ops : List Oper) : List Operand := ops.filterMap fun o => match o.op with | .indexAddr _ x _ => some (srcOf ops x) | .fieldAddr _ x _ => some (srcOf ops x) | _ => none
def isLoad (o : Oper) : Bool := match o.op with | .load .. => true | _ => false
def intLoads (P : Program) (ops : List Oper) : Bool := ops.any isLoad && ops.all fun o => match o.op with
  | .load t _ => (match isAggT P t, P.underlying t with | some false, some (.int _) => true | some false, some .bool => true | _, _ => false)
  | _ => true
/-- The types of what is watched. -/
def watT (P : Program) (t : TypeId) : Bool := match isAggT P t, P.underlying t with | some false, some (.int _) => true | some false, some .bool => true | some false, some (.pointer _) => true | _, _ => false
theorem watT_agg {P : Program} {t : TypeId} (h : watT P t = true) : isAggT P t = some false := by
  unfold watT at h; split at h <;> first | assumption | cases h
/-- A call whose answer is memory. -/
def memCall (P : Program) (o : Oper) : Bool := match o.op with | .call c => (match c.callee with | .builtin _ => false | _ => (match P.underlying o.type with | some (.slice _) => true | some (.pointer _) => true | some (.map _ _) => true | _ => false)) | _ => false
def memLoads (P : Program) (ops : List Oper) : Bool := ops.any (memCall P) && ops.any isLoad
def dOpX3 (P : Program) (Γ : Env) (Ws : List (Nat × List AV)) (o : Oper) (st : St) (h : H) (k : AV → H → Option R) : Option R :=
  match o.op with
  | .load t x => bx (watT P t) (aLoadW Ws (ev st x) h k) (dOpX P Γ 2 o st h fun a h' => bc (okW Ws h') (k a h') none)
  | _ => dOpX P Γ 2 o st h fun a h' => bc (okW Ws h') (k a h') none
def cls3 (P : Program) (o : Oper) : Nat := match o.op with | .load t _ => bif watT P t then 0 else clsOf P 2 o | _ => clsOf P 2 o
def clsAt3 (P : Program) (ops : Array Oper) (k : Nat) : Nat := match ops[k]? with | some o => cls3 P o | none => 2

/-- A call of a function value, and a store: better taken as a call that writes nothing. -/
def dynCall (o : Oper) : Bool := match o.op with | .call c => (match c.callee with | .value (.tmp _) => true | _ => false) | _ => false
def isStore (o : Oper) : Bool := match o.op with | .store .. => true | _ => false
def use3 (P : Program) (ops : Array Oper) : Bool := ((intLoads P ops.toList || memLoads P ops.toList) && lexX .any ops (clsAt3 P ops)) && !(intLoads P ops.toList && ops.toList.any dynCall && ops.toList.any isStore && lexX .any ops (clsAt P 1 ops))
/-- Calls that write nothing: not where a function value is called beside a call whose answer is memory. -/
def use1 (P : Program) (ops : Array Oper) : Bool := lexX .any ops (clsAt P 1 ops) && !(ops.toList.any dynCall && ops.toList.any (memCall P))
abbrev DX := Oper → St → H → (AV → H → Option R) → Option R
def runAllX (N : Nat) (dx : DX) : List Oper → St → H → K → Option R
  | [], st, h, kn => kn st h
  | o :: rest, st, h, kn => dx o st h fun a h' => putO N o.dst a st fun st' => runAllX N dx rest st' h' kn
def dOpsX (N : Nat) (dx : DX) (all : List Oper) : Nat → An → List Oper → St → H → K → Option R
  | _, _, [], st, h, kn => kn st h
  | 0, _, _ :: _, _, _, _ => none
  | n + 1, an, o :: rest, st, h, kn => match o.guard with
    | none => (match an.cutK with
      | none => dx o st h fun a h' => putO N o.dst a st fun st' => dOpsX N dx all n an.next rest st' h' kn
      | some ks => (fun J : List AV → H → Option R => J (ks.map (get st)) h) (fun vs h => dx o (mkSt ks vs) h fun a h' => putO N o.dst a (mkSt ks vs) fun st' => dOpsX N dx all n an.next rest st' h' kn))
    | some (j, want) => match (all[j]?).bind (·.dst) with
      | none => none
      | some d => bc (((o :: rest).takeWhile (sameG j want)).all (fun o => match o.dst with | some e => !Nat.beq e d | none => true))
        (match an.ks with
        | none => none
        | some ks => (fun J : List AV → H → Option R => guardB want (get st d) (runAllX N dx ((o :: rest).takeWhile (sameG j want)) st h fun st h => J (ks.map (get st)) h)
            (skipAll N ((o :: rest).takeWhile (sameG j want)) st fun st => J (ks.map (get st)) h))
            (fun vs h => dOpsX N dx all n an.r ((o :: rest).dropWhile (sameG j want)) (mkSt ks vs) h kn))
        none

/-! Regions whose order is another one than the text's, with blocks that no operation writes. -/
def okL (Ws : List (Nat × List AV)) (h : H) : Bool := @List.rec (Nat × List AV) (fun _ => Bool) true (fun p _ f => bc (Nat.ble (Nat.succ p.1) h.lo) f false) Ws
def aLoad4 {α : Type} (Ws : List (Nat × List AV)) (x : AV) (h : H) (k : AV → H → Option α) : Option α := x.onPtr none fun b _ => bc (Nat.ble (Nat.succ b) h.lo) (findW Ws b fun _ => aLoad x h k) none
def aLoadN4 {α : Type} (n : Nat) (Ws : List (Nat × List AV)) (x : AV) (h : H) (k : AV → H → Option α) : Option α := x.onPtr none fun b _ => bc (Nat.ble (Nat.succ b) h.lo) (findW Ws b fun _ => aLoadN n x h k) none
def dOpX4 (P : Program) (Γ : Env) (Ws : List (Nat × List AV)) (o : Oper) (st : St) (h : H) (k : AV → H → Option R) : Option R :=
  match o.op with
  | .load t x => (match isAggT P t with
    | some true => (match sizeT P t with | some n => aLoadN4 n Ws (ev st x) h k | none => none)
    | some false => aLoad4 Ws (ev st x) h k
    | none => none)
  | _ => dOpX P Γ 2 o st h fun a h' => bc (okL Ws h') (k a h') none
def cls4 (P : Program) (o : Oper) : Nat := match o.op with | .load _ _ => 0 | _ => clsOf P 2 o
def clsAt4 (P : Program) (ops : Array Oper) (k : Nat) : Nat := match ops[k]? with | some o => cls4 P o | none => 2
def dOpsL (N : Nat) (dx : DX) (ops : Array Oper) : List Nat → St → H → K → Option R
  | [], st, h, kn => kn st h
  | k :: l, st, h, kn => match ops[k]? with
    | some o => (match o.guard with
      | none => dx o st h fun a h' => putO N o.dst a st fun st' => dOpsL N dx ops l st' h' kn
      | some _ => none)
    | none => none
def H.unmark (h : H) (lo : Nat) : H := ⟨h.n, h.t, minN h.lo lo⟩
def srcS (ops : List Oper) (x : Operand) : Operand := match x with
  | .tmp t => (match ops.find? (fun o => match o.dst with | some d => Nat.beq d t | none => false) with
    | some o => (match o.op with | .move y => y | .assign y => y | .nilCheck y => y | _ => x)
    | none => x)
  | _ => x
def watOps4 (ops : List Oper) : List Operand := ops.filterMap fun o => match o.op with | .load _ x => some (srcS ops (srcS ops (srcS ops x))) | .fieldAddr _ x _ => some (srcS ops (srcS ops (srcS ops x))) | _ => none
def region4 (P : Program) (Γ : Env) (N : Nat) (ops : Array Oper) (an : An) (st : St) (h : H) (kn : K) : Option R :=
  match an.ks with
  | some l => bc (lexP .any ops (clsAt4 P ops) l) ((fun (Ws : List (Nat × List AV)) (lo : Nat) => dOpsL N (dOpX4 P Γ Ws) ops l st h.mark fun st' h' => kn st' (h'.unmark lo)) (watchP h ((watOps4 ops.toList).map (ev st))) h.lo) none
  | none => none

def loopD (n : Nat) (body : List AV → H → (List AV → H → Option R) → Option R) : List AV → H → Option R :=
  @Nat.rec (fun _ => List AV → H → Option R) (fun _ _ => none) (fun _ ih vs h => body vs h ih) n
theorem loopD_succ (n : Nat) (body : List AV → H → (List AV → H → Option R) → Option R) (vs : List AV) (h : H) : loopD (n + 1) body vs h = body vs h (loopD n body) := rfl

def den (P : Program) (Γ : Env) (N F : Nat) : Code → An → St → H → K → (Nat → K) → K → Option R
  | .skip, _, st, h, kn, _, _ => kn st h
  | .region _ ops draw, an, st, h, kn, _, _ => bc draw (bc (P.follows .mixedOrders) (bc (lexX .any ops (clsAt P 2 ops)) (dOpsX N (dOpX P Γ 2) ops.toList ops.toList.length an ops.toList st h kn) (bc (use3 P ops) ((fun Ws => dOpsX N (dOpX3 P Γ Ws) ops.toList ops.toList.length an ops.toList st h kn) (bif intLoads P ops.toList then watch h ((watOps ops.toList).map (ev st)) else watchN h 2 ((watOpsL ops.toList).map (ev st)))) (bc (use1 P ops) (dOpsX N (dOpX P Γ 1) ops.toList ops.toList.length an ops.toList st h kn) (region4 P Γ N ops an st h kn)))) none) (dOps P Γ N ops.toList ops.toList.length an ops.toList st h kn)
  | .seq a b, an, st, h, kn, ke, kr => match an.ks with
    | none => den P Γ N F a an.l st h (fun st h => den P Γ N F b an.r st h kn ke kr) ke kr
    | some ks => (fun J : List AV → H → Option R => den P Γ N F a an.l st h (fun st h => J (ks.map (get st)) h) ke kr) (fun vs h => den P Γ N F b an.r (mkSt ks vs) h kn ke kr)
  | .cond c a b, an, st, h, kn, ke, kr => withBool (ev st c) fun t => bc t (den P Γ N F a an.l st h kn ke kr) (den P Γ N F b an.r st h kn ke kr)
  | .block id a, an, st, h, kn, ke, kr => den P Γ N F a an.l st h kn (fun i st h => bc (Nat.beq i id) (kn st h) (ke i st h)) kr
  | .loop a, an, st, h, kn, ke, kr => match an.ks with
    | none => none
    | some ks => loopD F (fun vs h kc => den P Γ N F a an.l (mkSt ks vs) h (fun st h => kc (ks.map (get st)) h) ke kr) (ks.map (get st)) h
  | .exit id, _, st, h, _, ke, _ => ke id st h
  | .scope a, an, st, h, kn, ke, kr => den P Γ N F a an.l st h kn ke kr
  | .label _, _, st, h, kn, _, _ => kn st h
  | .ret, _, st, h, _, _, kr => kr st h
  | _, _, _, _, _, _, _ => none

/-! ### Sound -/
/-- How a piece of code may end. -/
def Post (ι : Inj) (h : H) (a : Act) (w : World) (N : Nat) (kn : K) (ke : Nat → K) (kr : K) (r : R) : Exit → Act → World → Prop := fun e a' w' =>
  ∃ ι' st' h', Ext ι h w ι' h' w' ∧ Rel ι' h' w' ∧ StR ι' N st' a' ∧ a'.defers = a.defers ∧
    match e with
    | .normal => kn st' h' = some r
    | .exit i => ke i st' h' = some r
    | .ret => kr st' h' = some r
    | _ => False

theorem get_map_mkSt {ι : Inj} {N : Nat} {st : St} {a : Act} (hs : StR ι N st a) (ks : List Nat) : StR ι N (mkSt ks (ks.map (get st))) a := by
  refine ⟨hs.size, fun s => ?_⟩
  induction ks with
  | nil => exact rfl
  | cons k ks ih =>
    simp only [List.map_cons, mkSt, hd, tl, get]
    cases hb : Nat.beq k s with
    | true => rw [cond_true]; have := Nat.eq_of_beq_eq_true hb; subst this; exact hs.at_ k
    | false => rw [cond_false]; exact ih

theorem putO_some {N : Nat} {d : Option Nat} {x : AV} {st : St} {f : St → Option R} {r : R} (e : putO N d x st f = some r) : ∃ st', f st' = some r ∧
    ∀ {ι : Inj} {a : Act} {v : Value}, StR ι N st a → VR ι x v → StR ι N st' (a.put d v) := by
  unfold putO at e
  split at e
  · exact ⟨st, e, fun hs _ => hs⟩
  · rename_i d
    obtain ⟨hb, e1⟩ := bif_some e
    exact ⟨_, e1, fun hs hv => hs.put d x _ (Nat.le_of_ble_eq_true hb) hv⟩

theorem put_defers (a : Act) (d : Option Tmp) (v : Value) : (a.put d v).defers = a.defers := by cases d <;> rfl

theorem guardB_some {want : Bool} {yes no : Option R} {r : R} {ι : Inj} {N : Nat} {ops : Array Oper} {j d : Nat} {st : St} {a : Act} (hd : (ops[j]?).bind (·.dst) = some d) (hs : StR ι N st a)
    (e : guardB want (get st d) yes no = some r) : (∀ (o : Oper), o.guard = some (j, want) → ∀ a' : Act, a'.tmps.getD d undef = a.tmps.getD d undef → Region.wanted o (yielded ops a'.tmps) = true) ∧ yes = some r ∨
      (∀ (o : Oper), o.guard = some (j, want) → ∀ a' : Act, a'.tmps.getD d undef = a.tmps.getD d undef → Region.wanted o (yielded ops a'.tmps) = false) ∧ no = some r := by
  have hv := hs.at_ d
  generalize get st d = x at e hv
  cases x using AV.casesE <;> (try (cases e; done))
  case bool b =>
    have e : bc (bc b want (bnot want)) yes no = some r := e
    have hv := hv.bool
    have key : ∀ a' : Act, a'.tmps.getD d undef = a.tmps.getD d undef → yielded ops a'.tmps j = some b := fun a' h' => by
      rw [hv] at h'
      simp only [yielded, hd, Option.bind_some]
      rw [Array.getD_eq_getD_getElem?] at h'
      cases hq : a'.tmps[d]? with
      | none => rw [hq] at h'; simp [undef] at h'
      | some x => rw [hq] at h'; simp at h'; rw [h']
    cases hc : bc b want (bnot want) with
    | true =>
      rw [hc, bc_true] at e
      refine .inl ⟨fun o ho a' h' => ?_, e⟩
      simp only [Region.wanted, ho, key a' h']
      cases b <;> cases want <;> first | rfl | cases hc
    | false =>
      rw [hc, bc_false] at e
      refine .inr ⟨fun o ho a' h' => ?_, e⟩
      simp only [Region.wanted, ho, key a' h']
      cases b <;> cases want <;> first | rfl | cases hc
  case tup l =>
    cases l using AV.casesE <;> (try (cases e; done))
    have e : no = some r := e
    obtain ⟨cs, hcs, hc⟩ := hv.tup
    refine .inr ⟨fun o ho a' h' => ?_, e⟩
    simp only [Region.wanted, ho, yielded, hd, Option.bind_some]
    rw [hcs] at h'
    rw [Array.getD_eq_getD_getElem?] at h'
    cases hq : a'.tmps[d]? with
    | none => cases want <;> rfl
    | some x => rw [hq] at h'; simp at h'; subst h'; cases want <;> rfl

theorem put_getD {a : Act} {dst : Option Nat} {v : Value} {d : Nat} (h : dst ≠ some d) : (a.put dst v).tmps.getD d undef = a.tmps.getD d undef := by
  cases dst with
  | none => rfl
  | some e =>
    have : e ≠ d := fun he => h (by rw [he])
    simp [Act.put, Array.getD_eq_getD_getElem?, Array.getElem?_setIfInBounds_ne this]

section
variable {Γ : Env} {N : Nat} {ops : Array Oper} {kn : K} {ke : Nat → K} {kr : K} {r : R} {Q : Exit → Act → World → Prop}

/-- What is run of a list of operations, then the rest. -/
theorem runAll_sound (hΓ : Sound P Γ) {j d : Nat} {want : Bool} (rest : List Oper) : ∀ (pre : List Oper) (ι : Inj) (st : St) (h : H) (a : Act) (w : World) (kn : K),
    Rel ι h w → StR ι N st a → (∀ o ∈ pre, o.guard = some (j, want) ∧ o.dst ≠ some d) →
    (∀ (o : Oper), o.guard = some (j, want) → ∀ a' : Act, a'.tmps.getD d undef = a.tmps.getD d undef → Region.wanted o (yielded ops a'.tmps) = true) → runAll P Γ N pre st h kn = some r →
    (∀ ι' st' h' a' w', Ext ι h w ι' h' w' → a'.defers = a.defers → Rel ι' h' w' → StR ι' N st' a' → kn st' h' = some r → wpList P ops Q rest a' w') → wpList P ops Q (pre ++ rest) a w := by
  intro pre
  induction pre with
  | nil => intro ι st h a w kn hR hS _ _ e hk; exact hk ι st h a w (.refl _ _ _) rfl hR hS e
  | cons o pre ih =>
    intro ι st h a w kn hR hS hg hw e hk
    simp only [List.cons_append, wpList]
    obtain ⟨hg1, hd1⟩ := hg o (by simp)
    rw [if_pos (hw o hg1 a rfl)]
    refine .inl (wp_of_good (dOp_sound hΓ hR hS e _ fun x v w' ι' h' hE' hR' hV hk' => ?_))
    obtain ⟨st', hk2, hput⟩ := putO_some hk'
    refine ih ι' st' h' _ w' kn hR' (hput (hS.mono hE'.le) hV) (fun o ho => hg o (by simp [ho])) (fun o ho a' ha' => hw o ho a' (ha'.trans (put_getD hd1))) hk2 fun ι2 st2 h2 a2 w2 hE2 hd2 hR2 hS2 hk3 => ?_
    exact hk ι2 st2 h2 a2 w2 (hE'.trans hE2) (hd2.trans (put_defers _ _ _)) hR2 hS2 hk3

theorem skipAll_sound {j d : Nat} {want : Bool} (rest : List Oper) : ∀ (pre : List Oper) (ι : Inj) (st : St) (a : Act) (w : World) (f : St → Option R),
    StR ι N st a → (∀ o ∈ pre, o.guard = some (j, want) ∧ o.dst ≠ some d) →
    (∀ (o : Oper), o.guard = some (j, want) → ∀ a' : Act, a'.tmps.getD d undef = a.tmps.getD d undef → Region.wanted o (yielded ops a'.tmps) = false) → skipAll N pre st f = some r →
    (∀ st' a', a'.defers = a.defers → StR ι N st' a' → f st' = some r → wpList P ops Q rest a' w) → wpList P ops Q (pre ++ rest) a w := by
  intro pre
  induction pre with
  | nil => intro ι st a w f hS _ _ e hk; exact hk st a rfl hS e
  | cons o pre ih =>
    intro ι st a w f hS hg hw e hk
    simp only [List.cons_append, wpList]
    obtain ⟨hg1, hd1⟩ := hg o (by simp)
    rw [if_neg (by rw [hw o hg1 a rfl]; simp)]
    obtain ⟨st', hk2, hput⟩ := putO_some e
    refine ih ι st' _ w f (hput hS ⟨#[], rfl, rfl⟩) (fun o ho => hg o (by simp [ho])) (fun o ho a' ha' => hw o ho a' (ha'.trans (put_getD hd1))) hk2 fun st2 a2 hd2 hS2 hk3 => ?_
    exact hk st2 a2 (hd2.trans (put_defers _ _ _)) hS2 hk3

theorem takeWhile_all {β : Type} (p : β → Bool) : ∀ (l : List β), ∀ x ∈ l.takeWhile p, p x = true
  | [], x, hx => by simp at hx
  | y :: l, x, hx => by
    rw [List.takeWhile_cons] at hx
    split at hx
    · rcases List.mem_cons.1 hx with rfl | hx
      · assumption
      · exact takeWhile_all p l x hx
    · simp at hx

theorem sameG_eq {j : Nat} {want : Bool} {o : Oper} (h : sameG j want o = true) : o.guard = some (j, want) := by
  unfold sameG at h
  split at h
  · rename_i i v hg
    simp only [Bool.and_eq_true] at h
    have := Nat.eq_of_beq_eq_true h.1
    subst this
    rw [hg]
    cases v <;> cases want <;> first | rfl | (simp at h)
  · cases h

theorem dOps_sound {all : List Oper} (hΓ : Sound P Γ) (hall : ops.toList = all) :
    ∀ (n : Nat) (an : An) (l : List Oper) (ι0 : Inj) (h0 : H) (a0 : Act) (w0 : World) (ι : Inj) (st : St) (h : H) (a : Act) (w : World), Ext ι0 h0 w0 ι h w → a.defers = a0.defers → Rel ι h w → StR ι N st a →
      dOps P Γ N all n an l st h kn = some r → wpList P ops (Post ι0 h0 a0 w0 N kn ke kr r) l a w := by
  intro n
  induction n with
  | zero =>
    intro an l ι0 h0 a0 w0 ι st h a w hE hd hR hS e
    cases l with
    | nil => exact ⟨ι, st, h, hE, hR, hS, hd, e⟩
    | cons o rest => cases e
  | succ n ih =>
    intro an l ι0 h0 a0 w0 ι st h a w hE hd hR hS e
    cases l with
    | nil => exact ⟨ι, st, h, hE, hR, hS, hd, e⟩
    | cons o rest =>
      simp only [dOps] at e
      split at e
      · rename_i hg
        simp only [wpList]
        rw [if_pos (by simp [Region.wanted, hg])]
        obtain ⟨st2, hS2, e⟩ : ∃ st2, StR ι N st2 a ∧ (dOp P Γ o st2 h fun a h' => putO N o.dst a st2 fun st' => dOps P Γ N all n an.next rest st' h' kn) = some r := by
          cases hc : an.cutK with
          | none => rw [hc] at e; exact ⟨st, hS, e⟩
          | some ks => rw [hc] at e; exact ⟨_, get_map_mkSt hS ks, e⟩
        refine .inl (wp_of_good (dOp_sound hΓ hR hS2 e _ fun x v w' ι' h' hE' hR' hV hk => ?_))
        obtain ⟨st', hk', hput⟩ := putO_some hk
        exact ih an.next rest ι0 h0 a0 w0 ι' st' h' _ w' (hE.trans hE') ((put_defers _ _ _).trans hd) hR' (hput (hS2.mono hE'.le) hV) hk'
      · rename_i j want hg
        split at e
        · cases e
        rename_i d hdst
        obtain ⟨hall', e1⟩ := bif_some e
        have hj : (ops[j]?).bind (·.dst) = some d := by rw [← hdst]; subst hall; simp
        have hpre : ∀ o' ∈ (o :: rest).takeWhile (sameG j want), o'.guard = some (j, want) ∧ o'.dst ≠ some d := fun o' ho' => by
          refine ⟨sameG_eq (takeWhile_all _ _ _ ho'), fun hd' => ?_⟩
          have := List.all_eq_true.1 hall' o' ho'
          rw [hd'] at this
          simp at this
        rw [← List.takeWhile_append_dropWhile (p := sameG j want) (l := o :: rest)]
        split at e1
        · rcases guardB_some hj hS e1 with ⟨hw, e2⟩ | ⟨hw, e2⟩
          · refine runAll_sound hΓ _ _ ι st h a w _ hR hS hpre hw e2 fun ι' st' h' a' w' hE' hd' hR' hS' hk => ?_
            exact ih an.r _ ι0 h0 a0 w0 ι' st' h' a' w' (hE.trans hE') (hd'.trans hd) hR' hS' hk
          · refine skipAll_sound _ _ ι st a w _ hS hpre hw e2 fun st' a' hd' hS' hk => ?_
            exact ih an.r _ ι0 h0 a0 w0 ι st' h a' w hE (hd'.trans hd) hR hS' hk
        · rcases guardB_some hj hS e1 with ⟨hw, e2⟩ | ⟨hw, e2⟩
          · refine runAll_sound hΓ _ _ ι st h a w _ hR hS hpre hw e2 fun ι' st' h' a' w' hE' hd' hR' hS' hk => ?_
            exact ih an.r _ ι0 h0 a0 w0 ι' _ h' a' w' (hE.trans hE') (hd'.trans hd) hR' (get_map_mkSt hS' _) hk
          · refine skipAll_sound _ _ ι st a w _ hS hpre hw e2 fun st' a' hd' hS' hk => ?_
            exact ih an.r _ ι0 h0 a0 w0 ι _ h a' w hE (hd'.trans hd) hR (get_map_mkSt hS' _) hk

end

/-- Worlds with at most more blocks go on in the same memory. -/
theorem Ext.grow {ι : Inj} {h : H} {w w' : World} (hr : Rel ι h w) (hg : Below w.heap.size w w') : Ext ι h w ι h w' where
  le := .refl _
  os := hg.os
  tape := hg.tape
  output := hg.output
  size := hg.size
  block := fun B hB _ => hg.block B hB
  own := fun B ho => .inl ho
  num := Nat.le_refl _
  lo := Nat.le_refl _
  keep := fun _ _ _ => rfl
  keepW := fun b B o s _ _ _ e => hg.block B (hr.lt _ _ _ _ e)
  dom := fun b B o s e => .inl ⟨b, _, _, e⟩

section
variable {Γ : Env} {N m : Nat} {ops : Array Oper} {r : R}

theorem clsOf0 {o : Oper} (hm : m = 1 ∨ m = 2) (h : clsOf P m o = 0) : clsOf P 1 o = 0 := by
  unfold clsOf at *
  cases ho : o.op with
  | call c =>
    simp only [ho] at h ⊢
    cases hc : c.callee with
    | value f => simp only [hc] at h; rcases hm with rfl | rfl <;> cases h
    | invoke f n => simp only [hc] at h; rcases hm with rfl | rfl <;> cases h
    | builtin b => simp only [hc] at h ⊢; cases b <;> first | rfl | exact h | cases h
  | binOp op t x y u => simp only [ho] at h ⊢; exact h
  | convert s d x => simp only [ho] at h ⊢; exact h
  | _ => first | rfl | (simp [ho] at h; done)

/-- What is known beside the blocks that nobody knows of. -/
structure Known (ι0 : Inj) (h0 : H) (w0 : World) (ι : Inj) (h : H) (w : World) (U : Nat → Prop) : Prop where
  ext : Ext ι0 h0 w0 ι h w
  rel : Rel ι h w
  avoid : ∀ b C q z, ι b = some (C, q, z) → ¬ U C
  base : ∀ C, U C → w0.heap.size ≤ C
  lt : ∀ C, U C → C < w.heap.size

theorem Known.grow {ι0 : Inj} {h0 : H} {w0 : World} {ι : Inj} {h : H} {w w' : World} {U U' : Nat → Prop} (K : Known ι0 h0 w0 ι h w U) (hg : Gr w U w' U') : Known ι0 h0 w0 ι h w' U' where
  ext := K.ext.trans (Ext.grow K.rel hg.below)
  rel := K.rel.grow hg.below
  avoid := fun b C q z e hC => by
    rw [hg.more] at hC
    rcases hC with hC | hC
    · exact K.avoid b C q z e hC
    · have := K.rel.lt _ _ _ _ e; omega
  base := fun C hC => by
    rw [hg.more] at hC
    rcases hC with hC | hC
    · exact K.base C hC
    · exact Nat.le_trans K.ext.size hC.1
  lt := fun C hC => by
    rw [hg.more] at hC
    rcases hC with hC | hC
    · exact Nat.lt_of_lt_of_le (K.lt C hC) hg.below.size
    · exact hC.2

/-- A block that nobody knew of is taken for a new one. -/
theorem Known.adopt {ι0 : Inj} {h0 : H} {w0 : World} {ι : Inj} {h : H} {w : World} {U : Nat → Prop} (K : Known ι0 h0 w0 ι h w U) {B : Nat} (hB : U B) {cells : Array Value} {el : TypeId} (hX : w.heap[B]? = some (.cells cells el)) {l : List AV} (hv : VL ι l cells.toList)
    (hr0 : ∀ b C q z, ι0 b = some (C, q, z) → C < w0.heap.size) :
    Known ι0 h0 w0 (ι.add h.n (B, 0, cells.toList.length)) (h.push (.cells 0 l)) w (less U B) where
  ext := {
    le := K.ext.le.trans (Inj.le_add K.rel.noId)
    os := K.ext.os
    tape := K.ext.tape
    output := K.ext.output
    size := K.ext.size
    block := K.ext.block
    own := fun C ⟨c, q, z, e, ho⟩ => by
      unfold Inj.add at e
      rw [H.get_push] at ho
      split at e
      · cases e; exact .inr (K.base B hB)
      · rename_i hn; rw [if_neg hn] at ho; exact K.ext.own C ⟨c, q, z, e, ho⟩
    num := Nat.le_trans K.ext.num (Nat.le_succ _)
    lo := K.ext.lo
    keep := fun c h1 h2 => by
      have := K.ext.num
      rw [H.get_push, if_neg (by omega)]; exact K.ext.keep c h1 h2
    keepW := K.ext.keepW
    dom := fun c C q z e => by
      unfold Inj.add at e
      split at e
      · cases e; exact .inr (K.base B hB)
      · exact K.ext.dom c C q z e }
  rel := {
    fresh := fun c x e => by
      unfold Inj.add at e; rw [H.n_push]
      split at e
      · omega
      · have := K.rel.fresh _ _ e; omega
    lt := fun c C q z e => by
      unfold Inj.add at e
      split at e
      · cases e; exact K.lt B hB
      · exact K.rel.lt _ _ _ _ e
    inj := fun c d C q z q' z' hc hd ec ed => by
      unfold Inj.add at ec ed
      rw [H.get_push] at hc hd
      split at ec
      · cases ec
        split at ed
        · omega
        · exact absurd hB (K.avoid _ _ _ _ ed)
      · rename_i hcn
        rw [if_neg hcn] at hc
        split at ed
        · cases ed; exact absurd hB (K.avoid _ _ _ _ ec)
        · rename_i hdn; rw [if_neg hdn] at hd; exact K.rel.inj c d C q z q' z' hc hd ec ed
    blk := fun c hc => by
      rw [H.get_push] at hc ⊢
      by_cases hcn : c = h.n
      · subst hcn
        refine ⟨B, 0, cells.toList.length, by simp [Inj.add], ?_⟩
        rw [if_pos rfl, hX]
        refine ⟨cells, el, 0, 0, rfl, by simp, fun i a hi => ?_, fun _ => rfl, fun h => by cases h⟩
        obtain ⟨v, h1, h2⟩ := (hv.mono (Inj.le_add K.rel.noId)).get i a hi
        exact ⟨v, by simpa using h1, h2⟩
      · rw [if_neg hcn] at hc ⊢
        obtain ⟨C, q, z, e, hR⟩ := K.rel.blk c hc
        exact ⟨C, q, z, by simp [Inj.add, hcn, e], hR.mono (Inj.le_add K.rel.noId)⟩
    pin := fun c r' e' hp => by
      rw [H.get_push] at hp
      by_cases hcn : c = h.n
      · rw [if_pos hcn] at hp; exact absurd hp (Blk.cells_free (by decide) _ _)
      · rw [if_neg hcn] at hp
        obtain ⟨⟨s', hb⟩, hc⟩ := K.rel.pin c r' e' hp
        exact ⟨⟨s', by simp [Inj.add, hcn, hb]⟩, hc⟩ }
  avoid := fun c C q z e hC => by
    unfold Inj.add at e
    split at e
    · cases e; exact hC.2 rfl
    · exact K.avoid c C q z e hC.1
  base := fun C hC => K.base C hC.1
  lt := fun C hC => K.lt C hC.1

theorem dOpX_sound {S : Adm} (hΓ : Sound P Γ) (hm : m = 1 ∨ m = 2) {ι0 : Inj} {h0 : H} {w0 : World} (hr0 : ∀ b C q z, ι0 b = some (C, q, z) → C < w0.heap.size) {o : Oper} {ι : Inj} {h : H} {a : Act} {w : World} {U : Nat → Prop} {st : St} {k : AV → H → Option R} (hR : Known ι0 h0 w0 ι h w U) (hS : StR ι N st a) {c : Nat} (hc : c = clsOf P m o)
    (hw : Region.wanted o (yielded ops a.tmps) = true) (e : dOpX P Γ m o st h k = some r) {K : Act → World → (Nat → Prop) → Prop}
    (hSk : ∀ x w' U' ι' h', Known ι0 h0 w0 ι' h' w' U' → k x h' = some r → S.1 w')
    (hk : ∀ x v w' U' ι' h', Known ι0 h0 w0 ι' h' w' U' → ι.le ι' → VR ι' x v → k x h' = some r → K (a.put o.dst v) w' U') : step S P ops c o K a w U := by
  unfold dOpX at e
  unfold step
  cases hb : Nat.ble 2 (clsOf P m o) with
  | true =>
    have h2 := Nat.le_of_ble_eq_true hb
    rw [hb, bc_true] at e
    rw [if_neg (by omega), if_neg (by omega)]
    by_cases h3 : c = 3
    · rw [if_pos h3]
      have hop : ∃ t n ps, o.op = .buildSlice t n ps := by
        rw [hc] at h3
        unfold clsOf at h3
        cases ho : o.op with
        | buildSlice t n ps => exact ⟨t, n, ps, rfl⟩
        | call cc =>
          simp only [ho] at h3
          cases hcc : cc.callee with
          | value f => simp only [hcc] at h3; omega
          | invoke f n => simp only [hcc] at h3; omega
          | builtin b => simp only [hcc] at h3; cases b <;> cases h3
        | binOp op t x y u => simp only [ho] at h3; split at h3 <;> omega
        | convert s d x => simp only [ho] at h3; split at h3 <;> omega
        | _ => simp [ho] at h3
      obtain ⟨t, n, ps, ho⟩ := hop
      simp only [dOp, ho] at e
      split at e
      case h_2 => cases e
      rename_i el hu
      split at e
      case h_2 => cases e
      rename_i es zs hes hzs
      obtain ⟨hn, e1⟩ := bif_some e
      obtain ⟨cells', l, g1, g2, g3⟩ := aBuildSlice_A (ρ := a.eval) ho hS.ev hu hes hzs (Nat.le_of_ble_eq_true hn) e1
      refine .inl ⟨hw, n, .cells cells' el, g1, fun w' U' B hg hB hX => ?_⟩
      have K1 := hR.grow hg
      have K2 := K1.adopt hB hX g2 hr0
      exact hk _ _ w' _ _ _ K2 (Inj.le_add K1.rel.noId) VR.newSl g3
    · rw [if_neg h3]
      refine .inl ⟨hw, fun w' U' hg => ?_⟩
      have K1 := hR.grow hg
      refine dOp_sound hΓ K1.rel hS e _ fun x v w'' ι' h' hE hR' hV hk' => ?_
      have K2 : Known ι0 h0 w0 ι' h' w'' U' := ⟨K1.ext.trans hE, hR', fun b C q z eb hC => by
        rcases hE.dom b C q z eb with ⟨c', q', z', e'⟩ | h5
        · exact K1.avoid _ _ _ _ e' hC
        · have := K1.lt C hC; omega, K1.base, fun C hC => Nat.lt_of_lt_of_le (K1.lt C hC) hE.size⟩
      refine ⟨hk x v w'' U' ι' h' K2 hE.le hV hk', fun B hB => ?_, hSk x w'' U' ι' h' K2 hk'⟩
      · exact hE.block B (K1.lt B hB) fun ⟨b, q, z, eb, _⟩ => K1.avoid b B q z eb hB
  | false =>
    have h2 : ¬ 2 ≤ clsOf P m o := by intro h; rw [Nat.ble_eq_true_of_le h] at hb; cases hb
    rw [hb, bc_false] at e
    by_cases h0' : c = 0
    · rw [if_pos h0']
      have hp : GivesC (fun _ => True) P a.eval o ι h (fun a _ => k a h) r := by
        have hc1 := clsOf0 hm (hc.symm.trans h0')
        unfold dOpQ at e
        split at e
        · rename_i cc ho
          split at e
          · rename_i f hcc; exact absurd hc1 (by simp [clsOf, ho, hcc])
          · rename_i f n hcc; exact absurd hc1 (by simp [clsOf, ho, hcc])
          · obtain ⟨_, e2⟩ := bif_some e; exact dOp_pure hR.rel hS hc1 e2
        · obtain ⟨_, e2⟩ := bif_some e; exact dOp_pure hR.rel hS hc1 e2
      obtain ⟨v, x, g1, g2, g3⟩ := hp
      exact ⟨v, .inl ⟨hw, fun w' _ => g1 w' trivial⟩, hk x v w U ι h hR (.refl _) g2 g3⟩
    · have h1 : c = 1 := by omega
      rw [if_neg h0', if_pos h1]
      obtain ⟨v, x, g1, g2, g3⟩ := dOpQ_sound hΓ hR.rel hS e
      exact ⟨v, .inl ⟨hw, g1⟩, fun w' U' hg => hk x v w' U' ι h (hR.grow hg) (.refl _) g2 g3⟩

theorem step_skip {S : Adm} {c : Nat} {o : Oper} {a : Act} {w : World} {U : Nat → Prop} {K : Act → World → (Nat → Prop) → Prop} (hw : Region.wanted o (yielded ops a.tmps) = false) (hk : ∀ w' U', Gr w U w' U' → K (a.put o.dst undef) w' U') : step S P ops c o K a w U := by
  unfold step
  split
  · exact ⟨undef, .inr ⟨hw, rfl⟩, hk w U (Gr.refl _ _)⟩
  · split
    · exact ⟨undef, .inr ⟨hw, rfl⟩, hk⟩
    · split
      · exact .inr ⟨hw, hk⟩
      · exact .inr ⟨hw, hk⟩

/-- How an operation's evaluation is sound in a region. -/
def DxSound (S : Adm) (P : Program) (ops : Array Oper) (N : Nat) (ι0 : Inj) (h0 : H) (w0 : World) (r : R) (dx : DX) (cl : Oper → Nat) : Prop :=
  ∀ (o : Oper) (ι : Inj) (h : H) (a : Act) (w : World) (U : Nat → Prop) (st : St) (k : AV → H → Option R), Known ι0 h0 w0 ι h w U → StR ι N st a → Region.wanted o (yielded ops a.tmps) = true → dx o st h k = some r →
    ∀ (K : Act → World → (Nat → Prop) → Prop), (∀ x v w' U' ι' h', Known ι0 h0 w0 ι' h' w' U' → ι.le ι' → VR ι' x v → k x h' = some r → K (a.put o.dst v) w' U') → step S P ops (cl o) o K a w U

theorem DxSound.one (hΓ : Sound P Γ) (hm : m = 1 ∨ m = 2) {ι0 : Inj} {h0 : H} {w0 : World} (hr0 : ∀ b C q z, ι0 b = some (C, q, z) → C < w0.heap.size) : DxSound Adm.all P ops N ι0 h0 w0 r (dOpX P Γ m) (clsOf P m) :=
  fun o ι h a w U st k hR hS hw e K hk => dOpX_sound hΓ hm hr0 hR hS rfl hw e (fun _ _ _ _ _ _ _ => trivial) hk

theorem runAllX_sound {S : Adm} {dx : DX} {cl : Oper → Nat} {cls : Nat → Nat} {ι0 : Inj} {h0 : H} {w0 : World} (hdx : DxSound S P ops N ι0 h0 w0 r dx cl) (hcls : ∀ i o, ops[i]? = some o → cls i = cl o) {j d : Nat} {want : Bool} (rest : List Oper) (Q : Act → World → Prop) : ∀ (pre : List Oper) (i : Nat) (ι : Inj) (st : St) (h : H) (a : Act) (w : World) (U : Nat → Prop) (kn : K),
    (∀ q, (pre ++ rest)[q]? = ops[i + q]?) → Known ι0 h0 w0 ι h w U → StR ι N st a → (∀ o ∈ pre, o.guard = some (j, want) ∧ o.dst ≠ some d) →
    (∀ (o : Oper), o.guard = some (j, want) → ∀ a' : Act, a'.tmps.getD d undef = a.tmps.getD d undef → Region.wanted o (yielded ops a'.tmps) = true) → runAllX N dx pre st h kn = some r →
    (∀ ι' st' h' a' w' U', Known ι0 h0 w0 ι' h' w' U' → a'.defers = a.defers → StR ι' N st' a' → kn st' h' = some r → wpX S P ops cls Q (i + pre.length) rest a' w' U') → wpX S P ops cls Q i (pre ++ rest) a w U := by
  intro pre
  induction pre with
  | nil => intro i ι st h a w U kn _ hR hS _ _ e hk; exact hk ι st h a w U hR rfl hS e
  | cons o pre ih =>
    intro i ι st h a w U kn hl hR hS hg hw e hk
    obtain ⟨hg1, hd1⟩ := hg o (by simp)
    have h0' : ops[i]? = some o := by simpa using (hl 0).symm
    have hst := fun K hk => hdx o ι h a w U st _ hR hS (hw o hg1 a rfl) e K hk
    rw [← hcls i o h0'] at hst
    refine hst _ fun x v w' U' ι' h' hR' hle hV hk' _ => ?_
    obtain ⟨st', hk2, hput⟩ := putO_some hk'
    refine ih (i + 1) ι' st' h' _ w' U' kn (fun q => by have := hl (q + 1); simpa [Nat.add_assoc, Nat.add_comm 1 q] using this) hR' (hput (hS.mono hle) hV) (fun o ho => hg o (by simp [ho])) (fun o ho a' ha' => hw o ho a' (ha'.trans (put_getD hd1))) hk2 fun ι2 st2 h2 a2 w2 U2 hR2 hd2 hS2 hk3 => ?_
    have := hk ι2 st2 h2 a2 w2 U2 hR2 (hd2.trans (put_defers _ _ _)) hS2 hk3
    simpa [Nat.add_assoc, Nat.add_comm 1 pre.length] using this

theorem skipAllX_sound {S : Adm} {cls : Nat → Nat} {ι0 : Inj} {h0 : H} {w0 : World} {j d : Nat} {want : Bool} (rest : List Oper) (Q : Act → World → Prop) : ∀ (pre : List Oper) (i : Nat) (ι : Inj) (st : St) (h : H) (a : Act) (w : World) (U : Nat → Prop) (f : St → Option R),
    Known ι0 h0 w0 ι h w U → StR ι N st a → (∀ o ∈ pre, o.guard = some (j, want) ∧ o.dst ≠ some d) →
    (∀ (o : Oper), o.guard = some (j, want) → ∀ a' : Act, a'.tmps.getD d undef = a.tmps.getD d undef → Region.wanted o (yielded ops a'.tmps) = false) → skipAll N pre st f = some r →
    (∀ st' a' w' U', Known ι0 h0 w0 ι h w' U' → a'.defers = a.defers → StR ι N st' a' → f st' = some r → wpX S P ops cls Q (i + pre.length) rest a' w' U') → wpX S P ops cls Q i (pre ++ rest) a w U := by
  intro pre
  induction pre with
  | nil => intro i ι st h a w U f hR hS _ _ e hk; exact hk st a w U hR rfl hS e
  | cons o pre ih =>
    intro i ι st h a w U f hR hS hg hw e hk
    obtain ⟨hg1, hd1⟩ := hg o (by simp)
    obtain ⟨st', hk2, hput⟩ := putO_some e
    refine step_skip (hw o hg1 a rfl) fun w' U' hw' _ => ?_
    refine ih (i + 1) ι st' h _ w' U' f (hR.grow hw') (hput hS ⟨#[], rfl, rfl⟩) (fun o ho => hg o (by simp [ho])) (fun o ho a' ha' => hw o ho a' (ha'.trans (put_getD hd1))) hk2 fun st2 a2 w2 U2 hR2 hd2 hS2 hk3 => ?_
    have := hk st2 a2 w2 U2 hR2 (hd2.trans (put_defers _ _ _)) hS2 hk3
    simpa [Nat.add_assoc, Nat.add_comm 1 pre.length] using this

theorem dOpsX_sound {S : Adm} {dx : DX} {cl : Oper → Nat} {cls : Nat → Nat} {all : List Oper} (hall : ops.toList = all) (Q : Act → World → Prop) (ι0 : Inj) (h0 : H) (a0 : Act) (w0 : World) (hdx : DxSound S P ops N ι0 h0 w0 r dx cl) (hcls : ∀ i o, ops[i]? = some o → cls i = cl o) (kn : K)
    (hQ : ∀ ι st h a w U, Known ι0 h0 w0 ι h w U → a.defers = a0.defers → StR ι N st a → kn st h = some r → Q a w) :
    ∀ (n : Nat) (an : An) (l : List Oper) (i : Nat) (ι : Inj) (st : St) (h : H) (a : Act) (w : World) (U : Nat → Prop), (∀ q, l[q]? = ops[i + q]?) → Known ι0 h0 w0 ι h w U → a.defers = a0.defers → StR ι N st a →
      dOpsX N dx all n an l st h kn = some r → wpX S P ops cls Q i l a w U := by
  intro n
  induction n with
  | zero =>
    intro an l i ι st h a w U hl hR hd hS e
    cases l with
    | nil => exact hQ ι st h a w U hR hd hS e
    | cons o rest => cases e
  | succ n ih =>
    intro an l i ι st h a w U hl hR hd hS e
    cases l with
    | nil => exact hQ ι st h a w U hR hd hS e
    | cons o rest =>
      have ho : ops[i]? = some o := by simpa using (hl 0).symm
      simp only [dOpsX] at e
      split at e
      · rename_i hg
        obtain ⟨st2, hS2, e⟩ : ∃ st2, StR ι N st2 a ∧ (dx o st2 h fun a h' => putO N o.dst a st2 fun st' => dOpsX N dx all n an.next rest st' h' kn) = some r := by
          cases hc : an.cutK with
          | none => rw [hc] at e; exact ⟨st, hS, e⟩
          | some ks => rw [hc] at e; exact ⟨_, get_map_mkSt hS ks, e⟩
        have hst := fun K hk => hdx o ι h a w U st2 _ hR hS2 (by simp [Region.wanted, hg]) e K hk
        rw [← hcls i o ho] at hst
        refine hst _ fun x v w' U' ι' h' hR' hle hV hk _ => ?_
        obtain ⟨st', hk', hput⟩ := putO_some hk
        exact ih an.next rest (i + 1) ι' st' h' _ w' U' (fun q => by have := hl (q + 1); simpa [Nat.add_assoc, Nat.add_comm 1 q] using this) hR' ((put_defers _ _ _).trans hd) (hput (hS2.mono hle) hV) hk'
      · rename_i j want hg
        split at e
        · cases e
        rename_i d hdst
        obtain ⟨hall', e1⟩ := bif_some e
        have hj : (ops[j]?).bind (·.dst) = some d := by rw [← hdst]; subst hall; simp
        have hpre : ∀ o' ∈ (o :: rest).takeWhile (sameG j want), o'.guard = some (j, want) ∧ o'.dst ≠ some d := fun o' ho' => by
          refine ⟨sameG_eq (takeWhile_all _ _ _ ho'), fun hd' => ?_⟩
          have := List.all_eq_true.1 hall' o' ho'
          rw [hd'] at this
          simp at this
        have hsplit : (o :: rest).takeWhile (sameG j want) ++ (o :: rest).dropWhile (sameG j want) = o :: rest := List.takeWhile_append_dropWhile
        have hl2 : ∀ q, ((o :: rest).takeWhile (sameG j want) ++ (o :: rest).dropWhile (sameG j want))[q]? = ops[i + q]? := fun q => by rw [hsplit]; exact hl q
        have hl3 : ∀ q, ((o :: rest).dropWhile (sameG j want))[q]? = ops[i + ((o :: rest).takeWhile (sameG j want)).length + q]? := fun q => by
          have := hl2 (((o :: rest).takeWhile (sameG j want)).length + q)
          rw [List.getElem?_append_right (by omega)] at this
          rw [Nat.add_assoc, ← this]; congr 1; omega
        rw [← hsplit]
        split at e1
        · cases e1
        · rcases guardB_some hj hS e1 with ⟨hw, e2⟩ | ⟨hw, e2⟩
          · refine runAllX_sound hdx hcls _ Q _ i ι st h a w U _ hl2 hR hS hpre hw e2 fun ι' st' h' a' w' U' hR' hd' hS' hk => ?_
            exact ih an.r _ _ ι' _ h' a' w' U' hl3 hR' (hd'.trans hd) (get_map_mkSt hS' _) hk
          · refine skipAllX_sound _ Q _ i ι st h a w U _ hR hS hpre hw e2 fun st' a' w' U' hR' hd' hS' hk => ?_
            exact ih an.r _ _ ι _ h a' w' U' hl3 hR' (hd'.trans hd) (get_map_mkSt hS' _) hk

/-! ### Watched cells -/
theorem eqW1_spec {a b : AV} (h : eqW1 a b = true) (hw : wat a = true) : b = a := by
  cases a <;> try (cases hw; done)
  case int k n =>
    cases b <;> try (cases h; done)
    rename_i k' n'
    obtain ⟨h1, h2⟩ : Nat.beq k k' = true ∧ ieq n n' = true := by
      have h : bc (Nat.beq k k') (ieq n n') false = true := h
      cases hk : Nat.beq k k' with
      | true => rw [hk] at h; exact ⟨rfl, h⟩
      | false => rw [hk] at h; cases h
    rw [ieq_eq, decide_eq_true_eq] at h2
    rw [Nat.eq_of_beq_eq_true h1, h2]
  case bool x =>
    cases b <;> try (cases h; done)
    rename_i y
    cases x <;> cases y <;> first | rfl | cases h
  case ptr c q =>
    cases b <;> try (cases h; done)
    rename_i c' q'
    have h : bc (Nat.beq c c') (Nat.beq q q') false = true := h
    cases hk : Nat.beq c c' with
    | true => rw [hk, bc_true] at h; rw [Nat.eq_of_beq_eq_true hk, Nat.eq_of_beq_eq_true h]
    | false => rw [hk] at h; cases h
  case leaf l =>
    cases l <;> try (cases hw; done)
    cases b <;> try (cases h; done)
    rename_i m
    cases m <;> first | rfl | (cases h; done)
theorem eqW_spec : ∀ {l l' : List AV}, eqW l l' = true → ∀ (i : Nat) a, l[i]? = some a → wat a = true → l'[i]? = some a
  | [], _, _, i, a, hi, _ => by simp at hi
  | _ :: _, [], h, i, a, hi, _ => by cases h
  | x :: l, y :: l', h, i, a, hi, hw => by
    have h : bc (eqW1 x y) (eqW l l') false = true := h
    cases hx : eqW1 x y with
    | false => rw [hx] at h; cases h
    | true =>
      rw [hx, bc_true] at h
      cases i with
      | zero => simp at hi; subst hi; simp [eqW1_spec hx hw]
      | succ i => simpa using eqW_spec h i a (by simpa using hi) hw
theorem watch1_spec {h : H} {b : Nat} {q : List (Nat × List AV)} (hq : ∀ p ∈ q, ∃ fl, h.get p.1 = .cells fl p.2) : ∀ p ∈ watch1 h b q, ∃ fl, h.get p.1 = .cells fl p.2 := by
  unfold watch1
  cases hb : h.get b with
  | dead => exact hq
  | map es c => exact hq
  | cells fl l => intro p hp; rcases List.mem_cons.1 hp with rfl | hp; exact ⟨fl, hb⟩; exact hq p hp
theorem watch_spec {h : H} : ∀ (xs : List AV), ∀ p ∈ watch h xs, ∃ fl, h.get p.1 = .cells fl p.2
  | [] => fun p hp => by cases hp
  | x :: xs => by
    have ih := watch_spec (h := h) xs
    show ∀ p ∈ x.onSl (x.onPtr (watch h xs) fun b _ => watch1 h b (watch h xs)) (fun _ => watch h xs) (fun b _ _ _ => watch1 h b (watch h xs)) (fun b _ _ _ => watch1 h b (watch h xs)), _
    cases x using AV.casesE <;> first | exact ih | exact watch1_spec ih
theorem watchP_spec {h : H} : ∀ (xs : List AV), ∀ p ∈ watchP h xs, ∃ fl, h.get p.1 = .cells fl p.2
  | [] => fun p hp => by cases hp
  | x :: xs => by
    have ih := watchP_spec (h := h) xs
    show ∀ p ∈ x.onPtr (watchP h xs) fun b _ => watch1 h b (watchP h xs), _
    cases x using AV.casesE <;> first | exact ih | exact watch1_spec ih
theorem mem_appW {p : Nat × List AV} : ∀ {a b : List (Nat × List AV)}, p ∈ appW a b → p ∈ a ∨ p ∈ b
  | [], b, h => .inr h
  | q :: a, b, h => by
    have h : p ∈ q :: appW a b := h
    rcases List.mem_cons.1 h with rfl | h
    · exact .inl (List.mem_cons_self ..)
    · exact (mem_appW h).imp (List.mem_cons_of_mem _) id
theorem watchN_spec {h : H} : ∀ (n : Nat) (xs : List AV), ∀ p ∈ watchN h n xs, ∃ fl, h.get p.1 = .cells fl p.2
  | 0, xs => watchP_spec xs
  | n + 1, xs => by
    show ∀ p ∈ @List.rec (Nat × List AV) (fun _ => List (Nat × List AV)) [] (fun p _ r => p :: appW (watchN h n p.2) r) (watchP h xs), _
    have key : ∀ (l : List (Nat × List AV)), (∀ p ∈ l, ∃ fl, h.get p.1 = .cells fl p.2) → ∀ p ∈ @List.rec (Nat × List AV) (fun _ => List (Nat × List AV)) [] (fun p _ r => p :: appW (watchN h n p.2) r) l, ∃ fl, h.get p.1 = .cells fl p.2 := by
      intro l
      induction l with
      | nil => intro _ p hp; cases hp
      | cons q l ih =>
        intro hl p hp
        have hp : p ∈ q :: appW (watchN h n q.2) (@List.rec (Nat × List AV) (fun _ => List (Nat × List AV)) [] (fun p _ r => p :: appW (watchN h n p.2) r) l) := hp
        rcases List.mem_cons.1 hp with rfl | hp
        · exact hl _ (List.mem_cons_self ..)
        · rcases mem_appW hp with hp | hp
          · exact watchN_spec n q.2 p hp
          · exact ih (fun p hp => hl p (List.mem_cons_of_mem _ hp)) p hp
    exact key _ (watchP_spec xs)
theorem okW_spec {h : H} : ∀ {Ws : List (Nat × List AV)}, okW Ws h = true → ∀ p ∈ Ws, ∃ fl l, h.get p.1 = .cells fl l ∧ eqW p.2 l = true
  | [], _, p, hp => by cases hp
  | q :: Ws, h0, p, hp => by
    have h0 : bc (@Blk.rec (fun _ => Bool) false (fun _ l => eqW q.2 l) (fun _ _ => false) (h.get q.1)) (okW Ws h) false = true := h0
    cases hb : h.get q.1 with
    | dead => rw [hb] at h0; cases h0
    | map es c => rw [hb] at h0; cases h0
    | cells fl l =>
      rw [hb] at h0
      have h0 : bc (eqW q.2 l) (okW Ws h) false = true := h0
      cases he : eqW q.2 l with
      | false => rw [he] at h0; cases h0
      | true =>
        rw [he, bc_true] at h0
        rcases List.mem_cons.1 hp with rfl | hp
        · exact ⟨fl, l, hb, he⟩
        · exact okW_spec h0 p hp
theorem findW_some {α : Type} {b : Nat} {g : List AV → Option α} {r : α} : ∀ {Ws : List (Nat × List AV)}, findW Ws b g = some r → ∃ l, (b, l) ∈ Ws ∧ g l = some r
  | [], h => by cases h
  | (c, l) :: Ws, h => by
    have h : bc (Nat.beq c b) (g l) (findW Ws b g) = some r := h
    cases hb : Nat.beq c b with
    | true => rw [hb, bc_true] at h; rw [Nat.eq_of_beq_eq_true hb]; exact ⟨l, List.mem_cons_self .., h⟩
    | false => rw [hb, bc_false] at h; obtain ⟨l', h1, h2⟩ := findW_some h; exact ⟨l', List.mem_cons_of_mem _ h1, h2⟩
theorem wat_back {a : AV} {ι ι' : Inj} {v v' : Value} (h : wat a = true) (hle : ι.le ι') (h0 : VR ι a v) (h1 : VR ι' a v') : v' = v := by
  cases a <;> try (cases h; done)
  case int k n => rw [h0.int, h1.int]
  case bool b => rw [h0.bool, h1.bool]
  case ptr b o =>
    obtain ⟨B, base, sz, ib, ex⟩ := h0.ptr
    obtain ⟨B', base', sz', ib', ex'⟩ := h1.ptr
    rw [hle _ _ ib] at ib'; cases ib'
    rw [ex, ex']
  case leaf l =>
    cases l <;> try (cases h; done)
    rw [h0.nilp, h1.nilp]
theorem wat_one {a : AV} {ι : Inj} {v v' : Value} (h : wat a = true) (h1 : VR ι a v) (h2 : VR ι a v') : v = v' := (wat_back h (.refl _) h1 h2).symm

/-- What is watched lies as it lay. -/
def SW (ι0 : Inj) (Ws : List (Nat × List AV)) (w : World) : Prop := ∀ p ∈ Ws, ∀ B o sz, ι0 p.1 = some (B, o, sz) →
  ∃ c e fr, w.heap[B]? = some (.cells c e fr) ∧ ∀ (i : Nat) a, p.2[i]? = some a → wat a = true → ∃ v, c[o + i]? = some v ∧ VR ι0 a v
def Adm.watch (ι0 : Inj) (Ws : List (Nat × List AV)) : Adm := ⟨SW ι0 Ws, fun w w' hs hb p hp B o sz e => by
  obtain ⟨c, t, fr, h1, h2⟩ := hs p hp B o sz e
  have hlt : B < w.heap.size := (Array.getElem?_eq_some_iff.1 h1).1
  exact ⟨c, t, fr, (hb.block B hlt).trans h1, h2⟩⟩
theorem SW.of {ι0 ι : Inj} {Ws : List (Nat × List AV)} {h : H} {w : World} (hr : Rel ι h w) (hle : ι0.le ι) (hv : ∀ p ∈ Ws, ∀ (i : Nat) a, p.2[i]? = some a → ∃ v, VR ι0 a v) (ho : ∀ p ∈ Ws, ∃ fl l, h.get p.1 = .cells fl l ∧ eqW p.2 l = true) : SW ι0 Ws w := fun p hp B o sz e => by
  obtain ⟨fl, l, hb, he⟩ := ho p hp
  obtain ⟨B', o', s', e', hR⟩ := hr.blk p.1 (by rw [hb]; simp)
  rw [hle _ _ e] at e'; cases e'
  rw [hb] at hR
  obtain ⟨c, t, lo, hi, h1, h2, h3, _⟩ := hR
  refine ⟨c, t, (lo, hi), h1, fun i a hi hw => ?_⟩
  obtain ⟨v, g1, g2⟩ := h3 i a (eqW_spec he i a hi hw)
  obtain ⟨v0, h0⟩ := hv p hp i a hi
  exact ⟨v, g1, by rw [wat_back hw hle h0 g2]; exact h0⟩
theorem SW.vals {ι0 : Inj} {h0 : H} {w0 : World} (hr : Rel ι0 h0 w0) {Ws : List (Nat × List AV)} (hW : ∀ p ∈ Ws, ∃ fl, h0.get p.1 = .cells fl p.2) : ∀ p ∈ Ws, ∀ (i : Nat) a, p.2[i]? = some a → ∃ v, VR ι0 a v := fun p hp i a hi => by
  obtain ⟨fl, hb⟩ := hW p hp
  obtain ⟨B, o, s, e, hR⟩ := hr.blk p.1 (by rw [hb]; simp)
  rw [hb] at hR
  obtain ⟨c, t, lo, hi', h1, h2, h3, _⟩ := hR
  obtain ⟨v, _, g⟩ := h3 i a hi
  exact ⟨v, g⟩
theorem eqW_self : ∀ (l : List AV), eqW l l = true
  | [] => rfl
  | a :: l => by
    have h1 : eqW1 a a = true := by
      cases a <;> first | rfl | skip
      · show bc (Nat.beq _ _) (ieq _ _) false = true
        rw [Nat.beq_refl, bc_true, ieq_eq]; simp
      · rename_i b; cases b <;> rfl
      · show bc (Nat.beq _ _) (Nat.beq _ _) false = true
        rw [Nat.beq_refl, bc_true, Nat.beq_refl]
      · rename_i l; cases l <;> rfl
    show bc (eqW1 a a) (eqW l l) false = true
    rw [h1, bc_true]; exact eqW_self l

theorem DxSound.three (hΓ : Sound P Γ) {ι0 : Inj} {h0 : H} {w0 : World} (hr : Rel ι0 h0 w0) {Ws : List (Nat × List AV)} (hW : ∀ p ∈ Ws, ∃ fl, h0.get p.1 = .cells fl p.2) :
    DxSound (Adm.watch ι0 Ws) P ops N ι0 h0 w0 r (dOpX3 P Γ Ws) (cls3 P) := by
  intro o ι h a w U st k hR hS hw e K hk
  have rest : cls3 P o = clsOf P 2 o → (dOpX P Γ 2 o st h fun a h' => bc (okW Ws h') (k a h') none) = some r → step (Adm.watch ι0 Ws) P ops (cls3 P o) o K a w U := fun hc e => by
    rw [hc]
    refine dOpX_sound hΓ (.inr rfl) hr.lt hR hS rfl hw e (fun x w' U' ι' h' hK hk' => ?_) fun x v w' U' ι' h' hK hle hV hk' => ?_
    · obtain ⟨ho, _⟩ := bif_some hk'
      exact SW.of hK.rel hK.ext.le (SW.vals hr hW) (okW_spec ho)
    · obtain ⟨_, hk2⟩ := bif_some hk'
      exact hk x v w' U' ι' h' hK hle hV hk2
  unfold dOpX3 at e
  split at e
  · rename_i t x ho
    cases hwt : watT P t with
    | false =>
      rw [hwt] at e
      exact rest (by simp [cls3, ho, hwt]) e
    | true =>
    rw [hwt] at e
    have hc : cls3 P o = 0 := by simp [cls3, ho, hwt]
    have hag := watT_agg hwt
    rw [hc]
    unfold step
    rw [if_pos rfl]
    have hxv := hS.ev x
    have e : aLoadW Ws (ev st x) h k = some r := e
    generalize hX : ev st x = X at e hxv
    cases X using AV.casesE <;> try (cases e; done)
    rename_i b q
    obtain ⟨l, hl, e1⟩ := findW_some (show findW Ws b (fun l => onSome (nthO l q) fun a => bc (wat a) (k a h) none) = some r from e)
    obtain ⟨y, hy, e2⟩ := onSome_some e1
    obtain ⟨hyw, e3⟩ := bif_some e2
    rw [nthO_eq] at hy
    obtain ⟨fl, hb⟩ := hW _ hl
    obtain ⟨B, base, sz, ib0, hBR⟩ := hr.blk b (by rw [hb]; simp)
    rw [hb] at hBR
    obtain ⟨c0, t0, lo, hi, g1, g2, g3, _⟩ := hBR
    obtain ⟨v, v1, v2⟩ := g3 q y hy
    obtain ⟨B', base', sz', ib, ex⟩ := hxv.ptr
    rw [hR.ext.le _ _ ib0] at ib; cases ib
    refine ⟨v, .inl ⟨hw, fun w' hs => ?_⟩, hk y v w U ι h hR (.refl _) (v2.mono hR.ext.le) e3⟩
    obtain ⟨c, t1, fr, k1, k2⟩ := hs _ hl B base sz ib0
    obtain ⟨v', k3, k4⟩ := k2 q y hy hyw
    obtain rfl := wat_one hyw v2 k4
    obtain ⟨lo', hi'⟩ := fr
    have hcell : w'.cell? ⟨B, base + q, none⟩ = some v := by rw [cell_row k1]; exact k3
    simp [execOp, ho, ex, Instr.loadAt, Instr.sureAddr, loadVar, run_isAggT hag, hcell]
  · rename_i hno
    refine rest ?_ e
    unfold cls3; split
    · rename_i t x ho; exact absurd ho (hno t x)
    · rfl
end

theorem Post.trans {ι ι' : Inj} {h h' : H} {a a' : Act} {w w' : World} {N : Nat} {kn : K} {ke : Nat → K} {kr : K} {r : R} (hE : Ext ι h w ι' h' w') (hd : a'.defers = a.defers) {e : Exit} {b : Act} {v : World}
    (hp : Post ι' h' a' w' N kn ke kr r e b v) : Post ι h a w N kn ke kr r e b v := by
  obtain ⟨ι2, st2, h2, e1, e2, e3, e4, e5⟩ := hp
  exact ⟨ι2, st2, h2, hE.trans e1, e2, e3, e4.trans hd, e5⟩

theorem wpList_region {ops : Array Oper} {id : Nat} {Q : Exit → Act → World → Prop} {a : Act} {w : World} (h : wpList P ops Q ops.toList a w) : (Code.region id ops false).wp P Q a w := by
  refine wp_region ?_
  have := wpOps_eq_wpList (P := P) (Q := Q) (ops := ops) ops.toList 0 (fun j => by simp)
  rw [Array.length_toList] at this
  rw [List.range_eq_range', this]; exact h

/-! ### Blocks that no operation writes -/
section
variable {Γ : Env} {ops : Array Oper} {N : Nat} {r : R}
def Lies (ι0 : Inj) (Ws : List (Nat × List AV)) (w0 w : World) : Prop := ∀ p ∈ Ws, ∀ B o sz, ι0 p.1 = some (B, o, sz) → ∃ X, w0.heap[B]? = some X ∧ w.heap[B]? = some X
def Adm.lies (ι0 : Inj) (Ws : List (Nat × List AV)) (w0 : World) : Adm := ⟨Lies ι0 Ws w0, fun w w' hs hb p hp B o sz e => by
  obtain ⟨X, h1, h2⟩ := hs p hp B o sz e
  exact ⟨X, h1, (hb.block B (Array.getElem?_eq_some_iff.1 h2).1).trans h2⟩⟩
theorem lies_one {ι0 : Inj} {h0 : H} {w0 : World} (hr : Rel ι0 h0 w0) {b fl : Nat} {l : List AV} (hb : h0.get b = .cells fl l) {ι : Inj} {h : H} {w : World} (hE : Ext ι0 h0.mark w0 ι h w) (hlo : b < h.lo) {B o sz : Nat} (e : ι0 b = some (B, o, sz)) : w.heap[B]? = w0.heap[B]? := by
  by_cases ho : (h0.get b).own
  · exact hE.keepW b B o sz hlo (hr.fresh _ _ e) ho e
  · refine hE.block B (hr.lt _ _ _ _ e) fun ⟨c, q, z, ec, hc⟩ => ?_
    have := hr.inj c b B q z o sz hc (by rw [hb]; simp) ec e
    subst this; exact ho hc
theorem okL_spec {h : H} : ∀ {Ws : List (Nat × List AV)}, okL Ws h = true → ∀ p ∈ Ws, p.1 < h.lo
  | [], _, p, hp => by cases hp
  | q :: Ws, h0, p, hp => by
    have h0 : bc (Nat.ble (Nat.succ q.1) h.lo) (okL Ws h) false = true := h0
    cases hb : Nat.ble (Nat.succ q.1) h.lo with
    | false => rw [hb] at h0; cases h0
    | true =>
      rw [hb, bc_true] at h0
      rcases List.mem_cons.1 hp with rfl | hp
      · exact Nat.le_of_ble_eq_true hb
      · exact okL_spec h0 p hp
theorem Lies.of {ι0 : Inj} {h0 : H} {w0 : World} (hr : Rel ι0 h0 w0) {Ws : List (Nat × List AV)} (hW : ∀ p ∈ Ws, ∃ fl, h0.get p.1 = .cells fl p.2) {ι : Inj} {h : H} {w : World} (hE : Ext ι0 h0.mark w0 ι h w) (ho : ∀ p ∈ Ws, p.1 < h.lo) : Lies ι0 Ws w0 w := fun p hp B o sz e => by
  obtain ⟨fl, hb⟩ := hW p hp
  have hlt := hr.lt _ _ _ _ e
  exact ⟨_, Array.getElem?_eq_some_iff.2 ⟨hlt, rfl⟩, by rw [lies_one hr hb hE (ho p hp) e]; exact Array.getElem?_eq_some_iff.2 ⟨hlt, rfl⟩⟩
theorem DxSound.four (hΓ : Sound P Γ) {ι0 : Inj} {h0 : H} {w0 : World} (hr : Rel ι0 h0 w0) {Ws : List (Nat × List AV)} (hW : ∀ p ∈ Ws, ∃ fl, h0.get p.1 = .cells fl p.2) :
    DxSound (Adm.lies ι0 Ws w0) P ops N ι0 h0.mark w0 r (dOpX4 P Γ Ws) (cls4 P) := by
  intro o ι h a w U st k hR hS hw e K hk
  unfold dOpX4 at e
  -- what lies there, in every world that is sure
  have same : ∀ {b q : Nat} {x : Operand} {g : List AV → Option R}, VR ι (.ptr b q) (a.eval x) → Nat.ble (Nat.succ b) h.lo = true → findW Ws b g = some r → ∃ l B base sz, ι b = some (B, base, sz) ∧ g l = some r ∧ a.eval x = .pointer (some ⟨B, base + q, none⟩) ∧ B < w.heap.size ∧ ∀ w', Lies ι0 Ws w0 w' → w'.heap[B]? = w.heap[B]? := by
    intro b q x g hv hlo hf
    obtain ⟨l, hl, e1⟩ := findW_some hf
    obtain ⟨fl, hb⟩ := hW _ hl
    obtain ⟨B, base, sz, ib0, hBR⟩ := hr.blk b (by rw [hb]; simp)
    obtain ⟨B', base', sz', ib, ex⟩ := hv.ptr
    have ib1 := hR.ext.le _ _ ib0
    rw [ib1] at ib; cases ib
    refine ⟨l, B, base, sz, ib1, e1, ex, hR.rel.lt _ _ _ _ ib1, fun w' hs => ?_⟩
    obtain ⟨X, k1, k2⟩ := hs _ hl B base sz ib0
    rw [k2, lies_one hr hb hR.ext (Nat.le_of_ble_eq_true hlo) ib0, k1]
  split at e
  · rename_i t x ho
    have hc : cls4 P o = 0 := by simp [cls4, ho]
    rw [hc]
    unfold step
    rw [if_pos rfl]
    have hxv := hS.ev x
    split at e
    · rename_i hag
      split at e
      case h_2 => cases e
      rename_i n hs
      generalize hX : ev st x = X at e hxv
      cases X using AV.casesE <;> try (cases e; done)
      rename_i b q
      obtain ⟨hlo, e1⟩ := bif_some (show bc (Nat.ble (Nat.succ b) h.lo) (findW Ws b fun _ => aLoadN n (.ptr b q) h k) none = some r from e)
      obtain ⟨l, B, base, sz, ib, e2, ex, hlt, hsame⟩ := same hxv hlo e1
      obtain ⟨b', q', hp, e3⟩ := withPtr_some e2
      cases hp
      obtain ⟨fl, l, hb, e4⟩ := withCells_some e3
      rw [lenL_eq, AV.ofL_eq, takeL_eq, dropL_eq] at e4
      obtain ⟨hl, e5⟩ := bif_some e4
      have hl := Nat.eq_of_beq_eq_true hl
      obtain ⟨c, ty, lo, hi, hh, _, hcc, _⟩ := hR.rel.cells hb ib
      obtain ⟨vs, h1, h2, h3⟩ := hcc.list q n hl
      refine ⟨.agg vs.toArray, .inl ⟨hw, fun w' hs' => ?_⟩, hk _ _ w U ι h hR (.refl _) (show VR ι (.agg (AV.ofList ((l.drop q).take n))) _ from ⟨vs.toArray, rfl, by simpa using VX.of_list h2⟩) e5⟩
      have hrun := run_loadRow P ((hsame w' hs').trans hh) (base + q) vs (fun j v hj => by have := h3 j v hj; exact this)
      rw [h1] at hrun
      simp [execOp, ho, ex, Instr.loadAt, Instr.sureAddr, loadVar, run_isAggT hag, run_sizeT hs, hrun]
    · rename_i hag
      generalize hX : ev st x = X at e hxv
      cases X using AV.casesE <;> try (cases e; done)
      rename_i b q
      obtain ⟨hlo, e1⟩ := bif_some (show bc (Nat.ble (Nat.succ b) h.lo) (findW Ws b fun _ => aLoad (.ptr b q) h k) none = some r from e)
      obtain ⟨l, B, base, sz, ib, e2, ex, hlt, hsame⟩ := same hxv hlo e1
      obtain ⟨b', q', hp, e3⟩ := withPtr_some e2
      cases hp
      obtain ⟨fl, l, hb, e4⟩ := withCells_some e3
      obtain ⟨y, hy, e5⟩ := onSome_some e4
      rw [nthO_eq] at hy
      obtain ⟨c, ty, lo, hi, hh, _, hcc, _⟩ := hR.rel.cells hb ib
      obtain ⟨v, hv, hV⟩ := hcc q y hy
      refine ⟨v, .inl ⟨hw, fun w' hs' => ?_⟩, hk y v w U ι h hR (.refl _) hV e5⟩
      have hcell : w'.cell? ⟨B, base + q, none⟩ = some v := by rw [cell_row ((hsame w' hs').trans hh)]; exact hv
      simp [execOp, ho, ex, Instr.loadAt, Instr.sureAddr, loadVar, run_isAggT hag, hcell]
    · cases e
  · rename_i hno
    have hc : cls4 P o = clsOf P 2 o := by
      unfold cls4; split
      · rename_i t x ho; exact absurd ho (hno t x)
      · rfl
    rw [hc]
    refine dOpX_sound hΓ (.inr rfl) (fun b C q z e => hr.lt b C q z e) hR hS rfl hw e (fun x w' U' ι' h' hK hk' => ?_) fun x v w' U' ι' h' hK hle hV hk' => ?_
    · obtain ⟨ho, _⟩ := bif_some hk'
      exact Lies.of hr hW hK.ext (okL_spec ho)
    · obtain ⟨_, hk2⟩ := bif_some hk'
      exact hk x v w' U' ι' h' hK hle hV hk2
theorem dOpsL_sound {S : Adm} {dx : DX} {cl : Oper → Nat} {cls : Nat → Nat} (Q : Act → World → Prop) (ι0 : Inj) (h0 : H) (a0 : Act) (w0 : World) (hdx : DxSound S P ops N ι0 h0 w0 r dx cl) (hcls : ∀ i o, ops[i]? = some o → cls i = cl o) (kn : K)
    (hQ : ∀ ι st h a w U, Known ι0 h0 w0 ι h w U → a.defers = a0.defers → StR ι N st a → kn st h = some r → Q a w) :
    ∀ (l : List Nat) (ι : Inj) (st : St) (h : H) (a : Act) (w : World) (U : Nat → Prop), Known ι0 h0 w0 ι h w U → a.defers = a0.defers → StR ι N st a → dOpsL N dx ops l st h kn = some r → wpL S P ops cls Q l a w U := by
  intro l
  induction l with
  | nil => intro ι st h a w U hR hd hS e; exact hQ ι st h a w U hR hd hS e
  | cons i l ih =>
    intro ι st h a w U hR hd hS e
    simp only [dOpsL] at e
    split at e
    case h_2 => cases e
    rename_i o ho
    split at e
    case h_2 => cases e
    rename_i hg
    refine ⟨o, ho, ?_⟩
    have hst := fun K hk => hdx o ι h a w U st _ hR hS (by simp [Region.wanted, hg]) e K hk
    rw [← hcls i o ho] at hst
    refine hst _ fun x v w' U' ι' h' hR' hle hV hk _ => ?_
    obtain ⟨st', hk', hput⟩ := putO_some hk
    exact ih ι' st' h' _ w' U' hR' ((put_defers _ _ _).trans hd) (hput (hS.mono hle) hV) hk'
theorem Ext.unmark {ι ι' : Inj} {h h' : H} {w w' : World} (e : Ext ι h.mark w ι' h' w') : Ext ι h w ι' (h'.unmark h.lo) w' where
  le := e.le
  os := e.os
  tape := e.tape
  output := e.output
  size := e.size
  block := e.block
  own := e.own
  num := e.num
  lo := (minN_le _ _).2
  keep := fun b h1 h2 => e.keep b (Nat.lt_of_lt_of_le h1 (minN_le _ _).1) h2
  keepW := fun b B o s h1 h2 h3 h4 => e.keepW b B o s (Nat.lt_of_lt_of_le h1 (minN_le _ _).1) h2 h3 h4
  dom := e.dom
theorem Rel.unmark {ι : Inj} {h : H} {w : World} (r : Rel ι h w) (lo : Nat) : Rel ι (h.unmark lo) w := ⟨r.fresh, r.lt, r.inj, r.blk, r.pin⟩
theorem region4_sound (hΓ : Sound P Γ) {id : Nat} {an : An} {st : St} {h : H} {kn : K} {ke : Nat → K} {kr : K} {ι : Inj} {a : Act} {w : World} (hm : P.follows .mixedOrders = true) (hR : Rel ι h w) (hS : StR ι N st a)
    (e : region4 P Γ N ops an st h kn = some r) : (Code.region id ops true).wp P (Post ι h a w N kn ke kr r) a w := by
  unfold region4 at e
  split at e
  case h_2 => cases e
  rename_i l hl
  obtain ⟨hB, e⟩ := bif_some e
  generalize hWs : watchP h ((watOps4 ops.toList).map (ev st)) = Ws at e
  have hW : ∀ p ∈ Ws, ∃ fl, h.get p.1 = .cells fl p.2 := by subst hWs; exact watchP_spec _
  refine wp_region_L (S := Adm.lies ι Ws w) _ hm hB ?_ ?_
  · refine Lies.of (h := h.mark) (ι := ι) hR hW (Ext.drew ι h.mark w) fun p hp => ?_
    obtain ⟨fl, hb⟩ := hW p hp
    obtain ⟨B, o, s, e0, _⟩ := hR.blk p.1 (by rw [hb]; simp)
    exact hR.fresh _ _ e0
  · exact dOpsL_sound _ ι h.mark a w (DxSound.four hΓ hR hW) (fun i o ho => by unfold clsAt4; rw [ho]) _
      (fun ι' st' h' a' w' U' hK hd hS' hk => ⟨ι', st', h'.unmark h.lo, hK.ext.unmark, hK.rel.unmark _, hS', hd, hk⟩) l ι st h.mark a _ (fun _ => False)
      ⟨Ext.drew ι h.mark w, hR.mark.drew, fun _ _ _ _ _ h => h, fun _ h => h.elim, fun _ h => h.elim⟩ rfl hS e
end

theorem den_sound {Γ : Env} {N F : Nat} (hΓ : Sound P Γ) : ∀ (c : Code) (an : An) (st : St) (h : H) (kn : K) (ke : Nat → K) (kr : K) (r : R), den P Γ N F c an st h kn ke kr = some r →
    ∀ (ι : Inj) (a : Act) (w : World), Rel ι h w → StR ι N st a → c.wp P (Post ι h a w N kn ke kr r) a w := by
  intro c
  induction c with
  | skip =>
    intro an st h kn ke kr r e ι a w hR hS
    exact wp_skip ⟨ι, st, h, .refl _ _ _, hR, hS, rfl, e⟩
  | region id ops draw =>
    intro an st h kn ke kr r e ι a w hR hS
    cases draw with
    | true =>
      obtain ⟨hm, e⟩ := bif_some (c := P.follows .mixedOrders) e
      have go : ∀ m, (m = 1 ∨ m = 2) → lexX .any ops (clsAt P m ops) = true → dOpsX N (dOpX P Γ m) ops.toList ops.toList.length an ops.toList st h kn = some r → (Code.region id ops true).wp P (Post ι h a w N kn ke kr r) a w := fun m hm1 hB e => by
        refine wp_region_X (S := Adm.all) _ hm hB trivial ?_
        exact dOpsX_sound rfl _ ι h a w (DxSound.one hΓ hm1 hR.lt) (fun i o ho => by unfold clsAt; rw [ho]) kn (fun ι' st' h' a' w' U' hK hd hS' hk => ⟨ι', st', h', hK.ext, hK.rel, hS', hd, hk⟩) _ _ _ 0 ι st h a _ (fun _ => False) (by simp) ⟨Ext.drew ι h w, hR.drew, fun _ _ _ _ _ h => h, fun _ h => h.elim, fun _ h => h.elim⟩ rfl hS e
      cases hB2 : lexX .any ops (clsAt P 2 ops) with
      | true => rw [hB2, bc_true] at e; exact go 2 (.inr rfl) hB2 e
      | false =>
        rw [hB2, bc_false] at e
        cases hB3 : use3 P ops with
        | true =>
          rw [hB3, bc_true] at e
          have hB3' : lexX .any ops (clsAt3 P ops) = true := by
            unfold use3 at hB3
            simp only [Bool.and_eq_true] at hB3
            exact hB3.1.2
          obtain ⟨Ws, hWs, hW⟩ : ∃ Ws, (bif intLoads P ops.toList then watch h ((watOps ops.toList).map (ev st)) else watchN h 2 ((watOpsL ops.toList).map (ev st))) = Ws ∧ ∀ p ∈ Ws, ∃ fl, h.get p.1 = .cells fl p.2 := by
            refine ⟨_, rfl, ?_⟩
            cases intLoads P ops.toList with
            | true => exact watch_spec _
            | false => rw [cond_false]; exact watchN_spec _ _
          rw [hWs] at e
          refine wp_region_X (S := Adm.watch ι Ws) _ hm hB3' ?_ ?_
          · exact SW.of hR.drew (.refl _) (SW.vals hR hW) fun p hp => by obtain ⟨fl, hb⟩ := hW p hp; exact ⟨fl, _, hb, eqW_self _⟩
          · exact dOpsX_sound rfl _ ι h a w (DxSound.three hΓ hR hW) (fun i o ho => by unfold clsAt3; rw [ho]) kn (fun ι' st' h' a' w' U' hK hd hS' hk => ⟨ι', st', h', hK.ext, hK.rel, hS', hd, hk⟩) _ _ _ 0 ι st h a _ (fun _ => False) (by simp) ⟨Ext.drew ι h w, hR.drew, fun _ _ _ _ _ h => h, fun _ h => h.elim, fun _ h => h.elim⟩ rfl hS e
        | false =>
          rw [hB3, bc_false] at e
          cases hB1 : use1 P ops with
          | true => rw [hB1, bc_true] at e; unfold use1 at hB1; simp only [Bool.and_eq_true] at hB1; exact go 1 (.inl rfl) hB1.1 e
          | false => rw [hB1, bc_false] at e; exact region4_sound hΓ hm hR hS e
    | false => exact wpList_region (dOps_sound hΓ rfl _ _ _ _ _ _ _ _ _ _ _ _ (Ext.refl _ _ _) rfl hR hS e)
  | seq x y ihx ihy =>
    intro an st h kn ke kr r e ι a w hR hS
    refine wp_seq ?_
    simp only [den] at e
    split at e
    · refine wp_mono (ihx _ _ _ _ _ _ _ e ι a w hR hS) fun ex a1 w1 hp => ?_
      obtain ⟨ι1, st1, h1, hE, hR1, hS1, hd, hk⟩ := hp
      cases ex with
      | normal =>
        exact wp_mono (ihy _ _ _ _ _ _ _ hk ι1 a1 w1 hR1 hS1) fun ex2 a2 w2 hp2 => Post.trans hE hd hp2
      | exit i => exact ⟨ι1, st1, h1, hE, hR1, hS1, hd, hk⟩
      | ret => exact ⟨ι1, st1, h1, hE, hR1, hS1, hd, hk⟩
      | goto l => exact hk.elim
      | panic c => exact hk.elim
      | outgrown => exact hk.elim
    · refine wp_mono (ihx _ _ _ _ _ _ _ e ι a w hR hS) fun ex a1 w1 hp => ?_
      obtain ⟨ι1, st1, h1, hE, hR1, hS1, hd, hk⟩ := hp
      cases ex with
      | normal =>
        exact wp_mono (ihy _ _ _ _ _ _ _ hk ι1 a1 w1 hR1 (get_map_mkSt hS1 _)) fun ex2 a2 w2 hp2 => Post.trans hE hd hp2
      | exit i => exact ⟨ι1, st1, h1, hE, hR1, hS1, hd, hk⟩
      | ret => exact ⟨ι1, st1, h1, hE, hR1, hS1, hd, hk⟩
      | goto l => exact hk.elim
      | panic c => exact hk.elim
      | outgrown => exact hk.elim
  | cond c x y ihx ihy =>
    intro an st h kn ke kr r e ι a w hR hS
    obtain ⟨t, ht, e1⟩ := withBool_some e
    have hv := hS.ev c
    rw [ht] at hv
    cases t with
    | true => exact wp_cond_true hv.bool (ihx _ _ _ _ _ _ _ e1 ι a w hR hS)
    | false => exact wp_cond_false hv.bool (ihy _ _ _ _ _ _ _ e1 ι a w hR hS)
  | block id x ih =>
    intro an st h kn ke kr r e ι a w hR hS
    refine wp_block (wp_mono (ih _ _ _ _ _ _ _ e ι a w hR hS) fun ex a1 w1 hp => ?_)
    obtain ⟨ι1, st1, h1, hE, hR1, hS1, hd, hk⟩ := hp
    cases ex with
    | normal => exact ⟨ι1, st1, h1, hE, hR1, hS1, hd, hk⟩
    | exit i =>
      simp only [Exit.inBlock]
      by_cases hi : i = id
      · subst hi
        rw [if_pos rfl]
        simp only [Nat.beq_refl, bc_true] at hk
        exact ⟨ι1, st1, h1, hE, hR1, hS1, hd, hk⟩
      · rw [if_neg hi]
        have : Nat.beq i id = false := by rw [beq_decide]; simpa using hi
        simp only [this, bc_false] at hk
        exact ⟨ι1, st1, h1, hE, hR1, hS1, hd, hk⟩
    | ret => exact ⟨ι1, st1, h1, hE, hR1, hS1, hd, hk⟩
    | goto l => exact hk.elim
    | panic c => exact hk.elim
    | outgrown => exact hk.elim
  | loop x ih =>
    intro an st h kn ke kr r e ι a w hR hS
    simp only [den] at e
    split at e
    case h_1 => cases e
    rename_i ks hks
    -- the rounds that are left
    have key : ∀ (b : Frame) (k : List Item) (cs : List Frame) (n : Nat) (a' : Act) (w' : World) (ι' : Inj) (vs : List AV) (h' : H),
        loopD n (fun vs h kc => den P Γ N F x an.l (mkSt ks vs) h (fun st h => kc (ks.map (get st)) h) ke kr) vs h' = some r →
        Ext ι h w ι' h' w' → Rel ι' h' w' → StR ι' N (mkSt ks vs) a' → a'.defers = a.defers →
        ∃ e a2 w2, Post ι h a w N kn ke kr r e a2 w2 ∧ Arrives P (lone (b.at a' (.code x :: .inLoop x :: k)) cs w') b k cs e a2 w2 := by
      intro b k cs n
      induction n with
      | zero => intro a' w' ι' vs h' e'; cases e'
      | succ n ihn =>
        intro a' w' ι' vs h' e' hE hR' hS' hd'
        rw [loopD_succ] at e'
        have hx := ih _ _ _ _ _ _ _ e' ι' a' w' hR' hS'
        obtain ⟨ex, a1, w1, hp, harr⟩ := hx b (.inLoop x :: k) cs
        obtain ⟨ι1, st1, h1, hE1, hR1, hS1, hd1, hk⟩ := hp
        cases ex with
        | normal =>
          obtain ⟨e2, a2, w2, hq2, harr2⟩ := ihn a1 w1 ι1 _ h1 hk (hE.trans hE1) hR1 (get_map_mkSt hS1 _) (hd1.trans hd')
          exact ⟨e2, a2, w2, hq2, .of_steps (Steps.trans harr (.one step_inLoop)) harr2⟩
        | exit i => exact ⟨_, a1, w1, ⟨ι1, st1, h1, hE.trans hE1, hR1, hS1, hd1.trans hd', hk⟩, .pass (x := .inLoop x) rfl (fun _ _ => .inl (by simp)) harr⟩
        | ret => exact ⟨_, a1, w1, ⟨ι1, st1, h1, hE.trans hE1, hR1, hS1, hd1.trans hd', hk⟩, .pass (x := .inLoop x) rfl (fun _ _ => .inl (by simp)) harr⟩
        | goto l => exact hk.elim
        | panic c => exact hk.elim
        | outgrown => exact hk.elim
    intro b k cs
    obtain ⟨e2, a2, w2, hq, harr⟩ := key b k cs F a w ι _ h e (.refl _ _ _) hR (get_map_mkSt hS ks) rfl
    exact ⟨e2, a2, w2, hq, .of_steps (.one step_loop) harr⟩
  | rangeFunc f ps x y _ _ => intro an st h kn ke kr r e; cases e
  | exit id =>
    intro an st h kn ke kr r e ι a w hR hS
    exact wp_exit ⟨ι, st, h, .refl _ _ _, hR, hS, rfl, e⟩
  | scope x ih =>
    intro an st h kn ke kr r e ι a w hR hS
    refine wp_scope_straight (wp_mono (ih _ _ _ _ _ _ _ e ι a w hR hS) fun ex a1 w1 hp => ?_)
    cases ex with
    | goto l => obtain ⟨_, _, _, _, _, _, _, hk⟩ := hp; exact hk.elim
    | _ => exact hp
  | label l =>
    intro an st h kn ke kr r e ι a w hR hS
    exact wp_label ⟨ι, st, h, .refl _ _ _, hR, hS, rfl, e⟩
  | goto l => intro an st h kn ke kr r e; cases e
  | ret =>
    intro an st h kn ke kr r e ι a w hR hS
    exact wp_ret ⟨ι, st, h, .refl _ _ _, hR, hS, rfl, e⟩
  | refuse why => intro an st h kn ke kr r e; cases e

end
end Go.AI

/- A function's call, out of its body; and what a whole run gives for a law. -/
namespace Go.AI
noncomputable section
open Go Go.RowKit
set_option linter.unusedVariables false
set_option linter.unusedSimpArgs false
variable {P : Program}

def resA (ts : List Nat) (st : St) : AV := match ts with
  | [t] => get st t
  | ts => .tup (AV.ofList (ts.map (get st)))

def tmpsOf : List ResultVar → Option (List Nat)
  | [] => some []
  | .tmp t :: l => match tmpsOf l with | some ts => some (t :: ts) | none => none
  | _ => none

theorem tmpsOf_eq : ∀ {l : List ResultVar} {ts : List Nat}, tmpsOf l = some ts → l = ts.map ResultVar.tmp
  | [], ts, e => by cases e; rfl
  | .tmp t :: l, ts, e => by
    simp only [tmpsOf] at e
    split at e
    · rename_i ts' hts; cases e; rw [tmpsOf_eq hts]; rfl
    · cases e
  | .cell a t :: l, ts, e => by cases e

theorem run_tmps (tmps : Array Value) (w : World) (g : ResultVar → Sem Value) (hg : ∀ t, g (.tmp t) = pure (tmps.getD t undef)) : ∀ (ts : List Nat), ((ts.map ResultVar.tmp).mapM g).run P w = .ok (ts.map fun t => tmps.getD t undef) w
  | [] => by simp
  | t :: ts => by
    have ih := run_tmps tmps w g hg ts
    rw [List.map_cons, List.mapM_cons, hg]
    simp only [Sem.run_bind, Sem.run_pure, Result.andThen_ok, ih, List.map_cons]

def resV (tmps : Array Value) : List Nat → Value
  | [t] => tmps.getD t undef
  | ts => .tuple (ts.map fun t => tmps.getD t undef).toArray

theorem run_results {fn : Func} {ts : List Nat} {tmps : Array Value} {w : World} (h : tmpsOf fn.results.toList = some ts) : (results fn tmps).run P w =
    .ok (resV tmps ts) w := by
  have h1 := tmpsOf_eq h
  have e : fn.results = (ts.map ResultVar.tmp).toArray := array_of_list h1
  unfold results
  rw [Array.mapM_eq_mapM_toList, h1]
  simp only [Sem.run_bind, Sem.run_map]
  rw [run_tmps (P := P) tmps w _ (fun _ => rfl) ts]
  simp only [Result.andThen_ok, Sem.run_pure]
  congr 1
  match ts with
  | [] => rfl
  | [t] => rfl
  | t :: u :: ts => simp [resV]

theorem map_get_VL {ι : Inj} {N : Nat} {st : St} {a : Act} (hs : StR ι N st a) : ∀ (ts : List Nat), VL ι (ts.map (get st)) (ts.map fun t => a.tmps.getD t undef)
  | [] => .nil
  | t :: ts => .cons (hs.at_ t) (map_get_VL hs ts)

theorem resA_rel {ι : Inj} {N : Nat} {st : St} {a : Act} (hs : StR ι N st a) (ts : List Nat) : VR ι (resA ts st) (resV a.tmps ts) := by
  match ts with
  | [] => exact ⟨_, rfl, rfl⟩
  | [t] => exact hs.at_ _
  | t :: u :: ts => exact ⟨_, rfl, by simpa using VX.of_list (map_get_VL hs (t :: u :: ts))⟩

def mkInit : Nat → List AV → St
  | _, [] => []
  | i, a :: t => (i, a) :: mkInit (i + 1) t

theorem mkInit_rel {ι : Inj} {tmps : Array Value} : ∀ {as : List AV} {vs : List Value} (i : Nat), VL ι as vs → (∀ (j : Nat) v, vs[j]? = some v → tmps.getD (i + j) undef = v) → ∀ s, VR ι (get (mkInit i as) s) (tmps.getD s undef)
  | _, _, i, .nil, _, s => rfl
  | _, _, i, .cons (a := a) (v := v) hv hl, hg, s => by
    simp only [mkInit, get]
    cases hb : Nat.beq i s with
    | true =>
      have := Nat.eq_of_beq_eq_true hb
      subst this
      rw [cond_true, show tmps.getD i undef = v from by simpa using hg 0 v rfl]
      exact hv
    | false =>
      rw [cond_false]
      exact mkInit_rel (i + 1) hl (fun j u hj => by have := hg (j + 1) u (by simpa using hj); rw [show i + 1 + j = i + (j + 1) by omega]; exact this) s

def callD (P : Program) (Γ : Env) (N F : Nat) (c : Code) (ts : List Nat) (an : An) (args : List AV) (h : H) : Option R :=
  bc (Nat.ble args.length N) (den P Γ N F c an (mkInit 0 args) h (fun st h => some (resA ts st, h)) (fun _ _ _ => none) (fun st h => some (resA ts st, h))) none

theorem fn_sound {f : FuncId} {fn : Func} {c : Code} {ts : List Nat} {Γ : Env} {F N : Nat} {an : An} (hf : P.funcs[f]? = some fn) (hb : fn.body = some c) (hn : (fn.name == "runtime.NumGoroutine") = false) (ht : tmpsOf fn.results.toList = some ts) (hN : fn.ntmps = N)
    (hΓ : Sound P Γ) {args : List AV} {h : H} {r : R} (e : callD P Γ N F c ts an args h = some r) : Tri P f args h r := by
  refine ⟨⟨fn, hf, by rw [hb]; rfl, hn⟩, fun ι w vs hR hV => ?_⟩
  obtain ⟨hl, e1⟩ := bif_some e
  have hl := Nat.le_of_ble_eq_true hl
  have hlen := hV.length
  refine calls_of_wp hf hb ?_
  have hsize : vs.toArray.size = vs.length := by simp
  have hS : StR ι N (mkInit 0 args) { tmps := vs.toArray ++ Array.replicate (fn.ntmps - vs.toArray.size) undef, defers := [] } := by
    refine ⟨by simp; omega, mkInit_rel 0 hV fun j v hj => ?_⟩
    have hlt := (List.getElem?_eq_some_iff.1 hj).1
    rw [Array.getD_eq_getD_getElem?, Nat.zero_add, Array.getElem?_append_left (by simpa using hlt)]
    simp [hj]
  refine wp_mono (den_sound hΓ _ _ _ _ _ _ _ _ e1 ι _ w hR hS) fun ex a1 w1 hp => ?_
  obtain ⟨ι1, st1, h1, hE, hR1, hS1, hd, hk⟩ := hp
  have fin : some (resA ts st1, h1) = some r → bodyPost P fn (fun e w' => ∃ v ι', e = .returned v ∧ VR ι' r.1 v ∧ Ext ι h w ι' r.2 w' ∧ Rel ι' r.2 w') .ret a1 w1 := fun hk => by
    cases hk
    exact ⟨hd, _, run_results ht, _, ι1, rfl, resA_rel hS1 ts, hE, hR1⟩
  cases ex with
  | normal => exact fin hk
  | ret => exact fin hk
  | exit i => exact absurd hk (by simp)
  | goto l => exact hk.elim
  | panic c => exact hk.elim
  | outgrown => exact hk.elim

/-- A function whose one result is a struct or an array that lies in a variable of its own. -/
def finC (P : Program) (a : Nat) (t : TypeId) (st : St) (h : H) : Option R :=
  match isAggT P t with
  | some true => (match sizeT P t with | some n => aLoadN n (get st a) h (fun x h => some (x, h)) | none => none)
  | _ => none
def callC (P : Program) (Γ : Env) (N F : Nat) (c : Code) (a : Nat) (t : TypeId) (an : An) (args : List AV) (h : H) : Option R :=
  bc (Nat.ble args.length N) (den P Γ N F c an (mkInit 0 args) h (finC P a t) (fun _ _ _ => none) (finC P a t)) none

theorem finC_sound {a : Nat} {t : TypeId} {fn : Func} (hr : fn.results = #[.cell a t]) {ι : Inj} {h : H} {w : World} {N : Nat} {st : St} {ac : Act} {r : R} (hR : Rel ι h w) (hS : StR ι N st ac) (e : finC P a t st h = some r) :
    ∃ v, (results fn ac.tmps).run P w = .ok v w ∧ VR ι r.1 v ∧ r.2 = h := by
  unfold finC at e
  split at e
  case h_2 => cases e
  rename_i hA
  split at e
  case h_2 => cases e
  rename_i n hs
  obtain ⟨b, q, hb, e1⟩ := withPtr_some e
  obtain ⟨fl, l, hl, e2⟩ := withCells_some e1
  rw [lenL_eq, AV.ofL_eq, takeL_eq, dropL_eq] at e2
  obtain ⟨hn, e3⟩ := bif_some e2
  have hn := Nat.eq_of_beq_eq_true hn
  cases e3
  have hv := hS.at_ a
  rw [hb] at hv
  obtain ⟨B, base, sz, ib, ex⟩ := hv.ptr
  obtain ⟨c, ty, lo, hi, hh, _, hc, _⟩ := hR.cells hl ib
  obtain ⟨vs, h1, h2, h3⟩ := hc.list q n hn
  refine ⟨.agg vs.toArray, ?_, ⟨vs.toArray, rfl, by simpa using VX.of_list h2⟩, rfl⟩
  have hrun := run_loadRow P hh (base + q) vs (fun j v hj => by have := h3 j v hj; exact this)
  rw [h1] at hrun
  rw [Array.getD_eq_getD_getElem?] at ex
  simp [results, hr, ex, asAddr, loadVar, run_isAggT hA, run_sizeT hs, hrun]

theorem fn_sound_c {f : FuncId} {fn : Func} {c : Code} {a : Nat} {t : TypeId} {Γ : Env} {F N : Nat} {an : An} (hf : P.funcs[f]? = some fn) (hb : fn.body = some c) (hn : (fn.name == "runtime.NumGoroutine") = false) (ht : fn.results = #[.cell a t]) (hN : fn.ntmps = N)
    (hΓ : Sound P Γ) {args : List AV} {h : H} {r : R} (e : callC P Γ N F c a t an args h = some r) : Tri P f args h r := by
  refine ⟨⟨fn, hf, by rw [hb]; rfl, hn⟩, fun ι w vs hR hV => ?_⟩
  obtain ⟨hl, e1⟩ := bif_some e
  have hl := Nat.le_of_ble_eq_true hl
  have hlen := hV.length
  refine calls_of_wp hf hb ?_
  have hsize : vs.toArray.size = vs.length := by simp
  have hS : StR ι N (mkInit 0 args) { tmps := vs.toArray ++ Array.replicate (fn.ntmps - vs.toArray.size) undef, defers := [] } := by
    refine ⟨by simp; omega, mkInit_rel 0 hV fun j v hj => ?_⟩
    have hlt := (List.getElem?_eq_some_iff.1 hj).1
    rw [Array.getD_eq_getD_getElem?, Nat.zero_add, Array.getElem?_append_left (by simpa using hlt)]
    simp [hj]
  refine wp_mono (den_sound hΓ _ _ _ _ _ _ _ _ e1 ι _ w hR hS) fun ex a1 w1 hp => ?_
  obtain ⟨ι1, st1, h1, hE, hR1, hS1, hd, hk⟩ := hp
  have fin : finC P a t st1 h1 = some r → bodyPost P fn (fun e w' => ∃ v ι', e = .returned v ∧ VR ι' r.1 v ∧ Ext ι h w ι' r.2 w' ∧ Rel ι' r.2 w') .ret a1 w1 := fun hk => by
    obtain ⟨v, h2, h3, h4⟩ := finC_sound ht hR1 hS1 hk
    exact ⟨hd, _, h2, _, ι1, rfl, h3, h4 ▸ hE, h4 ▸ hR1⟩
  cases ex with
  | normal => exact fin hk
  | ret => exact fin hk
  | exit i => exact absurd hk (by simp)
  | goto l => exact hk.elim
  | panic c => exact hk.elim
  | outgrown => exact hk.elim

theorem Sound.none (P : Program) : Sound P (fun _ _ _ => Option.none) := fun _ _ _ _ e => by cases e

/-- One function more is known. -/
def Env.add (Γ : Env) (f : FuncId) (c : List AV → H → Option R) : Env := fun g args h => bc (Nat.beq g f) (c args h) (Γ g args h)

theorem Sound.add {Γ : Env} {f : FuncId} {c : List AV → H → Option R} (hΓ : Sound P Γ) (hc : ∀ args h r, c args h = some r → Tri P f args h r) : Sound P (Γ.add f c) := fun g args h r e => by
  unfold Env.add at e
  cases hb : Nat.beq g f with
  | true => rw [hb, bc_true] at e; have := Nat.eq_of_beq_eq_true hb; subst this; exact hc _ _ _ e
  | false => rw [hb, bc_false] at e; exact hΓ _ _ _ _ e

/-- The empty memory of the evaluator: nothing of what was there is known. -/
def H0 : H := ⟨0, .e, 0⟩
theorem Rel.empty (w : World) : Rel (fun _ => Option.none) H0 w where
  fresh := fun _ _ e => by cases e
  lt := fun _ _ _ _ e => by cases e
  inj := fun b _ _ _ _ _ _ hb => by exact hb.elim
  blk := fun b hb => by exact absurd rfl hb
  pin := fun b r e ⟨_, l, h⟩ => by cases h

theorem Ext.below {ι ι' : Inj} {h' : H} {w w' : World} (hE : Ext ι H0 w ι' h' w') : Below w.heap.size w w' :=
  ⟨hE.os, hE.tape, hE.output, hE.size, fun k hk => hE.block k hk fun ⟨b, o, s, e, ho⟩ => by exact ho.elim⟩

theorem Below.grown' {w w' : World} (hb : Below w.heap.size w w') (hf : ∀ a, w'.frozen? a = w.frozen? a) : Grown w w' := ⟨hb.frame _, hf, hb.size⟩

/-- A law over values that are no memory comes to true. -/
theorem law_true {f : FuncId} {args : List AV} {h : H} {vs : List Value} (T : Tri P f args H0 (.bool true, h)) (hv : VL (fun _ => Option.none) args vs) (w : World) :
    Calls P f vs.toArray w fun e w' => e = .returned (.bool true) ∧ Below w.heap.size w w' :=
  (T.run _ w vs (Rel.empty w) hv).mono fun e w' ⟨v, ι', he, hV, hE, _⟩ => ⟨by rw [he, hV.bool], hE.below⟩


/-- The memory of a call that begins with a package's variable (number 0) that holds a type's handle. -/
def Hp (r e : Nat) : H := ⟨1, .n .e (.cells (4 + (r * 65536 + e)) [.undef]) .e, 0⟩
def ιp (n : Nat) : Inj := fun b => if b = 0 then some (0, 0, n) else none
theorem Hp_get (r e b : Nat) : (Hp r e).get b = if b = 0 then .cells (4 + (r * 65536 + e)) [.undef] else .dead := by
  unfold Hp H.get
  cases b with
  | zero => rfl
  | succ b => rw [Tr.get_succ]; split <;> rfl
theorem Rel.pinned {r e : Nat} (he : e < 65536) {w : World} (hw : w.cell? ⟨0, 0, none⟩ = some (.iface (r % 65536) (.agg #[.pointer (some ⟨r / 65536, e, none⟩)]))) {c : Array Value} {el : TypeId} {fr : Nat × Nat} (heq : w.heap[0]? = some (.cells c el fr)) (hs : 0 < c.size) : Rel (ιp c.size) (Hp r e) w where
  fresh := fun b x h => by
    unfold ιp at h
    split at h
    · subst_vars; exact Nat.one_pos
    · cases h
  lt := fun b B o s h => by
    unfold ιp at h
    split at h
    · cases h
      rcases Nat.eq_zero_or_pos w.heap.size with h0 | h0
      · simp [World.cell?, h0] at hw
      · exact h0
    · cases h
  inj := fun b c B o s o' s' hb hc eb ec => by
    unfold ιp at eb ec
    split at eb
    · split at ec
      · omega
      · cases ec
    · cases eb
  blk := fun b hb => by
    rw [Hp_get] at hb ⊢
    by_cases h0 : b = 0
    · subst h0
      refine ⟨0, 0, c.size, rfl, ?_⟩
      rw [if_pos rfl]
      refine ⟨c, el, fr.1, fr.2, heq, rfl, fun i a hi => ?_, fun h => by omega, fun h => by omega⟩
      have hi0 : i = 0 := by
        rcases i with _ | i
        · rfl
        · simp at hi
      subst hi0
      simp at hi
      subst hi
      exact ⟨c[0]'(by omega), by simp [hs], rfl⟩
    · rw [if_neg h0] at hb; exact absurd rfl hb
  pin := fun b r' e' hp => by
    rw [Hp_get] at hp
    by_cases h0 : b = 0
    · subst h0
      rw [if_pos rfl] at hp
      obtain ⟨he', l, hl⟩ := hp
      injection hl with h1 h2
      have : r' = r ∧ e' = e := by omega
      obtain ⟨rfl, rfl⟩ := this
      exact ⟨⟨c.size, rfl⟩, hw⟩
    · rw [if_neg h0] at hp; exact absurd hp (Blk.dead_free _ _)

theorem Ext.belowp {r e n : Nat} {ι' : Inj} {h' : H} {w w' : World} (hE : Ext (ιp n) (Hp r e) w ι' h' w') : Below w.heap.size w w' :=
  ⟨hE.os, hE.tape, hE.output, hE.size, fun k hk => hE.block k hk fun ⟨b, o, s, e, ho⟩ => by
    rw [Hp_get] at ho
    split at ho
    · have ho : 4 + _ < 2 := ho; omega
    · exact ho.elim⟩
theorem cells_of_cell {w : World} {b : Nat} {v : Value} (h : w.cell? ⟨b, 0, none⟩ = some v) : ∃ c el fr, w.heap[b]? = some (.cells c el fr) ∧ 0 < c.size := by
  unfold World.cell? at h
  split at h
  · rename_i c el fr heq
    refine ⟨c, el, fr, heq, ?_⟩
    rcases Nat.eq_zero_or_pos c.size with h0 | h0
    · simp [h0] at h
    · exact h0
  · cases h
/-- A law over values that are no memory comes to true, from there. -/
theorem law_trueP {r e : Nat} (he : e < 65536) {f : FuncId} {args : List AV} {h : H} {vs : List Value} (T : Tri P f args (Hp r e) (.bool true, h)) (hv : ∀ ι, VL ι args vs) (w : World)
    (hw : w.cell? ⟨0, 0, none⟩ = some (.iface (r % 65536) (.agg #[.pointer (some ⟨r / 65536, e, none⟩)]))) :
    Calls P f vs.toArray w fun e w' => e = .returned (.bool true) ∧ Below w.heap.size w w' := by
  obtain ⟨c, el, fr, heq, hs⟩ := cells_of_cell hw
  exact (T.run _ w vs (Rel.pinned he hw heq hs) (hv _)).mono fun e w' ⟨v, ι', he, hV, hE, _⟩ => ⟨by rw [he, hV.bool], hE.belowp⟩

/-! ### For the texts that a program writes -/
/-- So many rounds of a loop are followed. -/
def FUEL : Nat := 2097152
def bodyOf (f : Func) : Code := match f.body with | some c => c | none => .skip
def u0 (c : H → Option R) : List AV → H → Option R := fun args h => match args with | [] => c h | _ => none
theorem u0_some {c : H → Option R} {args : List AV} {h : H} {r : R} (e : u0 c args h = some r) : args = [] ∧ c h = some r := by
  unfold u0 at e; split at e
  · exact ⟨rfl, e⟩
  · cases e
def u1 (c : AV → H → Option R) : List AV → H → Option R := fun args h => match args with | [a0] => c a0 h | _ => none
theorem u1_some {c : AV → H → Option R} {args : List AV} {h : H} {r : R} (e : u1 c args h = some r) : ∃ a0, args = [a0] ∧ c a0 h = some r := by
  unfold u1 at e; split at e
  · exact ⟨_, rfl, e⟩
  · cases e
def u2 (c : AV → AV → H → Option R) : List AV → H → Option R := fun args h => match args with | [a0, a1] => c a0 a1 h | _ => none
theorem u2_some {c : AV → AV → H → Option R} {args : List AV} {h : H} {r : R} (e : u2 c args h = some r) : ∃ a0 a1, args = [a0, a1] ∧ c a0 a1 h = some r := by
  unfold u2 at e; split at e
  · exact ⟨_, _, rfl, e⟩
  · cases e
def u3 (c : AV → AV → AV → H → Option R) : List AV → H → Option R := fun args h => match args with | [a0, a1, a2] => c a0 a1 a2 h | _ => none
theorem u3_some {c : AV → AV → AV → H → Option R} {args : List AV} {h : H} {r : R} (e : u3 c args h = some r) : ∃ a0 a1 a2, args = [a0, a1, a2] ∧ c a0 a1 a2 h = some r := by
  unfold u3 at e; split at e
  · exact ⟨_, _, _, rfl, e⟩
  · cases e
def u4 (c : AV → AV → AV → AV → H → Option R) : List AV → H → Option R := fun args h => match args with | [a0, a1, a2, a3] => c a0 a1 a2 a3 h | _ => none
theorem u4_some {c : AV → AV → AV → AV → H → Option R} {args : List AV} {h : H} {r : R} (e : u4 c args h = some r) : ∃ a0 a1 a2 a3, args = [a0, a1, a2, a3] ∧ c a0 a1 a2 a3 h = some r := by
  unfold u4 at e; split at e
  · exact ⟨_, _, _, _, rfl, e⟩
  · cases e
def u5 (c : AV → AV → AV → AV → AV → H → Option R) : List AV → H → Option R := fun args h => match args with | [a0, a1, a2, a3, a4] => c a0 a1 a2 a3 a4 h | _ => none
theorem u5_some {c : AV → AV → AV → AV → AV → H → Option R} {args : List AV} {h : H} {r : R} (e : u5 c args h = some r) : ∃ a0 a1 a2 a3 a4, args = [a0, a1, a2, a3, a4] ∧ c a0 a1 a2 a3 a4 h = some r := by
  unfold u5 at e; split at e
  · exact ⟨_, _, _, _, _, rfl, e⟩
  · cases e
def u6 (c : AV → AV → AV → AV → AV → AV → H → Option R) : List AV → H → Option R := fun args h => match args with | [a0, a1, a2, a3, a4, a5] => c a0 a1 a2 a3 a4 a5 h | _ => none
theorem u6_some {c : AV → AV → AV → AV → AV → AV → H → Option R} {args : List AV} {h : H} {r : R} (e : u6 c args h = some r) : ∃ a0 a1 a2 a3 a4 a5, args = [a0, a1, a2, a3, a4, a5] ∧ c a0 a1 a2 a3 a4 a5 h = some r := by
  unfold u6 at e; split at e
  · exact ⟨_, _, _, _, _, _, rfl, e⟩
  · cases e
def u7 (c : AV → AV → AV → AV → AV → AV → AV → H → Option R) : List AV → H → Option R := fun args h => match args with | [a0, a1, a2, a3, a4, a5, a6] => c a0 a1 a2 a3 a4 a5 a6 h | _ => none
theorem u7_some {c : AV → AV → AV → AV → AV → AV → AV → H → Option R} {args : List AV} {h : H} {r : R} (e : u7 c args h = some r) : ∃ a0 a1 a2 a3 a4 a5 a6, args = [a0, a1, a2, a3, a4, a5, a6] ∧ c a0 a1 a2 a3 a4 a5 a6 h = some r := by
  unfold u7 at e; split at e
  · exact ⟨_, _, _, _, _, _, _, rfl, e⟩
  · cases e
def u8 (c : AV → AV → AV → AV → AV → AV → AV → AV → H → Option R) : List AV → H → Option R := fun args h => match args with | [a0, a1, a2, a3, a4, a5, a6, a7] => c a0 a1 a2 a3 a4 a5 a6 a7 h | _ => none
theorem u8_some {c : AV → AV → AV → AV → AV → AV → AV → AV → H → Option R} {args : List AV} {h : H} {r : R} (e : u8 c args h = some r) : ∃ a0 a1 a2 a3 a4 a5 a6 a7, args = [a0, a1, a2, a3, a4, a5, a6, a7] ∧ c a0 a1 a2 a3 a4 a5 a6 a7 h = some r := by
  unfold u8 at e; split at e
  · exact ⟨_, _, _, _, _, _, _, _, rfl, e⟩
  · cases e

end
end Go.AI

/- What the operations come to where the memory is known at the cells that they touch. -/
namespace Go.AI
open Go Go.RowKit
noncomputable section
set_option linter.unusedVariables false

theorem withCells_get {α : Type} {h : H} {b fl : Nat} {l : List AV} {f : Nat → List AV → Option α} (hb : h.get b = .cells fl l) : withCells h b f = f fl l := by unfold withCells; rw [hb]
theorem get_push_lt {h : H} {x : Blk} {c : Nat} (hc : c < h.n) : (h.push x).get c = h.get c := by rw [H.get_push, if_neg (by omega)]
theorem get_push_eq {h : H} {x : Blk} {c : Nat} (hc : c = h.n) : (h.push x).get c = x := by rw [H.get_push, if_pos hc]
theorem get_set_ne {h : H} {x : Blk} {b c : Nat} (hc : c ≠ b) : (h.set b x).get c = h.get c := by rw [H.get_set, if_neg hc]
theorem get_set_eq {h : H} {x : Blk} {b : Nat} : (h.set b x).get b = x := by rw [H.get_set, if_pos rfl]
theorem ble_true {a b : Nat} (h : a ≤ b) : Nat.ble a b = true := Nat.ble_eq_true_of_le h
theorem ble_false {a b : Nat} (h : b < a) : Nat.ble a b = false := by rw [ble_decide, decide_eq_false_iff_not]; omega

theorem load_at {α : Type} {h : H} {b o fl : Nat} {l : List AV} {a : AV} {k : AV → H → Option α} (hb : h.get b = .cells fl l) (ha : nthO l o = some a) : aLoad (.ptr b o) h k = k a h := by
  show withCells h b (fun _ l => onSome (nthO l o) fun a => k a h) = _
  rw [withCells_get hb, ha]; rfl

theorem store_at {α : Type} {h : H} {b o fl : Nat} {l : List AV} {v : AV} {k : AV → H → Option α} (hb : h.get b = .cells fl l) (hf : fl ≤ 1) (ho : o < l.length) (hv : v.one1 = true) :
    aStore (.ptr b o) v h k = k (.leaf .undef) (h.set b (.cells fl (setNth v l o))) := by
  show withCells h b (fun fl l => bc (Nat.ble fl 1) (bc (Nat.ble (Nat.succ o) (lenL l)) (bc v.one1 (k (.leaf .undef) (h.set b (.cells fl (setNth v l o)))) none) none) none) = _
  rw [withCells_get hb, ble_true hf, lenL_eq, ble_true ho, hv]; rfl

/-- One element is appended to nil; to a slice that came of append. -/
theorem app1_nil {h : H} {q fl : Nat} {a : AV} {k : AV → H → Option R} (hq : h.get q = .cells fl [a]) :
    aAppend 1 8 (.leaf .nils) (.leaf (.sl q 0 1 1)) h k = k (.osl h.n 0 1 1) (h.push (.cells 0 [a])) := by
  show withCells h q (fun _ l => bc (Nat.beq (lenL (takeL (Nat.mul 1 1) (dropL 0 l))) (Nat.mul 1 1)) (aApp1 1 8 1 (takeL (Nat.mul 1 1) (dropL 0 l)) (.leaf .nils) h k) none) = _
  rw [withCells_get hq]; rfl

theorem app1_osl {h : H} {q fl kb f2 m : Nat} {a : AV} {l : List AV} {k : AV → H → Option R} (hq : h.get q = .cells fl [a]) (hk : h.get kb = .cells f2 l) (hl : l.length = m) (hm : m < 1000) (hf : f2 ≤ 1) (ha : a.one1 = true) :
    aAppend 1 8 (.osl kb 0 m 1) (.leaf (.sl q 0 1 1)) h k = k (.osl h.n 0 (m + 1) 1) ((h.set kb .dead).push (.cells f2 (l ++ [a]))) := by
  show withCells h q (fun _ l => bc (Nat.beq (lenL (takeL (Nat.mul 1 1) (dropL 0 l))) (Nat.mul 1 1)) (aApp1 1 8 1 (takeL (Nat.mul 1 1) (dropL 0 l)) (.osl kb 0 m 1) h k) none) = _
  rw [withCells_get hq]
  show withCells h kb (fun fl l => bc (Nat.beq (lenL (takeL (Nat.mul m 1) (dropL 0 l))) (Nat.mul m 1)) (bc (Nat.ble (Nat.mul (Nat.add m 1) 8) 140737488355328) (bc (Nat.ble (Nat.add m 1) strMax)
      (bc (Nat.beq 1 1) (bc (Nat.ble fl 1) (bc (allOne [a]) (k (.osl h.n 0 (Nat.add m 1) 1) ((h.set kb .dead).push (.cells fl (appA (takeL (Nat.mul m 1) (dropL 0 l)) [a])))) none) none) none) none) none) none) = _
  rw [withCells_get hk]
  have e1 : takeL (Nat.mul m 1) (dropL 0 l) = l := by rw [takeL_eq, dropL_eq]; show List.take (m * 1) (List.drop 0 l) = l; rw [Nat.mul_one, List.drop_zero, ← hl, List.take_length]
  have e2 : allOne [a] = true := by show bc a.one1 true false = true; rw [ha]; rfl
  have e3 : Nat.mul (Nat.add m 1) 8 ≤ 140737488355328 := by show (m + 1) * 8 ≤ 140737488355328; omega
  have e4 : Nat.add m 1 ≤ strMax := by have := strMax_eq; show m + 1 ≤ strMax; omega
  rw [e1, lenL_eq, hl, show Nat.mul m 1 = m from Nat.mul_one m, Nat.beq_refl, ble_true e3, ble_true e4, ble_true hf, e2, appA_eq]
  rfl

section
variable {α : Type} {h : H} {k : AV → H → Option α}
theorem hd_cons (a : AV) (l : List AV) : hd (a :: l) = a := rfl
theorem tl_cons (a : AV) (l : List AV) : tl (a :: l) = l := rfl
theorem kEq_self (k : Nat) : kEq k k = true := Nat.beq_refl k
theorem aLenK_str (l : List Nat) (n : Nat) (h : H) (k : AV → H → Option R) : aLenK 0 (.str l n) h k = k (.int 3 (.ofNat n)) h := rfl
theorem aCmpI_int (f : Int → Int → Bool) (j j' : Nat) (a b : Int) : aCmpI f (.int j a) (.int j' b) h k = bc (kEq j j') (k (.bool (f a b)) h) none := rfl
theorem aArith_int (f : Int → Int → Int) (j j' : Nat) (a b : Int) : aArith f (.int j a) (.int j' b) h k = bc (kEq j j') (k (.int j (fwrap j (f a b))) h) none := rfl
theorem withBool_bool (b : Bool) (f : Bool → Option α) : withBool (.bool b) f = f b := rfl
theorem ilt_nat (a b : Nat) : ilt (.ofNat a) (.ofNat b) = Nat.ble (Nat.succ a) b := rfl
theorem ile_nat (a b : Nat) : ile (.ofNat a) (.ofNat b) = Nat.ble a b := rfl
theorem ieq_nat (a b : Nat) : ieq (.ofNat a) (.ofNat b) = Nat.beq a b := rfl
theorem ilt_neg (a b : Nat) : ilt (.negSucc a) (.ofNat b) = true := rfl
theorem ieq_neg (a b : Nat) : ieq (.negSucc a) (.ofNat b) = false := rfl
theorem guardB_bool (w b : Bool) (x y : Option R) : guardB w (.bool b) x y = bc (bc b w (bnot w)) x y := rfl
theorem guardB_tup (w : Bool) (x y : Option R) : guardB w (.one .tup (.leaf .nil)) x y = y := rfl
theorem aPick_bool (b : Bool) (x y : AV) : aPick (.bool b) x y h k = bc b (k x h) (k y h) := rfl
theorem aEq_np (j b o : Nat) (hj : j = 1) : aEq true j (.ptr b o) (.leaf .nilp) h k = k (.bool true) h := by subst hj; rfl
theorem aEq_ep (b o : Nat) : aEq false 1 (.ptr b o) (.leaf .nilp) h k = k (.bool false) h := rfl
theorem aEq_pp (b o : Nat) : aEq true 1 (.ptr b o) (.leaf .nilp) h k = k (.bool true) h := rfl
theorem aEq_nn : aEq true 1 (.leaf .nilp) (.leaf .nilp) h k = k (.bool false) h := rfl
theorem aEq_en : aEq false 1 (.leaf .nilp) (.leaf .nilp) h k = k (.bool true) h := rfl
theorem aIdxStr_at (l : List Nat) (n j i : Nat) : aIdxStr (.str l n) (.int j (.ofNat i)) h k = bc (Nat.ble (Nat.succ i) n) (onSome (nthN l i) fun c => k (.int 4 (.ofNat c)) h) none := rfl
theorem onSome_some' {β : Type} (a : β) (f : β → Option α) : onSome (some a) f = f a := rfl
theorem bindR_some' (a : AV) (h : H) (k : AV → H → Option R) : bindR (some (a, h)) k = k a h := rfl
theorem aNilCheck_ptr (b o : Nat) : aNilCheck (.ptr b o) h k = k (.ptr b o) h := rfl
theorem aField_ptr (f b o : Nat) : aField f (.ptr b o) h k = k (.ptr b (Nat.add o f)) h := rfl
theorem aExtract_0 (a t : AV) : aExtract (.one .tup (.cons a t)) 0 h k = k a h := rfl
theorem aExtract_1 (a b t : AV) : aExtract (.one .tup (.cons a (.cons b t))) 1 h k = k b h := rfl
theorem aExtract_2 (a b c t : AV) : aExtract (.one .tup (.cons a (.cons b (.cons c t)))) 2 h k = k c h := rfl
theorem fwrap_add (a b : Nat) (hab : a + b ≤ 9223372036854775807) : fwrap 3 (iadd (.ofNat a) (.ofNat b)) = .ofNat (a + b) := by
  rw [iadd_eq, fwrap_eq, kd3]
  show IntKind.i64.wrap ((a : Int) + (b : Int)) = ((a + b : Nat) : Int)
  rw [wrap_i64 _ (by omega) (by omega)]; omega
end
end
end Go.AI

/- Texts of brackets, as lists of numbers: which are trees of at most nine nodes, and a list of them all. -/
namespace Go.AI
noncomputable section
set_option linter.unusedVariables false

/-- The rest of a text behind m opened brackets, d of them still open. -/
def scan : List Nat → Nat → Nat → Bool
  | [], d, m => Nat.beq d 0
  | c :: r, 0, m => false
  | c :: r, d + 1, m => bc (Nat.beq c 41) (scan r d m) (bc (Nat.beq c 40) (bc (Nat.ble (m + 1) 9) (scan r (d + 2) (m + 1)) false) false)
def isTree : List Nat → Bool
  | [] => false
  | c :: r => bc (Nat.beq c 40) (scan r 1 1) false

/-- All such rests. -/
def rests : Nat → Nat → Nat → List (List Nat)
  | 0, d, m => bc (Nat.beq d 0) [[]] []
  | f + 1, 0, m => [[]]
  | f + 1, d + 1, m => (rests f d m).map (41 :: ·) ++ bc (Nat.ble (m + 1) 9) ((rests f (d + 2) (m + 1)).map (40 :: ·)) []

theorem scan_mem : ∀ (f : Nat) (l : List Nat) (d m : Nat), m ≤ 9 → 2 * (9 - m) + d ≤ f → scan l d m = true → l ∈ rests f d m
  | 0, [], d, m, _, hf, h => by
    have := Nat.eq_of_beq_eq_true h; subst this
    simp [rests, bc_true]
  | 0, c :: r, d, m, _, hf, h => by
    obtain rfl : d = 0 := by omega
    cases h
  | f + 1, [], d, m, _, hf, h => by
    have := Nat.eq_of_beq_eq_true h; subst this
    simp [rests]
  | f + 1, c :: r, 0, m, _, hf, h => by cases h
  | f + 1, c :: r, d + 1, m, hm, hf, h => by
    simp only [scan] at h
    simp only [rests]
    cases h41 : Nat.beq c 41 with
    | true =>
      rw [h41, bc_true] at h
      have := Nat.eq_of_beq_eq_true h41; subst this
      exact List.mem_append_left _ (List.mem_map.2 ⟨r, scan_mem f r d m hm (by omega) h, rfl⟩)
    | false =>
      rw [h41, bc_false] at h
      cases h40 : Nat.beq c 40 with
      | false => rw [h40] at h; cases h
      | true =>
        rw [h40, bc_true] at h
        have := Nat.eq_of_beq_eq_true h40; subst this
        cases h9 : Nat.ble (m + 1) 9 with
        | false => rw [h9] at h; cases h
        | true =>
          rw [h9, bc_true] at h
          have h9' := Nat.le_of_ble_eq_true h9
          exact List.mem_append_right _ (by rw [bc_true]; exact List.mem_map.2 ⟨r, scan_mem f r (d + 2) (m + 1) h9' (by omega) h, rfl⟩)

/-- All trees whose text begins so. -/
def treesFrom (p : List Nat) (f d m : Nat) : List (List Nat) := (rests f d m).map (p ++ ·)

theorem isTree_mem {l : List Nat} (h : isTree l = true) : l ∈ treesFrom [40] 17 1 1 := by
  cases l with
  | nil => cases h
  | cons c r =>
    simp only [isTree] at h
    cases hc : Nat.beq c 40 with
    | false => rw [hc] at h; cases h
    | true =>
      rw [hc, bc_true] at h
      have := Nat.eq_of_beq_eq_true hc; subst this
      exact List.mem_map.2 ⟨r, scan_mem 17 r 1 1 (by omega) (by omega) h, rfl⟩

/-- A test over all rests, one behind the other, as a program walks them. -/
def allR (t : List Nat → Bool) : Nat → Nat → Nat → (List Nat → List Nat) → Bool :=
  @Nat.rec (fun _ => Nat → Nat → (List Nat → List Nat) → Bool) (fun d _ p => bc (Nat.beq d 0) (t (p [])) true)
    (fun _ g d m p => @Nat.rec (fun _ => Bool) (t (p [])) (fun d _ => bc (g d m (fun l => p (41 :: l))) (bc (Nat.ble (Nat.succ m) 9) (g (Nat.succ (Nat.succ d)) (Nat.succ m) (fun l => p (40 :: l))) true) false) d)
theorem allR_mem (t : List Nat → Bool) : ∀ (f d m : Nat) (p : List Nat → List Nat), allR t f d m p = true → ∀ l ∈ rests f d m, t (p l) = true
  | 0, d, m, p, h, l, hl => by
    have h : bc (Nat.beq d 0) (t (p [])) true = true := h
    simp only [rests] at hl
    cases hd : Nat.beq d 0 with
    | false => rw [hd, bc_false] at hl; cases hl
    | true => rw [hd, bc_true] at hl h; rw [List.mem_singleton] at hl; subst hl; exact h
  | f + 1, 0, m, p, h, l, hl => by
    simp only [rests, List.mem_singleton] at hl; subst hl; exact h
  | f + 1, d + 1, m, p, h, l, hl => by
    have h : bc (allR t f d m (fun l => p (41 :: l))) (bc (Nat.ble (m + 1) 9) (allR t f (d + 2) (m + 1) (fun l => p (40 :: l))) true) false = true := h
    simp only [rests] at hl
    cases h1 : allR t f d m (fun l => p (41 :: l)) with
    | false => rw [h1] at h; cases h
    | true =>
      rw [h1, bc_true] at h
      rcases List.mem_append.1 hl with hl | hl
      · obtain ⟨r, hr, rfl⟩ := List.mem_map.1 hl
        exact allR_mem t f d m _ h1 r hr
      · cases h9 : Nat.ble (m + 1) 9 with
        | false => rw [h9] at hl; cases hl
        | true =>
          rw [h9, bc_true] at hl h
          obtain ⟨r, hr, rfl⟩ := List.mem_map.1 hl
          exact allR_mem t f (d + 2) (m + 1) _ h r hr
end
end Go.AI

/- The last step of a law's row, where only new blocks have come and some of them may lie behind a text. -/
namespace Go.AI
open Go Go.RowKit Go.WideShapes Go.ChangeShapes
set_option linter.unusedVariables false

theorem post_under {H : Type} {enc : TypeId × Value → H} {P : Program} {f : Func} {s : ChangeSpec} {apart fresh handsOn again : Bool} {W W' : World} {args : Array Value} {v : Value} {ds gs : List (DataW H)} {before pa pv : List MemPlace}
    (hW : DataW.Whole enc P f.params.toList s.vars apart W args.toList ds gs before)
    (hres : ∀ (b : Nat) (sp : Nat → Bool) (hd : Bool), DataW.TrodAll enc P W' b sp hd f.resultTypes.toList (v.resultList f.resultTypes.size) (s.fn H (ds ++ gs)).results [])
    (hargs : ∀ sp : Nat → Bool, (∀ p ∈ before, sp p.block = true) → DataW.TrodAll enc P W' 0 sp true f.params.toList args.toList (s.fn H (ds ++ gs)).args pa)
    (hvars : ∀ sp : Nat → Bool, (∀ p ∈ before, sp p.block = true) → DataW.TrodVars enc P W' sp s.vars (s.fn H (ds ++ gs)).vars pv)
    (hps : before = pa ++ pv) (hb : Below W.heap.size W W')
    (hok : ∀ (j : Nat) (t : TypeId) (r : Value), f.resultTypes[j]? = some t → (v.resultList f.resultTypes.size)[j]? = some r → Value.okWide P W' .any 0 t r) :
    s.post enc P f apart fresh handsOn again W args v W' := by
  subst hps
  have lt : ∀ p ∈ pa ++ pv, p.block < W.heap.size := fun p hp => hW.lt p hp
  have there : ∀ p ∈ pa ++ pv, (fun b => decide (b < W.heap.size)) p.block = true := fun p hp => decide_eq_true (lt p hp)
  refine ⟨ds, gs, pa ++ pv, [], pa, pv, hW, hres _ _ _, hargs _ there, hvars _ there, World.keptBut_mono (fun p hp => ⟨hp, .inr (List.mem_append.1 hp)⟩) (hb.frame (· ∈ pa ++ pv)), fun _ => ?_⟩
  obtain ⟨_, _, _, _, _, hz, hn⟩ := hW
  refine ⟨hok, _, _, ([] ++ pa) ++ pv, ⟨[] ++ pa, pv, trodAll_append (hargs _ fun _ _ => rfl) (hres _ _ _), hvars _ fun _ _ => rfl, rfl, fun b off hp => ?_, fun ha => ?_⟩, fun p hp _ => ?_⟩
  · have hin : MemPlace.cell b off ∈ pa ++ pv := by simpa using hp
    rw [hb.frozen (lt _ hin)]; exact hz b off hin
  · simpa using hn ha
  · simpa using hp
end Go.AI

/- A call that was followed over the empty memory, with values that are no memory, comes to the same over every memory. -/
namespace Go.AI
open Go Go.RowKit
noncomputable section
set_option linter.unusedVariables false
variable {P : Program}

theorem VL.plain {ι ι' : Inj} : ∀ {xs : List AV} {vs : List Value}, (∀ a ∈ xs, a.plain = true) → VL ι xs vs → VL ι' xs vs
  | _, _, _, .nil => .nil
  | _, _, h, .cons hv hl => .cons (plain_mono (h _ (List.mem_cons_self ..)) hv) (VL.plain (fun a ha => h a (List.mem_cons_of_mem _ ha)) hl)

theorem Ext.of_below {ι : Inj} {h : H} {w w' : World} (r : Rel ι h w) (hb : Below w.heap.size w w') : Ext ι h w ι h w' :=
  ⟨.refl _, hb.os, hb.tape, hb.output, hb.size, fun B hB _ => hb.block B hB, fun _ h => .inl h, Nat.le_refl _, Nat.le_refl _, fun _ _ _ => rfl,
   fun b B o s _ _ _ e => hb.block _ (r.lt _ _ _ _ e), fun b _ _ _ e => .inl ⟨b, _, _, e⟩⟩

theorem Tri.forget {f : FuncId} {args : List AV} {v : AV} {h' : H} (T : Tri P f args H0 (v, h')) (ha : ∀ a ∈ args, a.plain = true) (hv : v.plain = true) (h : H) : Tri P f args h (v, h) :=
  ⟨T.can, fun ι w vs hR hV => (T.run (fun _ => Option.none) w vs (Rel.empty w) (VL.plain ha hV)).mono fun e w' ⟨x, ι', he, hx, hE, _⟩ =>
    ⟨x, ι, he, plain_mono hv hx, Ext.of_below hR hE.below, hR.grow hE.below⟩⟩
end
end Go.AI
