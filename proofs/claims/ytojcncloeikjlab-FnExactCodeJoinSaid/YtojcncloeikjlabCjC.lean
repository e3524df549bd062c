/- What one tree tells. -/
import Derived.Test.YtojcncloeikjlabCjA
import Derived.KernelRfl
namespace Go.AI.T
open Go Go.RowKit Go.AI
set_option linter.unusedVariables false
set_option linter.unusedSimpArgs false
set_option maxRecDepth 100000
noncomputable section
theorem eqL_imp : ∀ x y : List Nat, eqL x y = true → x = y
  | [], [], _ => rfl
  | [], _ :: _, h => by cases h
  | _ :: _, [], h => by cases h
  | a :: x, b :: y, h => by
    rw [eqL_cons] at h
    cases hab : Nat.beq a b with
    | false => rw [hab] at h; cases h
    | true =>
      rw [hab] at h
      rw [Nat.eq_of_beq_eq_true hab, eqL_imp x y h]
def strsO {α : Type} (L : List AV) : (List (List Nat) → Option α) → Option α := @List.rec AV (fun _ => (List (List Nat) → Option α) → Option α) (fun f => f []) (fun a _ g f => a.onStr none fun l n => bc (Nat.beq (lenL l) n) (g fun r => f (l :: r)) none) L
theorem strsO_some {α : Type} {r : α} : ∀ {L : List AV} {f : List (List Nat) → Option α}, strsO L f = some r → ∃ ks : List (List Nat), L = ks.map sv ∧ f ks = some r
  | [], f, e => ⟨[], rfl, e⟩
  | a :: t, f, e => by
    have e : (a.onStr none fun l n => bc (Nat.beq (lenL l) n) (strsO t fun r => f (l :: r)) none) = some r := e
    obtain ⟨l, n, rfl, e1⟩ := withStr_some (x := a) e
    obtain ⟨hn, e2⟩ := bc_someW e1
    have hn := Nat.eq_of_beq_eq_true hn
    rw [lenL_eq] at hn
    subst hn
    obtain ⟨ks, rfl, e3⟩ := strsO_some e2
    exact ⟨l :: ks, rfl, e3⟩
def rowO {α : Type} (x : AV) (h : H) (f : List (List Nat) → Option α) : Option α := x.onSl none (fun _ => none)
  (fun b o n m => bc (Nat.beq o 0) (bc (Nat.beq n 0) (bc (Nat.beq m 0) (withCells h b fun fl l => bc (Nat.beq fl 0) (strsO l fun ks => bc (Nat.beq (lenL ks) 0) (f ks) none) none) none) none) none)
  (fun b o n es => bc (Nat.beq o 0) (bc (Nat.ble 1 n) (bc (Nat.beq es 1) (withCells h b fun fl l => bc (Nat.beq fl 0) (strsO l fun ks => bc (Nat.beq (lenL ks) n) (f ks) none) none) none) none) none)
theorem rowO_some {α : Type} {r : α} {x : AV} {h : H} {f : List (List Nat) → Option α} (e : rowO x h f = some r) : ∃ (b : Nat) (ks : List (List Nat)), x = xOf b ks.length ∧ h.get b = .cells 0 (ks.map sv) ∧ f ks = some r := by
  cases x using AV.casesE <;> (try (cases e; done))
  case sl b o n m =>
    obtain ⟨h1, e1⟩ := bc_someW (b := Nat.beq o 0) e
    obtain ⟨h2, e2⟩ := bc_someW e1
    obtain ⟨h3, e3⟩ := bc_someW e2
    obtain ⟨fl, l, hb, e4⟩ := withCells_some e3
    obtain ⟨h4, e5⟩ := bc_someW e4
    obtain ⟨ks, rfl, e6⟩ := strsO_some e5
    obtain ⟨h5, e7⟩ := bc_someW e6
    obtain rfl := Nat.eq_of_beq_eq_true h1
    obtain rfl := Nat.eq_of_beq_eq_true h2
    obtain rfl := Nat.eq_of_beq_eq_true h3
    obtain rfl := Nat.eq_of_beq_eq_true h4
    have h5 := Nat.eq_of_beq_eq_true h5
    rw [lenL_eq] at h5
    exact ⟨b, ks, by rw [h5]; rfl, hb, e7⟩
  case osl b o n es =>
    obtain ⟨h1, e1⟩ := bc_someW (b := Nat.beq o 0) e
    obtain ⟨h2, e2⟩ := bc_someW e1
    obtain ⟨h3, e3⟩ := bc_someW e2
    obtain ⟨fl, l, hb, e4⟩ := withCells_some e3
    obtain ⟨h4, e5⟩ := bc_someW e4
    obtain ⟨ks, rfl, e6⟩ := strsO_some e5
    obtain ⟨h5, e7⟩ := bc_someW e6
    obtain rfl := Nat.eq_of_beq_eq_true h1
    have h2 := Nat.le_of_ble_eq_true h2
    obtain rfl := Nat.eq_of_beq_eq_true h3
    obtain rfl := Nat.eq_of_beq_eq_true h4
    have h5 := Nat.eq_of_beq_eq_true h5
    rw [lenL_eq] at h5
    subst h5
    refine ⟨b, ks, ?_, hb, e7⟩
    cases hk : ks.length with
    | zero => omega
    | succ n => rfl
def strO {α : Type} (x : AV) (f : List Nat → Option α) : Option α := withStr x fun l n => bc (Nat.beq (lenL l) n) (f l) none
theorem strO_some {α : Type} {r : α} {x : AV} {f : List Nat → Option α} (e : strO x f = some r) : ∃ l, x = sv l ∧ f l = some r := by
  obtain ⟨l, n, rfl, e1⟩ := withStr_some e
  obtain ⟨hn, e2⟩ := bc_someW e1
  have hn := Nat.eq_of_beq_eq_true hn
  rw [lenL_eq] at hn
  subst hn
  exact ⟨l, rfl, e2⟩
/-- A pair of something and true. -/
def pairO {α : Type} (x : AV) (f : AV → Option α) : Option α := x.onTup none fun y => y.onCons none fun a z => z.onCons none fun ok e => withBool ok fun t => bc t (bc (isNilW e) (f a) none) none
theorem pairO_some {α : Type} {r : α} {x : AV} {f : AV → Option α} (e : pairO x f = some r) : ∃ a, x = .one .tup (.cons a (.cons (.bool true) (.leaf .nil))) ∧ f a = some r := by
  obtain ⟨y, rfl, e1⟩ := onTup_someW e
  obtain ⟨a, z, rfl, e2⟩ := onCons_someW e1
  obtain ⟨ok, w, rfl, e3⟩ := onCons_someW e2
  obtain ⟨t, rfl, e4⟩ := withBool_some e3
  obtain ⟨rfl, e5⟩ := bc_someW e4
  obtain ⟨hw, e6⟩ := bc_someW e5
  obtain rfl := isNilW_eq hw
  exact ⟨a, rfl, e6⟩
def allT (ks : List (List Nat)) : Bool := @List.rec (List Nat) (fun _ => Bool) true (fun k _ r => bc (isTree k) r false) ks
theorem allT_eq : ∀ ks : List (List Nat), allT ks = ks.all isTree
  | [] => rfl
  | k :: t => by
    show bc (isTree k) (allT t) false = _
    rw [allT_eq t, List.all_cons]; cases isTree k <;> rfl
def inB3 (ks : List (List Nat)) : List Nat := 40 :: @List.rec (List Nat) (fun _ => List Nat) [41] (fun k _ r => appL k r) ks
theorem inB3_eq (ks : List (List Nat)) : inB3 ks = inB2 ks := by
  show 40 :: _ = 40 :: _
  congr 1
  induction ks with
  | nil => rfl
  | cons k t ih =>
    show appL k (@List.rec (List Nat) (fun _ => List Nat) [41] (fun k _ r => appL k r) t) = k ++ flat t ++ [41]
    rw [appL_eq, ih, List.append_assoc]
def runJ (l : List Nat) (n : Nat) : Option Nat :=
  onSome (Go.AI.V.c_impl_TreeChildren 20000 20 (.str l n) H0) fun r => pairO r.1 fun x => rowO x r.2 fun ks => bc (eqL (inB3 ks) l) (bc (allT ks)
    (onSome (Go.AI.V.c_spec_l1Sorted 20000 20 (.str l n) H0) fun r1 => strO r1.1 fun l1 => bc (isTree l1)
      (onSome (Go.AI.V.c_impl_TreeSorted 20000 20 (.str l n) H0) fun r2 => pairO r2.1 fun y => strO y fun l2 => bc (eqL l2 l1) (some 0) none) none) none) none
def okJ (l : List Nat) : Bool := @Option.rec Nat (fun _ => Bool) false (fun _ => true) (runJ l (lenL l))
theorem okJ_some {l : List Nat} (e : okJ l = true) : ∃ (ks : List (List Nat)) (b : Nat) (h1 : H) (l1 : List Nat) (h2 h3 : H), Go.AI.V.c_impl_TreeChildren 20000 20 (sv l) H0 = some (.one .tup (.cons (xOf b ks.length) (.cons (.bool true) (.leaf .nil))), h1) ∧ h1.get b = .cells 0 (ks.map sv) ∧ inB2 ks = l ∧ ks.all isTree = true ∧
    Go.AI.V.c_spec_l1Sorted 20000 20 (sv l) H0 = some (sv l1, h2) ∧ isTree l1 = true ∧ Go.AI.V.c_impl_TreeSorted 20000 20 (sv l) H0 = some (.one .tup (.cons (sv l1) (.cons (.bool true) (.leaf .nil))), h3) := by
  unfold okJ at e
  rw [lenL_eq] at e
  cases hr : runJ l l.length with
  | none => rw [hr] at e; cases e
  | some q =>
    unfold runJ at hr
    obtain ⟨⟨v1, h1⟩, c1, e1⟩ := onSome_some hr
    obtain ⟨x, hx, e2⟩ := pairO_some e1
    obtain ⟨b, ks, rfl, hb, e3⟩ := rowO_some e2
    obtain ⟨h4, e4⟩ := bc_someW e3
    obtain ⟨h5, e5⟩ := bc_someW e4
    obtain ⟨⟨v2, h2⟩, c2, e6⟩ := onSome_some e5
    obtain ⟨l1, hl1, e7⟩ := strO_some e6
    obtain ⟨h6, e8⟩ := bc_someW e7
    obtain ⟨⟨v3, h3⟩, c3, e9⟩ := onSome_some e8
    obtain ⟨y, hy, e10⟩ := pairO_some e9
    obtain ⟨l2, rfl, e11⟩ := strO_some e10
    obtain ⟨h7, _⟩ := bc_someW e11
    obtain rfl := eqL_imp _ _ h7
    have hx : v1 = _ := hx
    have hl1 : v2 = _ := hl1
    have hy : v3 = _ := hy
    subst hx hl1 hy
    exact ⟨ks, b, h1, l2, h2, h3, c1, hb, by rw [← inB3_eq]; exact eqL_imp _ _ h4, by rw [← allT_eq]; exact h5, c2, h6, c3⟩
end
end Go.AI.T
