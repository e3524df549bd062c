/- From the condition on the packages' variables to the table of the powers of ten; and a world that meets the condition. -/
import Derived.Test.YtemkgndnmabcaaaGreatDoorRows
import Derived.Test.YtemkgndnmabcaaaGreatDoorAi2
import Derived.WalkKit
import Derived.RowKitTokens
import Derived.LaidLaws
import Derived.LaidHandle
import Derived.LaidMore
import Derived.Lay
import Derived.HandedShaped
import Derived.Lib.LaidTab
import Derived.Stop.Joined
import Derived.KernelRfl
namespace Go.Proofs.YtemkgndnmabcaaaGreatDoor.Laid
open Go Go.RowKit
set_option maxRecDepth 100000
noncomputable def plain : List (String × DataW Unit) := [("math/bits.deBruijn32tab", Rows.laid_math_bits_deBruijn32tab), ("math/bits.deBruijn64tab", Rows.laid_math_bits_deBruijn64tab), ("internal/strconv.uint64pow10", Rows.laid_internal_strconv_uint64pow10), ("unicode/utf8.acceptRanges", Rows.laid_unicode_utf8_acceptRanges), ("unicode/utf8.first", Rows.laid_unicode_utf8_first)]
theorem tab {W : World} (h : laidMetH Tryz.prog Rows.fnExecuteCodeRow.laid W) : Go.AI.TabW W.heap[1]? := by
  have h' : laidMet Tryz.prog plain W ∧ handlesMet Tryz.prog [("errors.errorType", Rows.laid_errors_errorType)] W := h
  obtain ⟨ps, ⟨_, _, _, _, _, q0, _, _, _, _, ⟨_, _, _, _, _, q1, _, _, _, _, ⟨g, t, cs, fuel, p, q, hg, ht, hvar, hd, _, _⟩, _⟩, _⟩, _⟩ := h'.1
  have hty : (Tryz.prog.globals[1]?).map (·.type) = some 107 := by kernel_rfl
  obtain rfl := Option.some.inj ((show Tryz.prog.globalNamed "internal/strconv.uint64pow10" = some 1 by kernel_rfl).symm.trans hg)
  obtain rfl := Option.some.inj (hty.symm.trans ht)
  have hd' : DataW.trod (fun _ => ()) Tryz.prog W 0 (fun _ => true) false fuel 107 cs.toList = some (Lib.tabData .u64 ((List.range 20).map fun i => ((10 ^ i : Nat) : Int)), p) := hd
  have hc := Lib.cells_of_tab (show Tryz.prog.underlying 107 = some (.array 20 86) by kernel_rfl) (show Tryz.prog.underlying 86 = some (.int .u64) by kernel_rfl) (by kernel_rfl) (by kernel_rfl) hd'
  unfold World.var? at hvar
  rw [show Tryz.prog.globalNamed "internal/strconv.uint64pow10" = some 1 by kernel_rfl] at hvar
  have hvar : (match (W.heap[1]? : Option Obj) with | some (Obj.cells cs _ _) => some cs | _ => none) = some cs := hvar
  split at hvar
  · rename_i c el fr heq
    have hcs := Option.some.inj hvar
    refine ⟨el, fr, ?_⟩
    rw [heq, hcs]
    have : cs = Go.AI.tabArr := by
      apply Array.toList_inj.1
      rw [hc]
      unfold Go.AI.tabArr
      simp only [List.map_map]
      rfl
    rw [this]
  · cases hvar
noncomputable def start (os : Os) : World :=
  let w0 := World.holding Tryz.prog os ⟨#[], #[], []⟩
  { w0 with heap := w0.heap.modify 6 fun
      | .cells _ t fr => .cells #[.iface 268 (.agg #[typeHandle Tryz.prog 161])] t fr
      | o => o }
noncomputable def world (os : Os) : World := (start os).layVars Tryz.prog plain
theorem world_os (os : Os) : (world os).os = os := World.layVars_os _ _ _
theorem world_met (os : Os) (args : Array Value) : laidMetH Tryz.prog Rows.fnExecuteCodeRow.laid ((world os).forCall (fun _ _ => 0) ⟨#[], args, []⟩).memory := by
  refine laidMetH_of_parts ?_ (by kernel_rfl)
  show laidMet Tryz.prog plain _
  have e1 : (plain.filter fun x => (plain.map (·.1)).contains x.1) = plain := List.filter_eq_self.2 fun x hx => List.contains_iff_mem.2 (List.mem_map.2 ⟨x, hx, rfl⟩)
  have e2 : (plain.filter fun x => !(plain.map (·.1)).contains x.1) = [] := List.filter_eq_nil_iff.2 fun x hx => by rw [List.contains_iff_mem.2 (List.mem_map.2 ⟨x, hx, rfl⟩)]; simp
  have h : laidMet Tryz.prog plain (world os) := laidMet_layVars (w0 := start os) (plain.map (·.1)) [] (by rw [e1]; rfl) (by rw [e1]; kernel_rfl) (by rw [e1]; kernel_rfl) (by rw [e2]; exact LaidIn.none)
  exact h.of_heap (by simp [World.memory, World.forCall, Input.heap])
end Go.Proofs.YtemkgndnmabcaaaGreatDoor.Laid
