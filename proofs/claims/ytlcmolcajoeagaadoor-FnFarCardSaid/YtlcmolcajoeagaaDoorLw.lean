/- From the condition on the variable of package errors to its cell; and a world that meets the condition. -/
import Derived.Test.YtlcmolcajoeagaaDoorRows
import Derived.WalkKit
import Derived.RowKitTokens
import Derived.LaidLaws
import Derived.LaidHandle
import Derived.Stop.Joined
import Derived.KernelRfl
namespace Go.Proofs.YtlcmolcajoeagaaDoor.Laid
open Go Go.RowKit
theorem named : Tryd.prog.globalNamed "errors.errorType" = some 0 := by kernel_rfl
theorem rtype : (Tryd.prog.cutTypes.find? (·.1 == "internal/reflectlite.rtype")).map (·.2) = some 97 := by kernel_rfl
theorem only : ((List.range 161).filter fun t => Tryd.prog.rowNamed t [101, 114, 114, 111, 114]) = [39] := by kernel_rfl
theorem types : Tryd.prog.types.size = 161 := by kernel_rfl
theorem cell {W : World} (h : laidMetH Tryd.prog [("errors.errorType", Rows.laid_errors_errorType)] W) : W.cell? ⟨0, 0, none⟩ = some (.iface 97 (.agg #[.pointer (some ⟨2, 39, none⟩)])) := by
  have h' : laidMet Tryd.prog [] W ∧ handlesMet Tryd.prog [("errors.errorType", Rows.laid_errors_errorType)] W := h
  obtain ⟨name, u, ty, e1, e2, e3, e4, e5⟩ := h'.2 _ (List.mem_singleton.2 rfl)
  obtain rfl : name = [101, 114, 114, 111, 114] := (Option.some.inj e1).symm
  obtain rfl := Option.some.inj (rtype.symm.trans e2)
  have hm : ty ∈ (List.range 161).filter fun t => Tryd.prog.rowNamed t [101, 114, 114, 111, 114] := List.mem_filter.2 ⟨List.mem_range.2 (by rw [← types]; exact e3), e4⟩
  rw [only] at hm
  obtain rfl := List.mem_singleton.1 hm
  rw [show typeHandle Tryd.prog 39 = .pointer (some ⟨2, 39, none⟩) by kernel_rfl] at e5
  simpa using World.var?_cell named e5 0
noncomputable def world (os : Os) : World :=
  let w0 := World.holding Tryd.prog os ⟨#[], #[], []⟩
  { w0 with heap := w0.heap.modify 0 fun
      | .cells _ t fr => .cells #[.iface 97 (.agg #[.pointer (some ⟨2, 39, none⟩)])] t fr
      | o => o }
theorem world_met (os : Os) (args : Array Value) : laidMetH Tryd.prog [("errors.errorType", Rows.laid_errors_errorType)] ((world os).forCall (fun _ _ => 0) ⟨#[], args, []⟩).memory :=
  laidMetH_of_parts (laidMet_nil _ _) (by kernel_rfl)
end Go.Proofs.YtlcmolcajoeagaaDoor.Laid
