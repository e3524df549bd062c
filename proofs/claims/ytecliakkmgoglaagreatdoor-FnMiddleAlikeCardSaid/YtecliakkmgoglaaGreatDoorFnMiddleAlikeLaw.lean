/- The law FnMiddleAlike is true whatever the code. -/
import Derived.Test.YtecliakkmgoglaaGreatDoorFnMiddleAlikeKey
set_option linter.unusedVariables false
set_option linter.unusedSimpArgs false
set_option maxRecDepth 100000
namespace Go.AI.T
open Go Go.RowKit Go.AI Go.Conc Go.Co Go.Co.Cnt
noncomputable section
theorem law_FnMiddleAlike:CodeLaw (c_laws_FnMiddleAlike 2097152 20):=by
 intro a0 n L B ha hB hb
 have hlen:∀(h:H) (k:AV->H->Option R),aLenK 1 a0 h k=k (nI n) h:=fun h k=>by rcases ha with ⟨rfl,rfl⟩ | rfl <;> rfl
 apply zati
 delta c_laws_FnMiddleAlike
 by_cases h20:1048576<n
 · rw [hlen,gtrN,zaai,zaau (show Nat.succ 1048576<=n from h20),bc_true];rfl
 · rw [hlen,gtrN,zaai,zabo (show n<Nat.succ 1048576 by omega),zaag]
   obtain ⟨l,t,hl,ht,e⟩:=draw_mid 2097152 20 ha hB hb
   rw [e,bindR_some']
   exact key_mid B (zabd l) (zabd t) ⟨hl.1,ht.1⟩ hl.2 ht.2
end
end Go.AI.T
