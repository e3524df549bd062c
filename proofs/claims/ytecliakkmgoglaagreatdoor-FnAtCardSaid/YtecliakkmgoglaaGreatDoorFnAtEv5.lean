/- The evaluation, part 5. -/
import Derived.Test.YtecliakkmgoglaaGreatDoorFnAtBad
import Derived.KernelRfl
set_option maxRecDepth 100000
namespace Go.AI.T
open Go Go.RowKit Go.AI
noncomputable section
variable (B:Blk)
theorem w142:okS (ok_FnAt B) 6 142=true:=by kernel_rfl
theorem w143:okS (ok_FnAt B) 6 143=true:=by kernel_rfl
theorem w144:okS (ok_FnAt B) 6 144=true:=by kernel_rfl
theorem w145:okS (ok_FnAt B) 6 145=true:=by kernel_rfl
theorem w146:okS (ok_FnAt B) 6 146=true:=by kernel_rfl
theorem w147:okS (ok_FnAt B) 6 147=true:=by kernel_rfl
theorem w148:okS (ok_FnAt B) 6 148=true:=by kernel_rfl
theorem w149:okS (ok_FnAt B) 6 149=true:=by kernel_rfl
theorem w150:okS (ok_FnAt B) 6 150=true:=by kernel_rfl
theorem w151:okS (ok_FnAt B) 6 151=true:=by kernel_rfl
theorem w152:okS (ok_FnAt B) 6 152=true:=by kernel_rfl
theorem w153:okS (ok_FnAt B) 6 153=true:=by kernel_rfl
theorem w154:okS (ok_FnAt B) 6 154=true:=by kernel_rfl
theorem w155:okS (ok_FnAt B) 6 155=true:=by kernel_rfl
theorem w156:okS (ok_FnAt B) 6 156=true:=by kernel_rfl
theorem w157:okS (ok_FnAt B) 6 157=true:=by kernel_rfl
theorem w158:okS (ok_FnAt B) 6 158=true:=by kernel_rfl
theorem w159:okS (ok_FnAt B) 6 159=true:=by kernel_rfl
theorem w160:okS (ok_FnAt B) 6 160=true:=by kernel_rfl
theorem w161:okS (ok_FnAt B) 6 161=true:=by kernel_rfl
theorem w162:okS (ok_FnAt B) 6 162=true:=by kernel_rfl
theorem w163:okS (ok_FnAt B) 6 163=true:=by kernel_rfl
theorem w164:okS (ok_FnAt B) 6 164=true:=by kernel_rfl
theorem w165:okS (ok_FnAt B) 6 165=true:=by kernel_rfl
theorem w166:okS (ok_FnAt B) 6 166=true:=by kernel_rfl
theorem w167:okS (ok_FnAt B) 6 167=true:=by kernel_rfl
theorem w168:okS (ok_FnAt B) 6 168=true:=by kernel_rfl
theorem w169:okS (ok_FnAt B) 6 169=true:=by kernel_rfl
theorem w170:okS (ok_FnAt B) 6 170=true:=by kernel_rfl
theorem w_5:okL (ok_FnAt B) 6 142 29=true:=(cc (w142 B) (cc (w143 B) (cc (w144 B) (cc (w145 B) (cc (w146 B) (cc (w147 B) (cc (w148 B) (cc (w149 B) (cc (w150 B) (cc (w151 B) (cc (w152 B) (cc (w153 B) (cc (w154 B) (cc (w155 B) (cc (w156 B) (cc (w157 B) (cc (w158 B) (cc (w159 B) (cc (w160 B) (cc (w161 B) (cc (w162 B) (cc (w163 B) (cc (w164 B) (cc (w165 B) (cc (w166 B) (cc (w167 B) (cc (w168 B) (cc (w169 B) (cc (w170 B) rfl)))))))))))))))))))))))))))))
end
end Go.AI.T
