/- The evaluation, part 3. -/
import Derived.Test.YtecliakkmgoglaaGreatDoorFnMatchBad
import Derived.KernelRfl
set_option maxRecDepth 100000
namespace Go.AI.T
open Go Go.RowKit Go.AI
noncomputable section
variable (B:Blk)
theorem w128:okS (oM B) 6 128=true:=by kernel_rfl
theorem w129:okS (oM B) 6 129=true:=by kernel_rfl
theorem w130:okS (oM B) 6 130=true:=by kernel_rfl
theorem w131:okS (oM B) 6 131=true:=by kernel_rfl
theorem w132:okS (oM B) 6 132=true:=by kernel_rfl
theorem w133:okS (oM B) 6 133=true:=by kernel_rfl
theorem w134:okS (oM B) 6 134=true:=by kernel_rfl
theorem w135:okS (oM B) 6 135=true:=by kernel_rfl
theorem w136:okS (oM B) 6 136=true:=by kernel_rfl
theorem w137:okS (oM B) 6 137=true:=by kernel_rfl
theorem w138:okS (oM B) 6 138=true:=by kernel_rfl
theorem w139:okS (oM B) 6 139=true:=by kernel_rfl
theorem w140:okS (oM B) 6 140=true:=by kernel_rfl
theorem w141:okS (oM B) 6 141=true:=by kernel_rfl
theorem w142:okS (oM B) 6 142=true:=by kernel_rfl
theorem w143:okS (oM B) 6 143=true:=by kernel_rfl
theorem w144:okS (oM B) 6 144=true:=by kernel_rfl
theorem w145:okS (oM B) 6 145=true:=by kernel_rfl
theorem w146:okS (oM B) 6 146=true:=by kernel_rfl
theorem w147:okS (oM B) 6 147=true:=by kernel_rfl
theorem w148:okS (oM B) 6 148=true:=by kernel_rfl
theorem w149:okS (oM B) 6 149=true:=by kernel_rfl
theorem w150:okS (oM B) 6 150=true:=by kernel_rfl
theorem w151:okS (oM B) 6 151=true:=by kernel_rfl
theorem w152:okS (oM B) 6 152=true:=by kernel_rfl
theorem w153:okS (oM B) 6 153=true:=by kernel_rfl
theorem w154:okS (oM B) 6 154=true:=by kernel_rfl
theorem w155:okS (oM B) 6 155=true:=by kernel_rfl
theorem w156:okS (oM B) 6 156=true:=by kernel_rfl
theorem w157:okS (oM B) 6 157=true:=by kernel_rfl
theorem w158:okS (oM B) 6 158=true:=by kernel_rfl
theorem w159:okS (oM B) 6 159=true:=by kernel_rfl
theorem w160:okS (oM B) 6 160=true:=by kernel_rfl
theorem w161:okS (oM B) 6 161=true:=by kernel_rfl
theorem w162:okS (oM B) 6 162=true:=by kernel_rfl
theorem w163:okS (oM B) 6 163=true:=by kernel_rfl
theorem w164:okS (oM B) 6 164=true:=by kernel_rfl
theorem w165:okS (oM B) 6 165=true:=by kernel_rfl
theorem w166:okS (oM B) 6 166=true:=by kernel_rfl
theorem w167:okS (oM B) 6 167=true:=by kernel_rfl
theorem w168:okS (oM B) 6 168=true:=by kernel_rfl
theorem w169:okS (oM B) 6 169=true:=by kernel_rfl
theorem w170:okS (oM B) 6 170=true:=by kernel_rfl
theorem w_3:okL (oM B) 6 128 43=true:=(cc (w128 B) (cc (w129 B) (cc (w130 B) (cc (w131 B) (cc (w132 B) (cc (w133 B) (cc (w134 B) (cc (w135 B) (cc (w136 B) (cc (w137 B) (cc (w138 B) (cc (w139 B) (cc (w140 B) (cc (w141 B) (cc (w142 B) (cc (w143 B) (cc (w144 B) (cc (w145 B) (cc (w146 B) (cc (w147 B) (cc (w148 B) (cc (w149 B) (cc (w150 B) (cc (w151 B) (cc (w152 B) (cc (w153 B) (cc (w154 B) (cc (w155 B) (cc (w156 B) (cc (w157 B) (cc (w158 B) (cc (w159 B) (cc (w160 B) (cc (w161 B) (cc (w162 B) (cc (w163 B) (cc (w164 B) (cc (w165 B) (cc (w166 B) (cc (w167 B) (cc (w168 B) (cc (w169 B) (cc (w170 B) rfl)))))))))))))))))))))))))))))))))))))))))))
end
end Go.AI.T
