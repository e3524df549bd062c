/- The evaluation, part 1. -/
import Derived.Test.YtecliakkmgoglaaGreatDoorAtFn
import Derived.KernelRfl
set_option linter.unusedVariables false
set_option linter.unusedSimpArgs false
set_option maxRecDepth 100000
namespace Go.AI.T
open Go Go.RowKit Go.AI
noncomputable section
theorem ua103:okS ok_At 10 103=true:=by kernel_rfl
theorem ua104:okS ok_At 10 104=true:=by kernel_rfl
theorem ua105:okS ok_At 10 105=true:=by kernel_rfl
theorem ua106:okS ok_At 10 106=true:=by kernel_rfl
theorem ua107:okS ok_At 10 107=true:=by kernel_rfl
theorem ua108:okS ok_At 10 108=true:=by kernel_rfl
theorem ua109:okS ok_At 10 109=true:=by kernel_rfl
theorem ua110:okS ok_At 10 110=true:=by kernel_rfl
theorem ua111:okS ok_At 10 111=true:=by kernel_rfl
theorem ua112:okS ok_At 10 112=true:=by kernel_rfl
theorem ua113:okS ok_At 10 113=true:=by kernel_rfl
theorem ua114:okS ok_At 10 114=true:=by kernel_rfl
theorem ua115:okS ok_At 10 115=true:=by kernel_rfl
theorem ua116:okS ok_At 10 116=true:=by kernel_rfl
theorem ua117:okS ok_At 10 117=true:=by kernel_rfl
theorem ua118:okS ok_At 10 118=true:=by kernel_rfl
theorem ua119:okS ok_At 10 119=true:=by kernel_rfl
theorem ua120:okS ok_At 10 120=true:=by kernel_rfl
theorem ua121:okS ok_At 10 121=true:=by kernel_rfl
theorem ua122:okS ok_At 10 122=true:=by kernel_rfl
theorem ua123:okS ok_At 10 123=true:=by kernel_rfl
theorem ua124:okS ok_At 10 124=true:=by kernel_rfl
theorem ua125:okS ok_At 10 125=true:=by kernel_rfl
theorem ua126:okS ok_At 10 126=true:=by kernel_rfl
theorem ua127:okS ok_At 10 127=true:=by kernel_rfl
theorem ua128:okS ok_At 10 128=true:=by kernel_rfl
theorem ua129:okS ok_At 10 129=true:=by kernel_rfl
theorem ua130:okS ok_At 10 130=true:=by kernel_rfl
theorem ua131:okS ok_At 10 131=true:=by kernel_rfl
theorem ua132:okS ok_At 10 132=true:=by kernel_rfl
theorem ua133:okS ok_At 10 133=true:=by kernel_rfl
theorem ua134:okS ok_At 10 134=true:=by kernel_rfl
theorem ua135:okS ok_At 10 135=true:=by kernel_rfl
theorem ua136:okS ok_At 10 136=true:=by kernel_rfl
theorem ua137:okS ok_At 10 137=true:=by kernel_rfl
theorem ua138:okS ok_At 10 138=true:=by kernel_rfl
theorem ua139:okS ok_At 10 139=true:=by kernel_rfl
theorem ua140:okS ok_At 10 140=true:=by kernel_rfl
theorem ua141:okS ok_At 10 141=true:=by kernel_rfl
theorem ua142:okS ok_At 10 142=true:=by kernel_rfl
theorem ua143:okS ok_At 10 143=true:=by kernel_rfl
theorem ua144:okS ok_At 10 144=true:=by kernel_rfl
theorem ua145:okS ok_At 10 145=true:=by kernel_rfl
theorem ua146:okS ok_At 10 146=true:=by kernel_rfl
theorem ua147:okS ok_At 10 147=true:=by kernel_rfl
theorem ua148:okS ok_At 10 148=true:=by kernel_rfl
theorem ua149:okS ok_At 10 149=true:=by kernel_rfl
theorem ua150:okS ok_At 10 150=true:=by kernel_rfl
theorem ua151:okS ok_At 10 151=true:=by kernel_rfl
theorem ua152:okS ok_At 10 152=true:=by kernel_rfl
theorem ua153:okS ok_At 10 153=true:=by kernel_rfl
theorem ua154:okS ok_At 10 154=true:=by kernel_rfl
theorem ua155:okS ok_At 10 155=true:=by kernel_rfl
theorem ua156:okS ok_At 10 156=true:=by kernel_rfl
theorem ua157:okS ok_At 10 157=true:=by kernel_rfl
theorem ua158:okS ok_At 10 158=true:=by kernel_rfl
theorem ua159:okS ok_At 10 159=true:=by kernel_rfl
theorem ua160:okS ok_At 10 160=true:=by kernel_rfl
theorem ua161:okS ok_At 10 161=true:=by kernel_rfl
theorem ua162:okS ok_At 10 162=true:=by kernel_rfl
theorem ua163:okS ok_At 10 163=true:=by kernel_rfl
theorem ua164:okS ok_At 10 164=true:=by kernel_rfl
theorem ua165:okS ok_At 10 165=true:=by kernel_rfl
theorem ua166:okS ok_At 10 166=true:=by kernel_rfl
theorem ua167:okS ok_At 10 167=true:=by kernel_rfl
theorem ua168:okS ok_At 10 168=true:=by kernel_rfl
theorem ua169:okS ok_At 10 169=true:=by kernel_rfl
theorem ua170:okS ok_At 10 170=true:=by kernel_rfl
theorem ua171:okS ok_At 10 171=true:=by kernel_rfl
theorem ua172:okS ok_At 10 172=true:=by kernel_rfl
theorem ua173:okS ok_At 10 173=true:=by kernel_rfl
theorem ua174:okS ok_At 10 174=true:=by kernel_rfl
theorem ua175:okS ok_At 10 175=true:=by kernel_rfl
theorem ua176:okS ok_At 10 176=true:=by kernel_rfl
theorem ua177:okS ok_At 10 177=true:=by kernel_rfl
theorem ua178:okS ok_At 10 178=true:=by kernel_rfl
theorem ua179:okS ok_At 10 179=true:=by kernel_rfl
theorem ua180:okS ok_At 10 180=true:=by kernel_rfl
theorem ua181:okS ok_At 10 181=true:=by kernel_rfl
theorem ua182:okS ok_At 10 182=true:=by kernel_rfl
theorem ua183:okS ok_At 10 183=true:=by kernel_rfl
theorem ua184:okS ok_At 10 184=true:=by kernel_rfl
theorem ua185:okS ok_At 10 185=true:=by kernel_rfl
theorem ua186:okS ok_At 10 186=true:=by kernel_rfl
theorem ua187:okS ok_At 10 187=true:=by kernel_rfl
theorem ua188:okS ok_At 10 188=true:=by kernel_rfl
theorem ua189:okS ok_At 10 189=true:=by kernel_rfl
theorem ua190:okS ok_At 10 190=true:=by kernel_rfl
theorem ua191:okS ok_At 10 191=true:=by kernel_rfl
theorem ua192:okS ok_At 10 192=true:=by kernel_rfl
theorem ua193:okS ok_At 10 193=true:=by kernel_rfl
theorem ua194:okS ok_At 10 194=true:=by kernel_rfl
theorem ua195:okS ok_At 10 195=true:=by kernel_rfl
theorem ua196:okS ok_At 10 196=true:=by kernel_rfl
theorem ua197:okS ok_At 10 197=true:=by kernel_rfl
theorem ua198:okS ok_At 10 198=true:=by kernel_rfl
theorem ua199:okS ok_At 10 199=true:=by kernel_rfl
theorem ua200:okS ok_At 10 200=true:=by kernel_rfl
theorem ua201:okS ok_At 10 201=true:=by kernel_rfl
theorem ua202:okS ok_At 10 202=true:=by kernel_rfl
theorem ua203:okS ok_At 10 203=true:=by kernel_rfl
theorem ua204:okS ok_At 10 204=true:=by kernel_rfl
theorem ua205:okS ok_At 10 205=true:=by kernel_rfl
theorem ua_1:okL ok_At 10 103 103=true:=(cc ua103 (cc ua104 (cc ua105 (cc ua106 (cc ua107 (cc ua108 (cc ua109 (cc ua110 (cc ua111 (cc ua112 (cc ua113 (cc ua114 (cc ua115 (cc ua116 (cc ua117 (cc ua118 (cc ua119 (cc ua120 (cc ua121 (cc ua122 (cc ua123 (cc ua124 (cc ua125 (cc ua126 (cc ua127 (cc ua128 (cc ua129 (cc ua130 (cc ua131 (cc ua132 (cc ua133 (cc ua134 (cc ua135 (cc ua136 (cc ua137 (cc ua138 (cc ua139 (cc ua140 (cc ua141 (cc ua142 (cc ua143 (cc ua144 (cc ua145 (cc ua146 (cc ua147 (cc ua148 (cc ua149 (cc ua150 (cc ua151 (cc ua152 (cc ua153 (cc ua154 (cc ua155 (cc ua156 (cc ua157 (cc ua158 (cc ua159 (cc ua160 (cc ua161 (cc ua162 (cc ua163 (cc ua164 (cc ua165 (cc ua166 (cc ua167 (cc ua168 (cc ua169 (cc ua170 (cc ua171 (cc ua172 (cc ua173 (cc ua174 (cc ua175 (cc ua176 (cc ua177 (cc ua178 (cc ua179 (cc ua180 (cc ua181 (cc ua182 (cc ua183 (cc ua184 (cc ua185 (cc ua186 (cc ua187 (cc ua188 (cc ua189 (cc ua190 (cc ua191 (cc ua192 (cc ua193 (cc ua194 (cc ua195 (cc ua196 (cc ua197 (cc ua198 (cc ua199 (cc ua200 (cc ua201 (cc ua202 (cc ua203 (cc ua204 (cc ua205 rfl)))))))))))))))))))))))))))))))))))))))))))))))))))))))))))))))))))))))))))))))))))))))))))))))))))))))
end
end Go.AI.T
