/- The evaluation, part 1. -/
import Derived.Test.YtecliakkmgoglaaGreatDoorWidFn
import Derived.KernelRfl
set_option linter.unusedVariables false
set_option linter.unusedSimpArgs false
set_option maxRecDepth 100000
namespace Go.AI.T
open Go Go.RowKit Go.AI
noncomputable section
theorem v103:okS ok_Wid 10 103=true:=by kernel_rfl
theorem v104:okS ok_Wid 10 104=true:=by kernel_rfl
theorem v105:okS ok_Wid 10 105=true:=by kernel_rfl
theorem v106:okS ok_Wid 10 106=true:=by kernel_rfl
theorem v107:okS ok_Wid 10 107=true:=by kernel_rfl
theorem v108:okS ok_Wid 10 108=true:=by kernel_rfl
theorem v109:okS ok_Wid 10 109=true:=by kernel_rfl
theorem v110:okS ok_Wid 10 110=true:=by kernel_rfl
theorem v111:okS ok_Wid 10 111=true:=by kernel_rfl
theorem v112:okS ok_Wid 10 112=true:=by kernel_rfl
theorem v113:okS ok_Wid 10 113=true:=by kernel_rfl
theorem v114:okS ok_Wid 10 114=true:=by kernel_rfl
theorem v115:okS ok_Wid 10 115=true:=by kernel_rfl
theorem v116:okS ok_Wid 10 116=true:=by kernel_rfl
theorem v117:okS ok_Wid 10 117=true:=by kernel_rfl
theorem v118:okS ok_Wid 10 118=true:=by kernel_rfl
theorem v119:okS ok_Wid 10 119=true:=by kernel_rfl
theorem v120:okS ok_Wid 10 120=true:=by kernel_rfl
theorem v121:okS ok_Wid 10 121=true:=by kernel_rfl
theorem v122:okS ok_Wid 10 122=true:=by kernel_rfl
theorem v123:okS ok_Wid 10 123=true:=by kernel_rfl
theorem v124:okS ok_Wid 10 124=true:=by kernel_rfl
theorem v125:okS ok_Wid 10 125=true:=by kernel_rfl
theorem v126:okS ok_Wid 10 126=true:=by kernel_rfl
theorem v127:okS ok_Wid 10 127=true:=by kernel_rfl
theorem v128:okS ok_Wid 10 128=true:=by kernel_rfl
theorem v129:okS ok_Wid 10 129=true:=by kernel_rfl
theorem v130:okS ok_Wid 10 130=true:=by kernel_rfl
theorem v131:okS ok_Wid 10 131=true:=by kernel_rfl
theorem v132:okS ok_Wid 10 132=true:=by kernel_rfl
theorem v133:okS ok_Wid 10 133=true:=by kernel_rfl
theorem v134:okS ok_Wid 10 134=true:=by kernel_rfl
theorem v135:okS ok_Wid 10 135=true:=by kernel_rfl
theorem v136:okS ok_Wid 10 136=true:=by kernel_rfl
theorem v137:okS ok_Wid 10 137=true:=by kernel_rfl
theorem v138:okS ok_Wid 10 138=true:=by kernel_rfl
theorem v139:okS ok_Wid 10 139=true:=by kernel_rfl
theorem v140:okS ok_Wid 10 140=true:=by kernel_rfl
theorem v141:okS ok_Wid 10 141=true:=by kernel_rfl
theorem v142:okS ok_Wid 10 142=true:=by kernel_rfl
theorem v143:okS ok_Wid 10 143=true:=by kernel_rfl
theorem v144:okS ok_Wid 10 144=true:=by kernel_rfl
theorem v145:okS ok_Wid 10 145=true:=by kernel_rfl
theorem v146:okS ok_Wid 10 146=true:=by kernel_rfl
theorem v147:okS ok_Wid 10 147=true:=by kernel_rfl
theorem v148:okS ok_Wid 10 148=true:=by kernel_rfl
theorem v149:okS ok_Wid 10 149=true:=by kernel_rfl
theorem v150:okS ok_Wid 10 150=true:=by kernel_rfl
theorem v151:okS ok_Wid 10 151=true:=by kernel_rfl
theorem v152:okS ok_Wid 10 152=true:=by kernel_rfl
theorem v153:okS ok_Wid 10 153=true:=by kernel_rfl
theorem v154:okS ok_Wid 10 154=true:=by kernel_rfl
theorem v155:okS ok_Wid 10 155=true:=by kernel_rfl
theorem v156:okS ok_Wid 10 156=true:=by kernel_rfl
theorem v157:okS ok_Wid 10 157=true:=by kernel_rfl
theorem v158:okS ok_Wid 10 158=true:=by kernel_rfl
theorem v159:okS ok_Wid 10 159=true:=by kernel_rfl
theorem v160:okS ok_Wid 10 160=true:=by kernel_rfl
theorem v161:okS ok_Wid 10 161=true:=by kernel_rfl
theorem v162:okS ok_Wid 10 162=true:=by kernel_rfl
theorem v163:okS ok_Wid 10 163=true:=by kernel_rfl
theorem v164:okS ok_Wid 10 164=true:=by kernel_rfl
theorem v165:okS ok_Wid 10 165=true:=by kernel_rfl
theorem v166:okS ok_Wid 10 166=true:=by kernel_rfl
theorem v167:okS ok_Wid 10 167=true:=by kernel_rfl
theorem v168:okS ok_Wid 10 168=true:=by kernel_rfl
theorem v169:okS ok_Wid 10 169=true:=by kernel_rfl
theorem v170:okS ok_Wid 10 170=true:=by kernel_rfl
theorem v171:okS ok_Wid 10 171=true:=by kernel_rfl
theorem v172:okS ok_Wid 10 172=true:=by kernel_rfl
theorem v173:okS ok_Wid 10 173=true:=by kernel_rfl
theorem v174:okS ok_Wid 10 174=true:=by kernel_rfl
theorem v175:okS ok_Wid 10 175=true:=by kernel_rfl
theorem v176:okS ok_Wid 10 176=true:=by kernel_rfl
theorem v177:okS ok_Wid 10 177=true:=by kernel_rfl
theorem v178:okS ok_Wid 10 178=true:=by kernel_rfl
theorem v179:okS ok_Wid 10 179=true:=by kernel_rfl
theorem v180:okS ok_Wid 10 180=true:=by kernel_rfl
theorem v181:okS ok_Wid 10 181=true:=by kernel_rfl
theorem v182:okS ok_Wid 10 182=true:=by kernel_rfl
theorem v183:okS ok_Wid 10 183=true:=by kernel_rfl
theorem v184:okS ok_Wid 10 184=true:=by kernel_rfl
theorem v185:okS ok_Wid 10 185=true:=by kernel_rfl
theorem v186:okS ok_Wid 10 186=true:=by kernel_rfl
theorem v187:okS ok_Wid 10 187=true:=by kernel_rfl
theorem v188:okS ok_Wid 10 188=true:=by kernel_rfl
theorem v189:okS ok_Wid 10 189=true:=by kernel_rfl
theorem v190:okS ok_Wid 10 190=true:=by kernel_rfl
theorem v191:okS ok_Wid 10 191=true:=by kernel_rfl
theorem v192:okS ok_Wid 10 192=true:=by kernel_rfl
theorem v193:okS ok_Wid 10 193=true:=by kernel_rfl
theorem v194:okS ok_Wid 10 194=true:=by kernel_rfl
theorem v195:okS ok_Wid 10 195=true:=by kernel_rfl
theorem v196:okS ok_Wid 10 196=true:=by kernel_rfl
theorem v197:okS ok_Wid 10 197=true:=by kernel_rfl
theorem v198:okS ok_Wid 10 198=true:=by kernel_rfl
theorem v199:okS ok_Wid 10 199=true:=by kernel_rfl
theorem v200:okS ok_Wid 10 200=true:=by kernel_rfl
theorem v201:okS ok_Wid 10 201=true:=by kernel_rfl
theorem v202:okS ok_Wid 10 202=true:=by kernel_rfl
theorem v203:okS ok_Wid 10 203=true:=by kernel_rfl
theorem v204:okS ok_Wid 10 204=true:=by kernel_rfl
theorem v205:okS ok_Wid 10 205=true:=by kernel_rfl
theorem v_1:okL ok_Wid 10 103 103=true:=(cc v103 (cc v104 (cc v105 (cc v106 (cc v107 (cc v108 (cc v109 (cc v110 (cc v111 (cc v112 (cc v113 (cc v114 (cc v115 (cc v116 (cc v117 (cc v118 (cc v119 (cc v120 (cc v121 (cc v122 (cc v123 (cc v124 (cc v125 (cc v126 (cc v127 (cc v128 (cc v129 (cc v130 (cc v131 (cc v132 (cc v133 (cc v134 (cc v135 (cc v136 (cc v137 (cc v138 (cc v139 (cc v140 (cc v141 (cc v142 (cc v143 (cc v144 (cc v145 (cc v146 (cc v147 (cc v148 (cc v149 (cc v150 (cc v151 (cc v152 (cc v153 (cc v154 (cc v155 (cc v156 (cc v157 (cc v158 (cc v159 (cc v160 (cc v161 (cc v162 (cc v163 (cc v164 (cc v165 (cc v166 (cc v167 (cc v168 (cc v169 (cc v170 (cc v171 (cc v172 (cc v173 (cc v174 (cc v175 (cc v176 (cc v177 (cc v178 (cc v179 (cc v180 (cc v181 (cc v182 (cc v183 (cc v184 (cc v185 (cc v186 (cc v187 (cc v188 (cc v189 (cc v190 (cc v191 (cc v192 (cc v193 (cc v194 (cc v195 (cc v196 (cc v197 (cc v198 (cc v199 (cc v200 (cc v201 (cc v202 (cc v203 (cc v204 (cc v205 rfl)))))))))))))))))))))))))))))))))))))))))))))))))))))))))))))))))))))))))))))))))))))))))))))))))))))))
end
end Go.AI.T
