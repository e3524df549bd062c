/- The evaluation, part 0. -/
import Derived.Test.YtecliakkmgoglaaGreatDoorAtFn
import Derived.KernelRfl
set_option linter.unusedVariables false
set_option linter.unusedSimpArgs false
set_option maxRecDepth 100000
namespace Go.AI.T
open Go Go.RowKit Go.AI
noncomputable section
theorem ua0:okS ok_At 10 0=true:=by kernel_rfl
theorem ua1:okS ok_At 10 1=true:=by kernel_rfl
theorem ua2:okS ok_At 10 2=true:=by kernel_rfl
theorem ua3:okS ok_At 10 3=true:=by kernel_rfl
theorem ua4:okS ok_At 10 4=true:=by kernel_rfl
theorem ua5:okS ok_At 10 5=true:=by kernel_rfl
theorem ua6:okS ok_At 10 6=true:=by kernel_rfl
theorem ua7:okS ok_At 10 7=true:=by kernel_rfl
theorem ua8:okS ok_At 10 8=true:=by kernel_rfl
theorem ua9:okS ok_At 10 9=true:=by kernel_rfl
theorem ua10:okS ok_At 10 10=true:=by kernel_rfl
theorem ua11:okS ok_At 10 11=true:=by kernel_rfl
theorem ua12:okS ok_At 10 12=true:=by kernel_rfl
theorem ua13:okS ok_At 10 13=true:=by kernel_rfl
theorem ua14:okS ok_At 10 14=true:=by kernel_rfl
theorem ua15:okS ok_At 10 15=true:=by kernel_rfl
theorem ua16:okS ok_At 10 16=true:=by kernel_rfl
theorem ua17:okS ok_At 10 17=true:=by kernel_rfl
theorem ua18:okS ok_At 10 18=true:=by kernel_rfl
theorem ua19:okS ok_At 10 19=true:=by kernel_rfl
theorem ua20:okS ok_At 10 20=true:=by kernel_rfl
theorem ua21:okS ok_At 10 21=true:=by kernel_rfl
theorem ua22:okS ok_At 10 22=true:=by kernel_rfl
theorem ua23:okS ok_At 10 23=true:=by kernel_rfl
theorem ua24:okS ok_At 10 24=true:=by kernel_rfl
theorem ua25:okS ok_At 10 25=true:=by kernel_rfl
theorem ua26:okS ok_At 10 26=true:=by kernel_rfl
theorem ua27:okS ok_At 10 27=true:=by kernel_rfl
theorem ua28:okS ok_At 10 28=true:=by kernel_rfl
theorem ua29:okS ok_At 10 29=true:=by kernel_rfl
theorem ua30:okS ok_At 10 30=true:=by kernel_rfl
theorem ua31:okS ok_At 10 31=true:=by kernel_rfl
theorem ua32:okS ok_At 10 32=true:=by kernel_rfl
theorem ua33:okS ok_At 10 33=true:=by kernel_rfl
theorem ua34:okS ok_At 10 34=true:=by kernel_rfl
theorem ua35:okS ok_At 10 35=true:=by kernel_rfl
theorem ua36:okS ok_At 10 36=true:=by kernel_rfl
theorem ua37:okS ok_At 10 37=true:=by kernel_rfl
theorem ua38:okS ok_At 10 38=true:=by kernel_rfl
theorem ua39:okS ok_At 10 39=true:=by kernel_rfl
theorem ua40:okS ok_At 10 40=true:=by kernel_rfl
theorem ua41:okS ok_At 10 41=true:=by kernel_rfl
theorem ua42:okS ok_At 10 42=true:=by kernel_rfl
theorem ua43:okS ok_At 10 43=true:=by kernel_rfl
theorem ua44:okS ok_At 10 44=true:=by kernel_rfl
theorem ua45:okS ok_At 10 45=true:=by kernel_rfl
theorem ua46:okS ok_At 10 46=true:=by kernel_rfl
theorem ua47:okS ok_At 10 47=true:=by kernel_rfl
theorem ua48:okS ok_At 10 48=true:=by kernel_rfl
theorem ua49:okS ok_At 10 49=true:=by kernel_rfl
theorem ua50:okS ok_At 10 50=true:=by kernel_rfl
theorem ua51:okS ok_At 10 51=true:=by kernel_rfl
theorem ua52:okS ok_At 10 52=true:=by kernel_rfl
theorem ua53:okS ok_At 10 53=true:=by kernel_rfl
theorem ua54:okS ok_At 10 54=true:=by kernel_rfl
theorem ua55:okS ok_At 10 55=true:=by kernel_rfl
theorem ua56:okS ok_At 10 56=true:=by kernel_rfl
theorem ua57:okS ok_At 10 57=true:=by kernel_rfl
theorem ua58:okS ok_At 10 58=true:=by kernel_rfl
theorem ua59:okS ok_At 10 59=true:=by kernel_rfl
theorem ua60:okS ok_At 10 60=true:=by kernel_rfl
theorem ua61:okS ok_At 10 61=true:=by kernel_rfl
theorem ua62:okS ok_At 10 62=true:=by kernel_rfl
theorem ua63:okS ok_At 10 63=true:=by kernel_rfl
theorem ua64:okS ok_At 10 64=true:=by kernel_rfl
theorem ua65:okS ok_At 10 65=true:=by kernel_rfl
theorem ua66:okS ok_At 10 66=true:=by kernel_rfl
theorem ua67:okS ok_At 10 67=true:=by kernel_rfl
theorem ua68:okS ok_At 10 68=true:=by kernel_rfl
theorem ua69:okS ok_At 10 69=true:=by kernel_rfl
theorem ua70:okS ok_At 10 70=true:=by kernel_rfl
theorem ua71:okS ok_At 10 71=true:=by kernel_rfl
theorem ua72:okS ok_At 10 72=true:=by kernel_rfl
theorem ua73:okS ok_At 10 73=true:=by kernel_rfl
theorem ua74:okS ok_At 10 74=true:=by kernel_rfl
theorem ua75:okS ok_At 10 75=true:=by kernel_rfl
theorem ua76:okS ok_At 10 76=true:=by kernel_rfl
theorem ua77:okS ok_At 10 77=true:=by kernel_rfl
theorem ua78:okS ok_At 10 78=true:=by kernel_rfl
theorem ua79:okS ok_At 10 79=true:=by kernel_rfl
theorem ua80:okS ok_At 10 80=true:=by kernel_rfl
theorem ua81:okS ok_At 10 81=true:=by kernel_rfl
theorem ua82:okS ok_At 10 82=true:=by kernel_rfl
theorem ua83:okS ok_At 10 83=true:=by kernel_rfl
theorem ua84:okS ok_At 10 84=true:=by kernel_rfl
theorem ua85:okS ok_At 10 85=true:=by kernel_rfl
theorem ua86:okS ok_At 10 86=true:=by kernel_rfl
theorem ua87:okS ok_At 10 87=true:=by kernel_rfl
theorem ua88:okS ok_At 10 88=true:=by kernel_rfl
theorem ua89:okS ok_At 10 89=true:=by kernel_rfl
theorem ua90:okS ok_At 10 90=true:=by kernel_rfl
theorem ua91:okS ok_At 10 91=true:=by kernel_rfl
theorem ua92:okS ok_At 10 92=true:=by kernel_rfl
theorem ua93:okS ok_At 10 93=true:=by kernel_rfl
theorem ua94:okS ok_At 10 94=true:=by kernel_rfl
theorem ua95:okS ok_At 10 95=true:=by kernel_rfl
theorem ua96:okS ok_At 10 96=true:=by kernel_rfl
theorem ua97:okS ok_At 10 97=true:=by kernel_rfl
theorem ua98:okS ok_At 10 98=true:=by kernel_rfl
theorem ua99:okS ok_At 10 99=true:=by kernel_rfl
theorem ua100:okS ok_At 10 100=true:=by kernel_rfl
theorem ua101:okS ok_At 10 101=true:=by kernel_rfl
theorem ua102:okS ok_At 10 102=true:=by kernel_rfl
theorem ua_0:okL ok_At 10 0 103=true:=(cc ua0 (cc ua1 (cc ua2 (cc ua3 (cc ua4 (cc ua5 (cc ua6 (cc ua7 (cc ua8 (cc ua9 (cc ua10 (cc ua11 (cc ua12 (cc ua13 (cc ua14 (cc ua15 (cc ua16 (cc ua17 (cc ua18 (cc ua19 (cc ua20 (cc ua21 (cc ua22 (cc ua23 (cc ua24 (cc ua25 (cc ua26 (cc ua27 (cc ua28 (cc ua29 (cc ua30 (cc ua31 (cc ua32 (cc ua33 (cc ua34 (cc ua35 (cc ua36 (cc ua37 (cc ua38 (cc ua39 (cc ua40 (cc ua41 (cc ua42 (cc ua43 (cc ua44 (cc ua45 (cc ua46 (cc ua47 (cc ua48 (cc ua49 (cc ua50 (cc ua51 (cc ua52 (cc ua53 (cc ua54 (cc ua55 (cc ua56 (cc ua57 (cc ua58 (cc ua59 (cc ua60 (cc ua61 (cc ua62 (cc ua63 (cc ua64 (cc ua65 (cc ua66 (cc ua67 (cc ua68 (cc ua69 (cc ua70 (cc ua71 (cc ua72 (cc ua73 (cc ua74 (cc ua75 (cc ua76 (cc ua77 (cc ua78 (cc ua79 (cc ua80 (cc ua81 (cc ua82 (cc ua83 (cc ua84 (cc ua85 (cc ua86 (cc ua87 (cc ua88 (cc ua89 (cc ua90 (cc ua91 (cc ua92 (cc ua93 (cc ua94 (cc ua95 (cc ua96 (cc ua97 (cc ua98 (cc ua99 (cc ua100 (cc ua101 (cc ua102 rfl)))))))))))))))))))))))))))))))))))))))))))))))))))))))))))))))))))))))))))))))))))))))))))))))))))))))
end
end Go.AI.T
