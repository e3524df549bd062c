/- The evaluation, part 0. -/
import Derived.Test.YtecliakkmgoglaaGreatDoorWidFn
import Derived.KernelRfl
set_option linter.unusedVariables false
set_option linter.unusedSimpArgs false
set_option maxRecDepth 100000
namespace Go.AI.T
open Go Go.RowKit Go.AI
noncomputable section
theorem v0:okS ok_Wid 10 0=true:=by kernel_rfl
theorem v1:okS ok_Wid 10 1=true:=by kernel_rfl
theorem v2:okS ok_Wid 10 2=true:=by kernel_rfl
theorem v3:okS ok_Wid 10 3=true:=by kernel_rfl
theorem v4:okS ok_Wid 10 4=true:=by kernel_rfl
theorem v5:okS ok_Wid 10 5=true:=by kernel_rfl
theorem v6:okS ok_Wid 10 6=true:=by kernel_rfl
theorem v7:okS ok_Wid 10 7=true:=by kernel_rfl
theorem v8:okS ok_Wid 10 8=true:=by kernel_rfl
theorem v9:okS ok_Wid 10 9=true:=by kernel_rfl
theorem v10:okS ok_Wid 10 10=true:=by kernel_rfl
theorem v11:okS ok_Wid 10 11=true:=by kernel_rfl
theorem v12:okS ok_Wid 10 12=true:=by kernel_rfl
theorem v13:okS ok_Wid 10 13=true:=by kernel_rfl
theorem v14:okS ok_Wid 10 14=true:=by kernel_rfl
theorem v15:okS ok_Wid 10 15=true:=by kernel_rfl
theorem v16:okS ok_Wid 10 16=true:=by kernel_rfl
theorem v17:okS ok_Wid 10 17=true:=by kernel_rfl
theorem v18:okS ok_Wid 10 18=true:=by kernel_rfl
theorem v19:okS ok_Wid 10 19=true:=by kernel_rfl
theorem v20:okS ok_Wid 10 20=true:=by kernel_rfl
theorem v21:okS ok_Wid 10 21=true:=by kernel_rfl
theorem v22:okS ok_Wid 10 22=true:=by kernel_rfl
theorem v23:okS ok_Wid 10 23=true:=by kernel_rfl
theorem v24:okS ok_Wid 10 24=true:=by kernel_rfl
theorem v25:okS ok_Wid 10 25=true:=by kernel_rfl
theorem v26:okS ok_Wid 10 26=true:=by kernel_rfl
theorem v27:okS ok_Wid 10 27=true:=by kernel_rfl
theorem v28:okS ok_Wid 10 28=true:=by kernel_rfl
theorem v29:okS ok_Wid 10 29=true:=by kernel_rfl
theorem v30:okS ok_Wid 10 30=true:=by kernel_rfl
theorem v31:okS ok_Wid 10 31=true:=by kernel_rfl
theorem v32:okS ok_Wid 10 32=true:=by kernel_rfl
theorem v33:okS ok_Wid 10 33=true:=by kernel_rfl
theorem v34:okS ok_Wid 10 34=true:=by kernel_rfl
theorem v35:okS ok_Wid 10 35=true:=by kernel_rfl
theorem v36:okS ok_Wid 10 36=true:=by kernel_rfl
theorem v37:okS ok_Wid 10 37=true:=by kernel_rfl
theorem v38:okS ok_Wid 10 38=true:=by kernel_rfl
theorem v39:okS ok_Wid 10 39=true:=by kernel_rfl
theorem v40:okS ok_Wid 10 40=true:=by kernel_rfl
theorem v41:okS ok_Wid 10 41=true:=by kernel_rfl
theorem v42:okS ok_Wid 10 42=true:=by kernel_rfl
theorem v43:okS ok_Wid 10 43=true:=by kernel_rfl
theorem v44:okS ok_Wid 10 44=true:=by kernel_rfl
theorem v45:okS ok_Wid 10 45=true:=by kernel_rfl
theorem v46:okS ok_Wid 10 46=true:=by kernel_rfl
theorem v47:okS ok_Wid 10 47=true:=by kernel_rfl
theorem v48:okS ok_Wid 10 48=true:=by kernel_rfl
theorem v49:okS ok_Wid 10 49=true:=by kernel_rfl
theorem v50:okS ok_Wid 10 50=true:=by kernel_rfl
theorem v51:okS ok_Wid 10 51=true:=by kernel_rfl
theorem v52:okS ok_Wid 10 52=true:=by kernel_rfl
theorem v53:okS ok_Wid 10 53=true:=by kernel_rfl
theorem v54:okS ok_Wid 10 54=true:=by kernel_rfl
theorem v55:okS ok_Wid 10 55=true:=by kernel_rfl
theorem v56:okS ok_Wid 10 56=true:=by kernel_rfl
theorem v57:okS ok_Wid 10 57=true:=by kernel_rfl
theorem v58:okS ok_Wid 10 58=true:=by kernel_rfl
theorem v59:okS ok_Wid 10 59=true:=by kernel_rfl
theorem v60:okS ok_Wid 10 60=true:=by kernel_rfl
theorem v61:okS ok_Wid 10 61=true:=by kernel_rfl
theorem v62:okS ok_Wid 10 62=true:=by kernel_rfl
theorem v63:okS ok_Wid 10 63=true:=by kernel_rfl
theorem v64:okS ok_Wid 10 64=true:=by kernel_rfl
theorem v65:okS ok_Wid 10 65=true:=by kernel_rfl
theorem v66:okS ok_Wid 10 66=true:=by kernel_rfl
theorem v67:okS ok_Wid 10 67=true:=by kernel_rfl
theorem v68:okS ok_Wid 10 68=true:=by kernel_rfl
theorem v69:okS ok_Wid 10 69=true:=by kernel_rfl
theorem v70:okS ok_Wid 10 70=true:=by kernel_rfl
theorem v71:okS ok_Wid 10 71=true:=by kernel_rfl
theorem v72:okS ok_Wid 10 72=true:=by kernel_rfl
theorem v73:okS ok_Wid 10 73=true:=by kernel_rfl
theorem v74:okS ok_Wid 10 74=true:=by kernel_rfl
theorem v75:okS ok_Wid 10 75=true:=by kernel_rfl
theorem v76:okS ok_Wid 10 76=true:=by kernel_rfl
theorem v77:okS ok_Wid 10 77=true:=by kernel_rfl
theorem v78:okS ok_Wid 10 78=true:=by kernel_rfl
theorem v79:okS ok_Wid 10 79=true:=by kernel_rfl
theorem v80:okS ok_Wid 10 80=true:=by kernel_rfl
theorem v81:okS ok_Wid 10 81=true:=by kernel_rfl
theorem v82:okS ok_Wid 10 82=true:=by kernel_rfl
theorem v83:okS ok_Wid 10 83=true:=by kernel_rfl
theorem v84:okS ok_Wid 10 84=true:=by kernel_rfl
theorem v85:okS ok_Wid 10 85=true:=by kernel_rfl
theorem v86:okS ok_Wid 10 86=true:=by kernel_rfl
theorem v87:okS ok_Wid 10 87=true:=by kernel_rfl
theorem v88:okS ok_Wid 10 88=true:=by kernel_rfl
theorem v89:okS ok_Wid 10 89=true:=by kernel_rfl
theorem v90:okS ok_Wid 10 90=true:=by kernel_rfl
theorem v91:okS ok_Wid 10 91=true:=by kernel_rfl
theorem v92:okS ok_Wid 10 92=true:=by kernel_rfl
theorem v93:okS ok_Wid 10 93=true:=by kernel_rfl
theorem v94:okS ok_Wid 10 94=true:=by kernel_rfl
theorem v95:okS ok_Wid 10 95=true:=by kernel_rfl
theorem v96:okS ok_Wid 10 96=true:=by kernel_rfl
theorem v97:okS ok_Wid 10 97=true:=by kernel_rfl
theorem v98:okS ok_Wid 10 98=true:=by kernel_rfl
theorem v99:okS ok_Wid 10 99=true:=by kernel_rfl
theorem v100:okS ok_Wid 10 100=true:=by kernel_rfl
theorem v101:okS ok_Wid 10 101=true:=by kernel_rfl
theorem v102:okS ok_Wid 10 102=true:=by kernel_rfl
theorem v_0:okL ok_Wid 10 0 103=true:=(cc v0 (cc v1 (cc v2 (cc v3 (cc v4 (cc v5 (cc v6 (cc v7 (cc v8 (cc v9 (cc v10 (cc v11 (cc v12 (cc v13 (cc v14 (cc v15 (cc v16 (cc v17 (cc v18 (cc v19 (cc v20 (cc v21 (cc v22 (cc v23 (cc v24 (cc v25 (cc v26 (cc v27 (cc v28 (cc v29 (cc v30 (cc v31 (cc v32 (cc v33 (cc v34 (cc v35 (cc v36 (cc v37 (cc v38 (cc v39 (cc v40 (cc v41 (cc v42 (cc v43 (cc v44 (cc v45 (cc v46 (cc v47 (cc v48 (cc v49 (cc v50 (cc v51 (cc v52 (cc v53 (cc v54 (cc v55 (cc v56 (cc v57 (cc v58 (cc v59 (cc v60 (cc v61 (cc v62 (cc v63 (cc v64 (cc v65 (cc v66 (cc v67 (cc v68 (cc v69 (cc v70 (cc v71 (cc v72 (cc v73 (cc v74 (cc v75 (cc v76 (cc v77 (cc v78 (cc v79 (cc v80 (cc v81 (cc v82 (cc v83 (cc v84 (cc v85 (cc v86 (cc v87 (cc v88 (cc v89 (cc v90 (cc v91 (cc v92 (cc v93 (cc v94 (cc v95 (cc v96 (cc v97 (cc v98 (cc v99 (cc v100 (cc v101 (cc v102 rfl)))))))))))))))))))))))))))))))))))))))))))))))))))))))))))))))))))))))))))))))))))))))))))))))))))))))
end
end Go.AI.T
