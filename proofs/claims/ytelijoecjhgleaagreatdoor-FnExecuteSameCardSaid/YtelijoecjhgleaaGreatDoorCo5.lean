/- Goroutines in company, part 5. -/
import Derived.Test.YtelijoecjhgleaaGreatDoorCo4
import Derived.Test.YtelijoecjhgleaaGreatDoorProg
import Derived.KernelRfl
import Derived.Test.YtelijoecjhgleaaGreatDoorCo3
import Derived.Test.YtelijoecjhgleaaGreatDoorAi2
set_option linter.unusedVariables false
set_option linter.unusedSimpArgs false
set_option maxRecDepth 100000
namespace Go.Co.Cnt
open Go Go.Conc
noncomputable section
def Rc0:Array Oper:=List.toArray ([Go.Oper.mk (some (3)) (Go.Op.box (32) (Go.Operand.tmp (1))) (0) ("l4_counts.go:20") (List.toArray ([])) (none),Go.Oper.mk (some (4)) (Go.Op.assign (Go.Operand.const (Go.Value.slice (none) (0) (0)))) (29) ("l4_counts.go:20") (List.toArray ([])) (none)])
def Rc1:Array Oper:=List.toArray ([Go.Oper.mk (some (5)) (Go.Op.alloc (77)) (0) ("l4_counts.go:21") (List.toArray ([])) (none)])
def Rc2:Array Oper:=List.toArray ([Go.Oper.mk (some (6)) (Go.Op.assign (Go.Operand.const (Go.Value.slice (none) (0) (0)))) (78) ("l4_counts.go:22") (List.toArray ([])) (none)])
def Rc3:Array Oper:=List.toArray ([Go.Oper.mk (some (14)) (Go.Op.move (Go.Operand.tmp (0))) (34) ("l4_counts.go:23") (List.toArray ([])) (none),Go.Oper.mk (some (15)) (Go.Op.nilCheck (Go.Operand.tmp (14))) (0) ("l4_counts.go:23") (List.toArray ([Go.Edge.mk (0) (Go.Ground.data)])) (none),Go.Oper.mk (some (16)) (Go.Op.fieldAddr (52) (Go.Operand.tmp (15)) (2)) (0) ("l4_counts.go:23") (List.toArray ([Go.Edge.mk (1) (Go.Ground.data)])) (none),Go.Oper.mk (some (17)) (Go.Op.load (40) (Go.Operand.tmp (16))) (40) ("l4_counts.go:23") (List.toArray ([Go.Edge.mk (2) (Go.Ground.data)])) (none),Go.Oper.mk (some (18)) (Go.Op.call (Go.Call.mk (Go.Callee.builtin (Go.Builtin.len)) (List.toArray ([Go.Operand.tmp (17)])) (List.toArray ([40])))) (3) ("l4_counts.go:23") (List.toArray ([Go.Edge.mk (3) (Go.Ground.data)])) (none),Go.Oper.mk (some (19)) (Go.Op.move (Go.Operand.const (Go.Value.int (Go.IntKind.i64) (0)))) (3) ("l4_counts.go:23") (List.toArray ([])) (none)])
def Rc4:Array Oper:=List.toArray ([Go.Oper.mk (some (20)) (Go.Op.binOp (Go.BinOp.lss) (3) (Go.Operand.tmp (19)) (Go.Operand.tmp (18)) (3)) (0) ("l4_counts.go:23") (List.toArray ([])) (none)])
def Rc5:Array Oper:=List.toArray ([Go.Oper.mk (some (21)) (Go.Op.indexAddr (40) (Go.Operand.tmp (17)) (Go.Operand.tmp (19))) (0) ("l4_counts.go:23") (List.toArray ([])) (none),Go.Oper.mk (some (22)) (Go.Op.load (34) (Go.Operand.tmp (21))) (34) ("l4_counts.go:23") (List.toArray ([Go.Edge.mk (0) (Go.Ground.data)])) (none),Go.Oper.mk (some (8)) (Go.Op.alloc (34)) (0) ("l4_counts.go:23") (List.toArray ([])) (none),Go.Oper.mk (none) (Go.Op.store (34) (Go.Operand.tmp (8)) (Go.Operand.tmp (22))) (0) ("l4_counts.go:23") (List.toArray ([Go.Edge.mk (2) (Go.Ground.data),Go.Edge.mk (1) (Go.Ground.data),Go.Edge.mk (0) (Go.Ground.phase),Go.Edge.mk (1) (Go.Ground.phase),Go.Edge.mk (2) (Go.Ground.phase)])) (none)])
def Rc6:Array Oper:=List.toArray ([Go.Oper.mk (some (23)) (Go.Op.makeChan (79) (Go.Operand.const (Go.Value.int (Go.IntKind.i64) (0)))) (79) ("l4_counts.go:24") (List.toArray ([])) (none),Go.Oper.mk (some (9)) (Go.Op.alloc (79)) (0) ("l4_counts.go:24") (List.toArray ([])) (none),Go.Oper.mk (none) (Go.Op.store (79) (Go.Operand.tmp (9)) (Go.Operand.tmp (23))) (0) ("l4_counts.go:24") (List.toArray ([Go.Edge.mk (1) (Go.Ground.data),Go.Edge.mk (0) (Go.Ground.data),Go.Edge.mk (0) (Go.Ground.phase),Go.Edge.mk (1) (Go.Ground.phase)])) (none)])
def Rc7:Array Oper:=List.toArray ([Go.Oper.mk (some (24)) (Go.Op.move (Go.Operand.tmp (6))) (78) ("l4_counts.go:25") (List.toArray ([])) (none),Go.Oper.mk (some (25)) (Go.Op.load (79) (Go.Operand.tmp (9))) (79) ("l4_counts.go:25") (List.toArray ([])) (none),Go.Oper.mk (some (26)) (Go.Op.buildSlice (78) (1) (List.toArray ([(0,Go.Operand.tmp (25))]))) (78) ("l4_counts.go:25") (List.toArray ([Go.Edge.mk (1) (Go.Ground.data)])) (none),Go.Oper.mk (some (27)) (Go.Op.call (Go.Call.mk (Go.Callee.builtin (Go.Builtin.append)) (List.toArray ([Go.Operand.tmp (24),Go.Operand.tmp (26)])) (List.toArray ([78,78])))) (78) ("l4_counts.go:25") (List.toArray ([Go.Edge.mk (0) (Go.Ground.data),Go.Edge.mk (2) (Go.Ground.data)])) (none),Go.Oper.mk (some (6)) (Go.Op.assign (Go.Operand.tmp (27))) (78) ("l4_counts.go:25") (List.toArray ([Go.Edge.mk (3) (Go.Ground.data),Go.Edge.mk (3) (Go.Ground.chain),Go.Edge.mk (0) (Go.Ground.phase),Go.Edge.mk (1) (Go.Ground.phase),Go.Edge.mk (2) (Go.Ground.phase),Go.Edge.mk (3) (Go.Ground.phase)])) (none)])
def Rc8:Array Oper:=List.toArray ([Go.Oper.mk (some (28)) (Go.Op.call (Go.Call.mk (Go.Callee.value (Go.Operand.func (37))) (List.toArray ([Go.Operand.tmp (5),Go.Operand.const (Go.Value.int (Go.IntKind.i64) (1))])) (List.toArray ([77,3])))) (0) ("l4_counts.go:26") (List.toArray ([])) (none)])
def Rc9:Array Oper:=List.toArray ([Go.Oper.mk (some (29)) (Go.Op.makeFunc (Go.Fn.func (38)) (List.toArray ([])) (List.toArray ([Go.Operand.tmp (5),Go.Operand.tmp (8),Go.Operand.tmp (3),Go.Operand.tmp (9)]))) (1) ("l4_counts.go:27") (List.toArray ([])) (none),Go.Oper.mk (none) (Go.Op.go (Go.Call.mk (Go.Callee.value (Go.Operand.tmp (29))) (List.toArray ([])) (List.toArray ([])))) (0) ("l4_counts.go:27") (List.toArray ([Go.Edge.mk (0) (Go.Ground.data)])) (none)])
def Rc10:Array Oper:=List.toArray ([Go.Oper.mk (some (30)) (Go.Op.binOp (Go.BinOp.add) (3) (Go.Operand.tmp (19)) (Go.Operand.const (Go.Value.int (Go.IntKind.i64) (1))) (3)) (3) ("l4_counts.go:23") (List.toArray ([])) (none),Go.Oper.mk (some (19)) (Go.Op.move (Go.Operand.tmp (30))) (3) ("l4_counts.go:23") (List.toArray ([Go.Edge.mk (0) (Go.Ground.data)])) (none)])
def Rc11:Array Oper:=List.toArray ([Go.Oper.mk (some (31)) (Go.Op.load (32) (Go.Operand.tmp (3))) (32) ("l4_counts.go:32") (List.toArray ([])) (none),Go.Oper.mk (some (32)) (Go.Op.move (Go.Operand.tmp (0))) (34) ("l4_counts.go:32") (List.toArray ([])) (none),Go.Oper.mk (some (33)) (Go.Op.call (Go.Call.mk (Go.Callee.value (Go.Operand.tmp (31))) (List.toArray ([Go.Operand.tmp (32)])) (List.toArray ([34])))) (3) ("l4_counts.go:32") (List.toArray ([Go.Edge.mk (0) (Go.Ground.data),Go.Edge.mk (1) (Go.Ground.data)])) (none),Go.Oper.mk (some (34)) (Go.Op.buildSlice (29) (1) (List.toArray ([(0,Go.Operand.tmp (33))]))) (29) ("l4_counts.go:32") (List.toArray ([Go.Edge.mk (2) (Go.Ground.data)])) (none),Go.Oper.mk (some (10)) (Go.Op.assign (Go.Operand.tmp (34))) (29) ("l4_counts.go:32") (List.toArray ([Go.Edge.mk (3) (Go.Ground.data),Go.Edge.mk (2) (Go.Ground.chain),Go.Edge.mk (0) (Go.Ground.phase),Go.Edge.mk (1) (Go.Ground.phase),Go.Edge.mk (2) (Go.Ground.phase),Go.Edge.mk (3) (Go.Ground.phase)])) (none)])
def Rc12:Array Oper:=List.toArray ([Go.Oper.mk (some (35)) (Go.Op.move (Go.Operand.tmp (6))) (78) ("l4_counts.go:33") (List.toArray ([])) (none),Go.Oper.mk (some (36)) (Go.Op.call (Go.Call.mk (Go.Callee.builtin (Go.Builtin.len)) (List.toArray ([Go.Operand.tmp (35)])) (List.toArray ([78])))) (3) ("l4_counts.go:33") (List.toArray ([Go.Edge.mk (0) (Go.Ground.data)])) (none),Go.Oper.mk (some (37)) (Go.Op.move (Go.Operand.const (Go.Value.int (Go.IntKind.i64) (0)))) (3) ("l4_counts.go:33") (List.toArray ([])) (none)])
def Rc13:Array Oper:=List.toArray ([Go.Oper.mk (some (38)) (Go.Op.binOp (Go.BinOp.lss) (3) (Go.Operand.tmp (37)) (Go.Operand.tmp (36)) (3)) (0) ("l4_counts.go:33") (List.toArray ([])) (none)])
def Rc14:Array Oper:=List.toArray ([Go.Oper.mk (some (39)) (Go.Op.indexAddr (78) (Go.Operand.tmp (35)) (Go.Operand.tmp (37))) (0) ("l4_counts.go:33") (List.toArray ([])) (none),Go.Oper.mk (some (40)) (Go.Op.load (79) (Go.Operand.tmp (39))) (79) ("l4_counts.go:33") (List.toArray ([Go.Edge.mk (0) (Go.Ground.data)])) (none),Go.Oper.mk (some (12)) (Go.Op.assign (Go.Operand.tmp (40))) (79) ("l4_counts.go:33") (List.toArray ([Go.Edge.mk (1) (Go.Ground.data),Go.Edge.mk (0) (Go.Ground.phase),Go.Edge.mk (1) (Go.Ground.phase)])) (none)])
def Rc15:Array Oper:=List.toArray ([Go.Oper.mk (some (41)) (Go.Op.move (Go.Operand.tmp (12))) (79) ("l4_counts.go:34") (List.toArray ([])) (none)])
def Rc16:Array Oper:=List.toArray ([Go.Oper.mk (some (42)) (Go.Op.recv (79) (Go.Operand.tmp (41)) (Bool.true)) (0) ("l4_counts.go:34") (List.toArray ([])) (none),Go.Oper.mk (some (43)) (Go.Op.extract (Go.Operand.tmp (42)) (1)) (4) ("l4_counts.go:34") (List.toArray ([Go.Edge.mk (0) (Go.Ground.data)])) (none)])
def Rc17:Array Oper:=List.toArray ([Go.Oper.mk (some (44)) (Go.Op.extract (Go.Operand.tmp (42)) (0)) (3) ("l4_counts.go:34") (List.toArray ([])) (none),Go.Oper.mk (some (13)) (Go.Op.assign (Go.Operand.tmp (44))) (3) ("l4_counts.go:34") (List.toArray ([Go.Edge.mk (0) (Go.Ground.data),Go.Edge.mk (0) (Go.Ground.phase)])) (none)])
def Rc18:Array Oper:=List.toArray ([Go.Oper.mk (some (45)) (Go.Op.move (Go.Operand.tmp (10))) (29) ("l4_counts.go:35") (List.toArray ([])) (none),Go.Oper.mk (some (46)) (Go.Op.move (Go.Operand.tmp (13))) (3) ("l4_counts.go:35") (List.toArray ([])) (none),Go.Oper.mk (some (47)) (Go.Op.buildSlice (29) (1) (List.toArray ([(0,Go.Operand.tmp (46))]))) (29) ("l4_counts.go:35") (List.toArray ([Go.Edge.mk (1) (Go.Ground.data)])) (none),Go.Oper.mk (some (48)) (Go.Op.call (Go.Call.mk (Go.Callee.builtin (Go.Builtin.append)) (List.toArray ([Go.Operand.tmp (45),Go.Operand.tmp (47)])) (List.toArray ([29,29])))) (29) ("l4_counts.go:35") (List.toArray ([Go.Edge.mk (0) (Go.Ground.data),Go.Edge.mk (2) (Go.Ground.data)])) (none),Go.Oper.mk (some (10)) (Go.Op.assign (Go.Operand.tmp (48))) (29) ("l4_counts.go:35") (List.toArray ([Go.Edge.mk (3) (Go.Ground.data),Go.Edge.mk (3) (Go.Ground.chain),Go.Edge.mk (0) (Go.Ground.phase),Go.Edge.mk (1) (Go.Ground.phase),Go.Edge.mk (2) (Go.Ground.phase),Go.Edge.mk (3) (Go.Ground.phase)])) (none)])
def Rc19:Array Oper:=List.toArray ([Go.Oper.mk (some (49)) (Go.Op.binOp (Go.BinOp.add) (3) (Go.Operand.tmp (37)) (Go.Operand.const (Go.Value.int (Go.IntKind.i64) (1))) (3)) (3) ("l4_counts.go:33") (List.toArray ([])) (none),Go.Oper.mk (some (37)) (Go.Op.move (Go.Operand.tmp (49))) (3) ("l4_counts.go:33") (List.toArray ([Go.Edge.mk (0) (Go.Ground.data)])) (none)])
def Rc20:Array Oper:=List.toArray ([Go.Oper.mk (some (50)) (Go.Op.call (Go.Call.mk (Go.Callee.value (Go.Operand.func (41))) (List.toArray ([Go.Operand.tmp (5)])) (List.toArray ([77])))) (0) ("l4_counts.go:38") (List.toArray ([])) (none)])
def Rc21:Array Oper:=List.toArray ([Go.Oper.mk (some (51)) (Go.Op.move (Go.Operand.tmp (10))) (29) ("l4_counts.go:39") (List.toArray ([])) (none),Go.Oper.mk (some (4)) (Go.Op.assign (Go.Operand.tmp (51))) (29) ("l4_counts.go:39") (List.toArray ([Go.Edge.mk (0) (Go.Ground.data),Go.Edge.mk (0) (Go.Ground.phase)])) (none)])
def Cc:Code:=Code.seq (Code.region 0 Rc0 false) (Code.seq (Code.region 1 Rc1 false) (Code.seq (Code.region 2 Rc2 false) (Code.seq (Code.seq (Code.region 3 Rc3 false) (Code.block 0 (Code.loop (Code.seq (Code.region 4 Rc4 false) (Code.seq (Code.cond (Go.Operand.tmp (20)) (Go.Code.skip) (Go.Code.exit (0))) (Code.seq (Code.block 1 (Code.seq (Code.region 5 Rc5 false) (Code.seq (Code.region 6 Rc6 false) (Code.seq (Code.region 7 Rc7 false) (Code.seq (Code.region 8 Rc8 false) (Code.region 9 Rc9 false)))))) (Code.region 10 Rc10 false))))))) (Code.seq (Code.region 11 Rc11 false) (Code.seq (Code.seq (Code.region 12 Rc12 false) (Code.block 2 (Code.loop (Code.seq (Code.region 13 Rc13 false) (Code.seq (Code.cond (Go.Operand.tmp (38)) (Go.Code.skip) (Go.Code.exit (2))) (Code.seq (Code.block 3 (Code.seq (Code.region 14 Rc14 false) (Code.seq (Code.region 15 Rc15 false) (Code.block 4 (Code.loop (Code.seq (Code.region 16 Rc16 false) (Code.seq (Code.cond (Go.Operand.tmp (43)) (Go.Code.skip) (Go.Code.exit (4))) (Code.block 5 (Code.seq (Code.region 17 Rc17 false) (Code.region 18 Rc18 false)))))))))) (Code.region 19 Rc19 false))))))) (Code.seq (Code.region 20 Rc20 false) (Code.seq (Code.region 21 Rc21 false) (Go.Code.ret))))))))
theorem body_c:Go.Proofs.Tryz.f23.body=some Cc:=by kernel_rfl
theorem func_c:Go.Proofs.Tryz.prog.funcs[23]?=some Go.Proofs.Tryz.f23:=Go.Proofs.Tryz.func23
abbrev n_c:Nat:=23
def Rk0:Array Oper:=List.toArray ([Go.Oper.mk (none) (Go.Op.defer (Go.Call.mk (Go.Callee.value (Go.Operand.func (39))) (List.toArray ([Go.Operand.tmp (0)])) (List.toArray ([77])))) (0) ("l4_counts.go:28") (List.toArray ([])) (none)])
def Rk1:Array Oper:=List.toArray ([Go.Oper.mk (some (4)) (Go.Op.load (34) (Go.Operand.tmp (1))) (34) ("l4_counts.go:29") (List.toArray ([])) (none),Go.Oper.mk (some (5)) (Go.Op.load (32) (Go.Operand.tmp (2))) (32) ("l4_counts.go:29") (List.toArray ([])) (none),Go.Oper.mk (some (6)) (Go.Op.load (79) (Go.Operand.tmp (3))) (79) ("l4_counts.go:29") (List.toArray ([])) (none),Go.Oper.mk (some (7)) (Go.Op.call (Go.Call.mk (Go.Callee.value (Go.Operand.func (40))) (List.toArray ([Go.Operand.tmp (4),Go.Operand.tmp (5),Go.Operand.tmp (6)])) (List.toArray ([34,32,114])))) (0) ("l4_counts.go:29") (List.toArray ([Go.Edge.mk (0) (Go.Ground.data),Go.Edge.mk (1) (Go.Ground.data),Go.Edge.mk (2) (Go.Ground.data)])) (none)])
def Ck:Code:=Code.seq (Code.region 0 Rk0 false) (Code.region 1 Rk1 false)
theorem body_k:Go.Proofs.Tryz.f38.body=some Ck:=by kernel_rfl
theorem func_k:Go.Proofs.Tryz.prog.funcs[38]?=some Go.Proofs.Tryz.f38:=Go.Proofs.Tryz.func38
abbrev n_k:Nat:=38
def Rs0:Array Oper:=List.toArray ([Go.Oper.mk (some (8)) (Go.Op.move (Go.Operand.tmp (2))) (114) ("l4_counts.go:44") (List.toArray ([])) (none),Go.Oper.mk (none) (Go.Op.defer (Go.Call.mk (Go.Callee.builtin (Go.Builtin.close)) (List.toArray ([Go.Operand.tmp (8)])) (List.toArray ([114])))) (0) ("l4_counts.go:44") (List.toArray ([Go.Edge.mk (0) (Go.Ground.data)])) (none)])
def Rs1:Array Oper:=List.toArray ([Go.Oper.mk (some (9)) (Go.Op.move (Go.Operand.tmp (0))) (34) ("l4_counts.go:45") (List.toArray ([])) (none),Go.Oper.mk (some (10)) (Go.Op.move (Go.Operand.tmp (1))) (32) ("l4_counts.go:45") (List.toArray ([])) (none),Go.Oper.mk (some (11)) (Go.Op.call (Go.Call.mk (Go.Callee.value (Go.Operand.func (23))) (List.toArray ([Go.Operand.tmp (9),Go.Operand.tmp (10)])) (List.toArray ([34,32])))) (29) ("l4_counts.go:45") (List.toArray ([Go.Edge.mk (0) (Go.Ground.data),Go.Edge.mk (1) (Go.Ground.data)])) (none),Go.Oper.mk (some (12)) (Go.Op.call (Go.Call.mk (Go.Callee.builtin (Go.Builtin.len)) (List.toArray ([Go.Operand.tmp (11)])) (List.toArray ([29])))) (3) ("l4_counts.go:45") (List.toArray ([Go.Edge.mk (2) (Go.Ground.data)])) (none),Go.Oper.mk (some (13)) (Go.Op.move (Go.Operand.const (Go.Value.int (Go.IntKind.i64) (0)))) (3) ("l4_counts.go:45") (List.toArray ([])) (none)])
def Rs2:Array Oper:=List.toArray ([Go.Oper.mk (some (14)) (Go.Op.binOp (Go.BinOp.lss) (3) (Go.Operand.tmp (13)) (Go.Operand.tmp (12)) (3)) (0) ("l4_counts.go:45") (List.toArray ([])) (none)])
def Rs3:Array Oper:=List.toArray ([Go.Oper.mk (some (15)) (Go.Op.indexAddr (29) (Go.Operand.tmp (11)) (Go.Operand.tmp (13))) (0) ("l4_counts.go:45") (List.toArray ([])) (none),Go.Oper.mk (some (16)) (Go.Op.load (3) (Go.Operand.tmp (15))) (3) ("l4_counts.go:45") (List.toArray ([Go.Edge.mk (0) (Go.Ground.data)])) (none),Go.Oper.mk (some (7)) (Go.Op.assign (Go.Operand.tmp (16))) (3) ("l4_counts.go:45") (List.toArray ([Go.Edge.mk (1) (Go.Ground.data),Go.Edge.mk (0) (Go.Ground.phase),Go.Edge.mk (1) (Go.Ground.phase)])) (none)])
def Rs4:Array Oper:=List.toArray ([Go.Oper.mk (some (17)) (Go.Op.move (Go.Operand.tmp (2))) (114) ("l4_counts.go:46") (List.toArray ([])) (none),Go.Oper.mk (some (18)) (Go.Op.move (Go.Operand.tmp (7))) (3) ("l4_counts.go:46") (List.toArray ([])) (none),Go.Oper.mk (none) (Go.Op.send (Go.Operand.tmp (17)) (Go.Operand.tmp (18))) (0) ("l4_counts.go:46") (List.toArray ([Go.Edge.mk (0) (Go.Ground.data),Go.Edge.mk (1) (Go.Ground.data)])) (none)])
def Rs5:Array Oper:=List.toArray ([Go.Oper.mk (some (19)) (Go.Op.binOp (Go.BinOp.add) (3) (Go.Operand.tmp (13)) (Go.Operand.const (Go.Value.int (Go.IntKind.i64) (1))) (3)) (3) ("l4_counts.go:45") (List.toArray ([])) (none),Go.Oper.mk (some (13)) (Go.Op.move (Go.Operand.tmp (19))) (3) ("l4_counts.go:45") (List.toArray ([Go.Edge.mk (0) (Go.Ground.data)])) (none)])
def Cs:Code:=Code.seq (Code.region 0 Rs0 false) (Code.seq (Code.region 1 Rs1 false) (Code.block 0 (Code.loop (Code.seq (Code.region 2 Rs2 false) (Code.seq (Code.cond (Go.Operand.tmp (14)) (Go.Code.skip) (Go.Code.exit (0))) (Code.seq (Code.block 1 (Code.seq (Code.region 3 Rs3 false) (Code.region 4 Rs4 false))) (Code.region 5 Rs5 false)))))))
theorem body_s:Go.Proofs.Tryz.f40.body=some Cs:=by kernel_rfl
theorem func_s:Go.Proofs.Tryz.prog.funcs[40]?=some Go.Proofs.Tryz.f40:=Go.Proofs.Tryz.func40
abbrev n_s:Nat:=40
abbrev link:Go.Conc.Lib.WgLink:={ add:=37,done:=39,wait:=41,relMerge:=54,disable:=55,enable:=56,inBubble:=57,associate:=58,fatal:=59,uOr:=60,uAdd:=61,raceRead:=62,uLoad:=63,uStore:=64,disassociate:=65,semrelease:=66,acquire:=67,isAssociated:=68,uCas:=69,raceWrite:=70,semacquire:=71,orU64:=127,addU64:=128,loadU64:=129,storeU64:=130,casU64:=131,tWgP:=100,tUP:=102,tAssoc:=104,tWg:=77,tAU:=74,tU64:=72,tUint:=108,tU32:=75,tPU32:=109,tPAU:=128,tPU64:=130,tNoCopy:=69,tANoCopy:=70,tAlign64:=71 }
theorem wgLib:Go.Conc.Lib.WgLib Go.Proofs.Tryz.prog link:=
 ⟨Go.Proofs.Tryz.func37,Go.Proofs.Tryz.func39,Go.Proofs.Tryz.func41,Go.Proofs.Tryz.func54,Go.Proofs.Tryz.func55,Go.Proofs.Tryz.func56,Go.Proofs.Tryz.func57,Go.Proofs.Tryz.func58,Go.Proofs.Tryz.func59,Go.Proofs.Tryz.func60,Go.Proofs.Tryz.func61,Go.Proofs.Tryz.func62,Go.Proofs.Tryz.func63,Go.Proofs.Tryz.func64,Go.Proofs.Tryz.func65,Go.Proofs.Tryz.func66,Go.Proofs.Tryz.func67,Go.Proofs.Tryz.func68,Go.Proofs.Tryz.func69,Go.Proofs.Tryz.func70,Go.Proofs.Tryz.func71,Go.Proofs.Tryz.func127,Go.Proofs.Tryz.func128,Go.Proofs.Tryz.func129,Go.Proofs.Tryz.func130,Go.Proofs.Tryz.func131,Go.Proofs.Tryz.underlying100,Go.Proofs.Tryz.runUnderlying100,Go.Proofs.Tryz.sizeOf100,Go.Proofs.Tryz.isAgg100,Go.Proofs.Tryz.zeroValue100,Go.Proofs.Tryz.underlying102,Go.Proofs.Tryz.runUnderlying102,Go.Proofs.Tryz.sizeOf102,Go.Proofs.Tryz.isAgg102,Go.Proofs.Tryz.zeroValue102,Go.Proofs.Tryz.underlying104,Go.Proofs.Tryz.runUnderlying104,Go.Proofs.Tryz.sizeOf104,Go.Proofs.Tryz.isAgg104,Go.Proofs.Tryz.zeroValue104,Go.Proofs.Tryz.underlying77,Go.Proofs.Tryz.runUnderlying77,Go.Proofs.Tryz.sizeOf77,Go.Proofs.Tryz.isAgg77,Go.Proofs.Tryz.zeroValue77,Go.Proofs.Tryz.underlying74,Go.Proofs.Tryz.runUnderlying74,Go.Proofs.Tryz.sizeOf74,Go.Proofs.Tryz.isAgg74,Go.Proofs.Tryz.zeroValue74,Go.Proofs.Tryz.underlying72,Go.Proofs.Tryz.runUnderlying72,Go.Proofs.Tryz.sizeOf72,Go.Proofs.Tryz.isAgg72,Go.Proofs.Tryz.zeroValue72,Go.Proofs.Tryz.underlying108,Go.Proofs.Tryz.runUnderlying108,Go.Proofs.Tryz.sizeOf108,Go.Proofs.Tryz.isAgg108,Go.Proofs.Tryz.zeroValue108,Go.Proofs.Tryz.underlying75,Go.Proofs.Tryz.runUnderlying75,Go.Proofs.Tryz.sizeOf75,Go.Proofs.Tryz.isAgg75,Go.Proofs.Tryz.zeroValue75,Go.Proofs.Tryz.underlying109,Go.Proofs.Tryz.runUnderlying109,Go.Proofs.Tryz.sizeOf109,Go.Proofs.Tryz.isAgg109,Go.Proofs.Tryz.zeroValue109,Go.Proofs.Tryz.underlying128,Go.Proofs.Tryz.runUnderlying128,Go.Proofs.Tryz.sizeOf128,Go.Proofs.Tryz.isAgg128,Go.Proofs.Tryz.zeroValue128,Go.Proofs.Tryz.underlying130,Go.Proofs.Tryz.runUnderlying130,Go.Proofs.Tryz.sizeOf130,Go.Proofs.Tryz.isAgg130,Go.Proofs.Tryz.zeroValue130,Go.Proofs.Tryz.underlying0,Go.Proofs.Tryz.runUnderlying0,Go.Proofs.Tryz.sizeOf0,Go.Proofs.Tryz.isAgg0,Go.Proofs.Tryz.zeroValue0,Go.Proofs.Tryz.underlying3,Go.Proofs.Tryz.runUnderlying3,Go.Proofs.Tryz.sizeOf3,Go.Proofs.Tryz.isAgg3,Go.Proofs.Tryz.zeroValue3,Go.Proofs.Tryz.underlying4,Go.Proofs.Tryz.runUnderlying4,Go.Proofs.Tryz.sizeOf4,Go.Proofs.Tryz.isAgg4,Go.Proofs.Tryz.zeroValue4,Go.Proofs.Tryz.underlying9,Go.Proofs.Tryz.runUnderlying9,Go.Proofs.Tryz.sizeOf9,Go.Proofs.Tryz.isAgg9,Go.Proofs.Tryz.zeroValue9,Go.Proofs.Tryz.underlying20,Go.Proofs.Tryz.runUnderlying20,Go.Proofs.Tryz.sizeOf20,Go.Proofs.Tryz.isAgg20,Go.Proofs.Tryz.zeroValue20,Go.Proofs.Tryz.underlying21,Go.Proofs.Tryz.runUnderlying21,Go.Proofs.Tryz.sizeOf21,Go.Proofs.Tryz.isAgg21,Go.Proofs.Tryz.zeroValue21,(by kernel_rfl),(by kernel_rfl)⟩
end
end Go.Co.Cnt
namespace Go.Co.Cnt
open Go Go.Conc Go.AI Go.RowKit Go.Conc.Lib
open Go.ConcR (KK wgBlock WgAt stA smA rd wr mk)
noncomputable abbrev P:=Go.Proofs.Tryz.prog
def vals (l:List Int):List Value:=l.map fun n=>.int .i64 n
def ints (l:List Int):List AV:=l.map fun n=>.int 3 n
theorem nm_c:(Go.Proofs.Tryz.f23.name == "runtime.NumGoroutine")=false:=by kernel_rfl
theorem nm_k:(Go.Proofs.Tryz.f38.name == "runtime.NumGoroutine")=false:=by kernel_rfl
theorem nm_s:(Go.Proofs.Tryz.f40.name == "runtime.NumGoroutine")=false:=by kernel_rfl
theorem can_c:Callable P n_c:=⟨_,func_c,by rw [body_c];rfl,nm_c⟩
theorem can_s:Callable P n_s:=⟨_,func_s,by rw [body_s];rfl,nm_s⟩
noncomputable def bot:Frame:={ (default:Frame) with fn:=P.funcs.size,defers:=[],mode:=.panicking [goexitEntry] }
section
variable {Post:Value->World->Prop} {s:LG} {w:World}
theorem tail_k (T:Array Value):QuitsD P 2 0 (G { (baseD n_k).at ⟨T,[]⟩ [] with mode:=.returning } [bot]):=by
 refine QuitsD.ctl (g':=G bot []) rfl (fun w=>?_) ?_
 · simp [G,stepG,unwind,doReturn,results,Frame.at,baseD,bot,func_k,Go.Proofs.Tryz.f38,seen,GStep.after,goexitEntry]
 refine QuitsD.ctl (g':={ G bot [] with status:=.finished }) rfl (fun w=>?_) ⟨rfl,rfl⟩
 simp [G,stepG,unwind,bot,goexitEntry,Frame.catches]
 rfl
theorem born_k (c1 c2 c3 c4:Value) (w:World):stepG P false (born P { target:=.fn (.func n_k) #[c1,c2,c3,c4],args:= #[] }) w =
 .go (G ((baseD n_k).at { tmps:= #[c1,c2,c3,c4]++Array.replicate (Go.Proofs.Tryz.f38.ntmps - (#[c1,c2,c3,c4]:Array Value).size) undef,defers:=[] } [.code Ck]) [bot]) w #[]:=by
 have h:=enter_atD (P:=P) (f:=n_k) #[c1,c2,c3,c4] func_k body_k
 have h1:¬ Go.Proofs.Tryz.f38.name = "runtime.NumGoroutine" := by simpa using nm_k
 simp [born,stepG,unwind,callDeferred,invoke,callFunc,func_k,body_k,h1,seen,GStep.after,G,bot,h]
end
end Go.Co.Cnt
namespace Go.Co.Cnt
open Go Go.Conc Go.AI Go.RowKit Go.Conc.Lib
open Go.ConcR (KK wgBlock WgAt stA smA rd wr mk)
theorem zaet (j n:Nat):ilt (.ofNat j) (.ofNat n)=decide (j<n):=by
 rw [ilt_eq];simp
theorem zaoy {α:Type} {b o n es es' kk j:Nat} {h:H} {k:AV->H->Option α} (hj:j<n):aIdxAddr es (.osl b o n es') (.int kk (.ofNat j)) h k=k (.ptr b (o+j * es)) h:=by
 show bc (Nat.ble (Nat.succ j) n) (k (.ptr b (Nat.add o (Nat.mul j es))) h) none=_
 rw [Nat.ble_eq_true_of_le (show Nat.succ j<=n from hj)];rfl
theorem idx_sl {α:Type} {b o n c es kk j:Nat} {h:H} {k:AV->H->Option α} (hj:j<n):aIdxAddr es (.leaf (.sl b o n c)) (.int kk (.ofNat j)) h k=k (.ptr b (o+j * es)) h:=by
 show bc (Nat.ble (Nat.succ j) n) (k (.ptr b (Nat.add o (Nat.mul j es))) h) none=_
 rw [Nat.ble_eq_true_of_le (show Nat.succ j<=n from hj)];rfl
theorem zacg {α:Type} {b q fl:Nat} {l:List AV} {y:AV} {h:H} {k:AV->H->Option α} (hb:h.get b = .cells fl l) (hy:l[q]?=some y):aLoad (.ptr b q) h k=k y h:=by
 show withCells h b _=_
 unfold withCells
 rw [hb]
 show onSome (nthO l q) _=_
 rw [zadr,hy];rfl
theorem add1 {α:Type} {j:Nat} (hj:j<9223372036854775807) {h:H} {k:AV->H->Option α}:aArith iadd (.int 3 (.ofNat j)) (.int 3 (.ofNat 1)) h k=k (.int 3 (.ofNat (j+1))) h:=by
 show bc (kEq 3 3) (k (.int 3 (fwrap 3 (iadd (.ofNat j) (.ofNat 1)))) h) none=_
 rw [show kEq 3 3=true from rfl,bc_true,zapi,zadl,kd3]
 show k (.int 3 (IntKind.i64.wrap ((j:Int)+1))) h=_
 rw [IntWalk.i64_in _ (by omega)];rfl
abbrev E0:Env:=fun _ _ _=>none
abbrev K0:Nat->K:=fun _ _ _=>none
abbrev KR:K:=fun _ _=>none
section
variable {F:Nat} {h:H} {kn:K}
theorem e_s2 (x2 x11:AV) (n j:Int):den P E0 20 F (.region 2 Rs2 false) .o [(2,x2),(11,x11),(12,.int 3 n),(13,.int 3 j)] h kn K0 KR=kn [(14,.bool (ilt j n)),(2,x2),(11,x11),(12,.int 3 n),(13,.int 3 j)] h:=by kernel_rfl
theorem e_s3' (x2 x11:AV) (n j:Int) (b:Bool):den P E0 20 F (.region 3 Rs3 false) .o [(14,.bool b),(2,x2),(11,x11),(12,.int 3 n),(13,.int 3 j)] h kn K0 KR =
 aIdxAddr 1 x11 (.int 3 j) h fun x h=>aLoad x h fun y h=>kn [(7,y),(16,y),(15,x),(14,.bool b),(2,x2),(11,x11),(12,.int 3 n),(13,.int 3 j)] h:=by kernel_rfl
theorem e_s3 {b j:Nat} {n:Nat} {L:List AV} {y:AV} (x2:AV) (hj:j<n) (hb:h.get b = .cells 0 L) (hy:L[j]?=some y):den P E0 20 F (.region 3 Rs3 false) .o [(14,.bool true),(2,x2),(11,.osl b 0 n 1),(12,.int 3 (.ofNat n)),(13,.int 3 (.ofNat j))] h kn K0 KR =
 kn [(7,y),(16,y),(15,.ptr b (0+j * 1)),(14,.bool true),(2,x2),(11,.osl b 0 n 1),(12,.int 3 (.ofNat n)),(13,.int 3 (.ofNat j))] h:=by
 rw [e_s3',zaoy hj,zacg hb (by simpa using hy)]
theorem e_s5 (x2 x11 x7 x16 x15 x17 x18:AV) (n:Int) (j:Nat) (b:Bool) (hj:j<9223372036854775807):den P E0 20 F (.region 5 Rs5 false) .o [(18,x18),(17,x17),(7,x7),(16,x16),(15,x15),(14,.bool b),(2,x2),(11,x11),(12,.int 3 n),(13,.int 3 (.ofNat j))] h kn K0 KR =
 kn [(13,.int 3 (.ofNat (j+1))),(19,.int 3 (.ofNat (j+1))),(18,x18),(17,x17),(7,x7),(16,x16),(15,x15),(14,.bool b),(2,x2),(11,x11),(12,.int 3 n),(13,.int 3 (.ofNat j))] h:=by
 have h1:den P E0 20 F (.region 5 Rs5 false) .o [(18,x18),(17,x17),(7,x7),(16,x16),(15,x15),(14,.bool b),(2,x2),(11,x11),(12,.int 3 n),(13,.int 3 (.ofNat j))] h kn K0 KR =
  aArith iadd (.int 3 (.ofNat j)) (.int 3 (.ofNat 1)) h fun z h=>kn [(13,z),(19,z),(18,x18),(17,x17),(7,x7),(16,x16),(15,x15),(14,.bool b),(2,x2),(11,x11),(12,.int 3 n),(13,.int 3 (.ofNat j))] h:=by kernel_rfl
 rw [h1,add1 hj]
end
end Go.Co.Cnt
namespace Go.Co.Cnt
open Go Go.Conc Go.AI Go.RowKit Go.Conc.Lib
open Go.ConcR (KK wgBlock WgAt stA smA rd wr mk)
abbrev tW:TypeId:=link.tWg
section
variable {Post:Value->World->Prop} {c wg:Nat} {L:List Int} {D:Deferred}
structure SndI (c wg:Nat) (L:List Int) (D:Deferred) (j:Nat) (a:Act) (s:LG) (w:World):Prop where
 at_:∃ι h b,Rel ι h w/\Cov ι h s/\Fit s w/\StR ι 20 [(2,.leaf (.raw (.chan (some c)))),(11,.osl b 0 L.length 1),(12,.int 3 (.ofNat L.length)),(13,.int 3 (.ofNat j))] a/\h.get b = .cells 0 (ints L)
 kid:s.kid=some ⟨c,wg,vals (L.drop j),0⟩
 fk:s.fk=none
 defs:a.defers=[D]
 le:j<=L.length
 nw:¬ s.own wg/\¬ s.ro wg
 lt:wg<w.heap.size
theorem Fit.kidT {s:LG} {w:World} {k:Kid} (h:Fit s w) (hk:k.st=0):Fit { s with kid:=some k } w:=⟨h.U,h.apart,h.lt,fun k' e=>by cases e;exact hk,trivial⟩
theorem raw_eq {ι:Inj} {v x:Value} (h:VR ι (.leaf (.raw v)) x):x=v:=by
 have h:[x]=[v]:=h
 cases h;rfl
theorem zaqe {n:Nat} {Q:Out} {a:Act} {s:LG} {w:World} (hL:L.length<9223372036854775807) (hQ:∀a s w,SndI c wg L D L.length a s w->Q .normal a s w) (hI:∃j,n=L.length - j/\SndI c wg L D j a s w) :
 CoC P tW Post false n_s (.seq (.region 2 Rs2 false) (.seq (.cond (.tmp 14) .skip (.exit 0)) (.seq (.block 1 (.seq (.region 3 Rs3 false) (.region 4 Rs4 false))) (.region 5 Rs5 false)))) (Out.seq (fun a s w=>∃m,m<n/\∃j,m=L.length - j/\SndI c wg L D j a s w) (Out.block 0 Q)) a s w:=by
 obtain ⟨j,rfl,hI⟩:=hI
 obtain ⟨ι,h,b,hR,hC,hF,hS,hb⟩:=hI.at_
 refine co_seq (zaf8 (F:=0) (an:=.o) (.start hR hC hF) hS (by decide) (fun kn=>e_s2 _ _ _ _) fun ι1 s1 a1 w1 A1 hS1 hd1 st1=>?_)
 refine co_seq (zagc (t:=decide (j<L.length)) (by have:=hS1.ev (.tmp 14);rw [<- zaet];exact this.bool) ?_)
 by_cases hj:j<L.length
 · rw [if_pos (by simpa using hj)]
   refine zaik ?_
   show CoC _ _ _ _ _ _ _ _ _ _
   rw [show ilt (.ofNat j) (.ofNat L.length)=true from by rw [zaet];simpa using hj] at hS1
   refine co_seq (zade (co_seq ?_))
   obtain ⟨y,hy⟩:∃y,L[j]?=some y:=⟨_,List.getElem?_eq_getElem hj⟩
   refine zaf8 (F:=0) (an:=.o) A1 hS1 (by decide) (fun kn=>e_s3 (y:=.int 3 y) _ hj hb (by simp [ints,hy])) fun ι2 s2 a2 w2 A2 hS2 hd2 st2=>?_
   show CoC _ _ _ _ _ _ _ _ _ _
   refine zaav ?_
   refine ev_op (ops:=Rs4) A2 hS2 rfl rfl rfl (x:=.leaf (.raw (.chan (some c)))) (h':=h) (fun k=>rfl) fun ι3 v3 s3 w3 A3 hv3 st3=>?_
   have hS3:=(hS2.mono st3.le).put 17 _ _ (by decide) hv3
   refine ev_op (ops:=Rs4) A3 hS3 rfl rfl rfl (x:=.int 3 y) (h':=h) (fun k=>rfl) fun ι4 v4 s4 w4 A4 hv4 st4=>?_
   have hS4:=(hS3.mono st4.le).put 18 _ _ (by decide) hv4
   have hc4:=raw_eq (hS4.ev (.tmp 17))
   have hy4:=(hS4.ev (.tmp 18)).int
   have hk4:s4.kid=some ⟨c,wg,vals (L.drop j),0⟩:=by rw [st4.kid,st3.kid,st2.kid,st1.kid];exact hI.kid
   have hf4:s4.fk=none:=by rw [st4.fk,st3.fk,st2.fk,st1.fk];exact hI.fk
   have hdr:L.drop j=y::L.drop (j+1):=by rw [List.drop_eq_getElem_cons hj];congr 1;rw [List.getElem?_eq_getElem hj] at hy;exact Option.some.inj hy
   refine zatq (ops:=Rs4) (wg:=wg) (out:=vals (L.drop (j+1))) rfl rfl rfl hc4 (by rw [hk4,hdr];exact congrArg (fun v=>some (Kid.mk c wg (v::vals (L.drop (j+1))) 0)) hy4.symm) hf4 fun w5 r5=>?_
   have A5:=A4.rely r5
   refine co_nil ?_
   show CoC _ _ _ _ _ _ _ _ _ _
   have hC5:Cov ι4 h { s4 with kid:=some ⟨c,wg,vals (L.drop (j+1)),0⟩ }:=⟨A5.cov.all,A5.cov.own⟩
   refine zaf8 (F:=0) (an:=.o) (.start A5.rel hC5 (Fit.kidT A5.fit rfl)) hS4 (by decide) (fun kn=>e_s5 _ _ _ _ _ _ _ _ _ _ (by omega)) fun ι6 s6 a6 w6 A6 hS6 hd6 st6=>?_
   refine ⟨L.length - (j+1),by omega,j+1,rfl,?_⟩
   have hS7:=zaao hS6 [2,11,12,13]
   have ow:∀{B},¬ s.own B->B<w.heap.size->¬ s4.own B:=fun {B} h1 h2 h3=>by
    rcases st4.new B h3 with h4 | h4
    · rcases st3.new B h4 with h5 | h5
      · rcases st2.new B h5 with h6 | h6
        · rcases st1.new B h6 with h7 | h7
          · exact h1 h7
          · omega
        · have:=st1.size;omega
      · have:=st1.size;have:=st2.size;omega
    · have:=st1.size;have:=st2.size;have:=st3.size;omega
   exact {
    at_:=⟨ι6,h,b,A6.rel,A6.cov,A6.fit,hS7,hb⟩
    kid:=st6.kid
    fk:=st6.fk.trans hf4
    defs:=by rw [hd6];show a2.defers=_;rw [hd2,hd1];exact hI.defs
    le:=hj
    nw:=⟨fun h1=>by
     rcases st6.new wg h1 with h2 | h2
     · exact ow hI.nw.1 hI.lt h2
     · have:=hI.lt;have:=st1.size;have:=st2.size;have:=st3.size;have:=st4.size;have:=r5.size;omega,fun h1=>hI.nw.2 (by
     have h1:s6.ro wg:=h1
     rw [st6.ro] at h1
     have h1:s4.ro wg:=h1
     rwa [st4.ro,st3.ro,st2.ro,st1.ro] at h1)⟩
    lt:=by have:=hI.lt;have:=st1.size;have:=st2.size;have:=st3.size;have:=st4.size;have:=r5.size;have:=st6.size;omega }
 · rw [if_neg (by simpa using hj)]
   obtain rfl:j=L.length:=by have:=hI.le;omega
   have hS7:=zaao hS1 [2,11,12,13]
   have q:SndI c wg L D L.length a1 s1 w1:={
    at_:=⟨ι1,h,b,A1.rel,A1.cov,A1.fit,hS7,hb⟩
    kid:=st1.kid.trans hI.kid
    fk:=st1.fk.trans hI.fk
    defs:=hd1.trans hI.defs
    le:=Nat.le_refl _
    nw:=⟨fun h1=>by
     rcases st1.new wg h1 with h2 | h2
     · exact hI.nw.1 h2
     · have:=hI.lt;omega,fun h1=>hI.nw.2 (by rwa [st1.ro] at h1)⟩
    lt:=by have:=hI.lt;have:=st1.size;omega }
   have q:=hQ _ _ _ q
   exact zaip (by simpa [Out.seq,Out.block] using q)
end
end Go.Co.Cnt
namespace Go.Co.Cnt
open Go Go.Conc Go.AI Go.RowKit Go.Conc.Lib
open Go.ConcR (KK wgBlock WgAt stA smA rd wr mk)
section
variable {Post:Value->World->Prop} {c wg:Nat} {L:List Int} {ι0:Inj} {hF:H} {s:LG} {w:World} {p f:AV} {vp vf:Value}
noncomputable def resC (hF:H) (L:List Int):R:=(.osl hF.n 0 L.length 1,hF.push (.cells 0 (ints L)))
theorem raw_vr {ι:Inj} (v:Value):VR ι (.leaf (.raw v)) v:=(rfl:[v]=[v])
theorem StR.defs {ι:Inj} {N:Nat} {st:St} {a:Act} (h:StR ι N st a) (ds:List Deferred) (v:Value):StR ι N st (Act.put ⟨a.tmps,ds⟩ none v):=⟨h.size,h.at_⟩
theorem ow_of {ι ι':Inj} {s s':LG} {w w':World} (st:Stp ι s w ι' s' w') {B:Nat} (h:¬ s.own B/\¬ s.ro B) (hlt:B<w.heap.size):(¬ s'.own B/\¬ s'.ro B)/\B<w'.heap.size:=
 ⟨⟨fun h1=>(st.new B h1).elim h.1 fun h2=>by omega,fun h1=>h.2 (by rwa [st.ro] at h1)⟩,Nat.lt_of_lt_of_le hlt st.size⟩
theorem ow_ofE {q:Bool} {ι ι':Inj} {h h':H} {s s':LG} {w w':World} (e:ExtC q ι h s w ι' h' s' w') {B:Nat} (h1:¬ s.own B/\¬ s.ro B) (hlt:B<w.heap.size):(¬ s'.own B/\¬ s'.ro B)/\B<w'.heap.size:=
 ⟨⟨fun h2=>(e.new B h2).elim h1.1 fun h3=>by omega,fun h2=>(e.newR B h2).elim h1.2 fun h3=>h3.elim h1.1 fun h4=>by omega⟩,Nat.lt_of_lt_of_le hlt e.size⟩
theorem vl_map {ι:Inj} {N:Nat} {st:St} {a:Act} (hS:StR ι N st a):∀xs:List Operand,VL ι (xs.map (ev st)) (xs.map a.eval)
 | []=>.nil
 | x::xs=>.cons (hS.ev x) (vl_map hS xs)
theorem sends (hL:L.length<9223372036854775807) (T:CoTri P tW Post false (none,false) n_c [p,f] hF (resC hF L)) (hR:Rel ι0 hF w) (hC:Cov ι0 hF s) (hFt:Fit s w) (hp:VR ι0 p vp) (hf:VR ι0 f vf) (hkid:s.kid=some ⟨c,wg,vals L,0⟩) (hfk:s.fk=none) (hnw:¬ s.own wg/\¬ s.ro wg) (hlt:wg<w.heap.size) :
 CoF P tW Post false n_s #[vp,vf,.chan (some c)] (fun v s' w'=>v = .tuple #[]/\s'.kid=some ⟨c,wg,[],1⟩/\s'.fk=none/\(¬ s'.own wg/\¬ s'.ro wg)/\wg<w'.heap.size) s w:=by
 intro b cs hc
 rw [enter_at _ func_s body_s]
 have hS:StR ι0 20 [(0,p),(1,f),(2,.leaf (.raw (.chan (some c))))] { tmps:= #[vp,vf,.chan (some c)]++Array.replicate (Go.Proofs.Tryz.f40.ntmps - (#[vp,vf,.chan (some c)]:Array Value).size) undef,defers:=[] }:=
  VL.entry (fn:=Go.Proofs.Tryz.f40) Go.Proofs.Tryz.ntmps40 (by simp) (.cons hp (.cons hf (.cons (raw_vr _) .nil)))
 have key:CoC P tW Post false n_s Cs (fun e a' s' w'=>e = .normal/\∃ats t bs,SndI c wg L (dclose ats t bs (.chan (some c))) L.length a' s' w') { tmps:= #[vp,vf,.chan (some c)]++Array.replicate (Go.Proofs.Tryz.f40.ntmps - (#[vp,vf,.chan (some c)]:Array Value).size) undef,defers:=[] } s w:=by
  refine co_seq (zaav ?_)
  refine ev_op (ops:=Rs0) (.start hR hC hFt) hS rfl rfl rfl (x:=.leaf (.raw (.chan (some c)))) (h':=hF) (fun k=>rfl) fun ι1 v1 s1 w1 A1 hv1 st1=>?_
  have hS1:=(hS.mono st1.le).put 8 _ _ (by decide) hv1
  have hv1:=raw_eq hv1
  subst hv1
  have e8:=raw_eq (hS1.ev (.tmp 8))
  refine zaqg (ops:=Rs0) rfl rfl rfl fun bs=>?_
  refine co_nil ?_
  refine co_seq (zaav ?_)
  refine ev_op (ops:=Rs1) A1 (StR.defs hS1 _ undef) rfl rfl rfl (x:=p) (h':=hF) (fun k=>rfl) fun ι3 v3 s3 w3 A3 hv3 st3=>?_
  refine ev_op (ops:=Rs1) A3 (((StR.defs hS1 _ undef).mono st3.le).put 9 _ _ (by decide) hv3) rfl rfl rfl (x:=f) (h':=hF) (fun k=>rfl) fun ι4 v4 s4 w4 A4 hv4 st4=>?_
  have hf4:s4.fk=none:=by rw [st4.fk,st3.fk,st1.fk];exact hfk
  have hk4:s4.kid=some ⟨c,wg,vals L,0⟩:=by rw [st4.kid,st3.kid,st1.kid];exact hkid
  have o1:=ow_of st1 hnw hlt
  have o3:=ow_of st3 o1.1 o1.2
  have o4:=ow_of st4 o3.1 o3.2
  refine zaoh (ops:=Rs1) rfl rfl rfl rfl List.map_toArray T.can A4.fit.busy fun w5 r5=>?_
  have A5:=A4.rely r5
  have hS4:=fun ds=>((((StR.defs hS1 ds undef).mono st3.le).put 9 _ _ (by decide) hv3).mono st4.le).put 10 _ _ (by decide) hv4
  refine CoF.mono (T.run ι4 w5 _ s4 A5.rel A5.cov (vl_map (hS4 _) [.tmp 9,.tmp 10]) A5.fit hf4).1 fun v6 s6 w6 hp6=>?_
  obtain ⟨ι6,hV6,hE6,hR6,hC6,hF6⟩:=hp6
  have A6:=A5.eval hE6 hR6 hC6 hF6
  have o6:=ow_ofE hE6 o4.1 (Nat.lt_of_lt_of_le o4.2 r5.size)
  have hS6:=fun ds=>((hS4 ds).mono hE6.le).put 11 _ _ (by decide) hV6
  refine ev_op (ops:=Rs1) A6 (hS6 _) rfl rfl rfl (x:=.int 3 (.ofNat L.length)) (h':=hF.push (.cells 0 (ints L))) (fun k=>by kernel_rfl) fun ι7 v7 s7 w7 A7 hv7 st7=>?_
  have hS7:=fun ds=>((hS6 ds).mono st7.le).put 12 _ _ (by decide) hv7
  refine ev_op (ops:=Rs1) A7 (hS7 _) rfl rfl rfl (x:=.int 3 (.ofNat 0)) (h':=hF.push (.cells 0 (ints L))) (fun k=>rfl) fun ι8 v8 s8 w8 A8 hv8 st8=>?_
  have hS8:=fun ds=>((hS7 ds).mono st8.le).put 13 _ _ (by decide) hv8
  refine co_nil ?_
  refine zade (zai4 (fun n a s w=>∃j,n=L.length - j/\SndI c wg L (dclose #[114] 0 bs (.chan (some c))) j a s w) (fun n a s w hI=>zaqe hL (fun a s w h=>⟨rfl,_,_,_,h⟩) hI) ⟨0,rfl,?_⟩)
  have o7:=ow_of st7 o6.1 o6.2
  have o8:=ow_of st8 o7.1 o7.2
  exact {
   at_:=⟨ι8,_,hF.n,A8.rel,A8.cov,A8.fit,zaao (hS8 _) [2,11,12,13],by rw [H.get_push,if_pos rfl]⟩
   kid:=by rw [st8.kid,st7.kid,hE6.kid];exact hk4
   fk:=by rw [st8.fk,st7.fk,hE6.fk];exact hf4
   defs:=congrArg (fun v=>[dclose #[114] 0 bs v]) e8
   le:=Nat.zero_le _
   nw:=o8.1
   lt:=o8.2 }
 refine key (base n_s) [] (b::cs) rfl (by simp [base]) fun e a' s' w' q=>?_
 obtain ⟨rfl,ats,t,bs,hI⟩:=q
 refine .idle rfl (fun _=>stepG_end) ?_
 refine Walk.closeG (g':=G { (base n_s).at ⟨a'.tmps,[]⟩ [] with mode:=.returning } (b::cs)) rfl (by rw [hI.kid,List.drop_length];rfl) hI.fk (by rfl) rfl (fun w₁ sn rc h=>zafc hI.defs ?_ h) fun w₁ sn rc r=>?_
 · rw [show P.funcs[(base n_s).fn]?=some Go.Proofs.Tryz.f40 from func_s];rfl
 refine .idle rfl (fun _=>stepG_leave (v:=.tuple #[]) rfl rfl func_s ?_ ?_) (hc _ _ _ ⟨rfl,rfl,hI.fk,hI.nw,?_⟩)
 · simp [results,Go.Proofs.Tryz.f40]
 · simp [results,Go.Proofs.Tryz.f40]
 · have:=r.size;have:=hI.lt;simp [World.setChan];omega
end
end Go.Co.Cnt
namespace Go.Co.Cnt
open Go Go.Conc Go.AI Go.RowKit Go.Conc.Lib
open Go.ConcR (KK wgBlock WgAt stA smA rd wr mk)
def Holds (w:World) (B q:Nat) (v:Value):Prop:=∃c e fr,w.heap[B]?=some (.cells c e fr)/\c[q]?=some v
section
variable {Post:Value->World->Prop} {c wg:Nat} {L:List Int} {ι0:Inj} {hF:H} {s:LG} {w:World} {p f:AV} {vp vf:Value}
theorem Holds.rely {B q:Nat} {v:Value} {w₁:World} (h:Holds w B q v) (r:Rely tW s w w₁) (hr:s.ro B):Holds w₁ B q v:=by
 obtain ⟨c,e,fr,h1,h2⟩:=h
 exact ⟨c,e,fr,(r.ro B hr).trans h1,h2⟩
theorem ag41:isAggT P 34=some false:=by kernel_rfl
theorem ag50:isAggT P 32=some false:=by kernel_rfl
theorem ag82:isAggT P 79=some false:=by kernel_rfl
abbrev rawp (B q:Nat):AV:=.leaf (.raw (.pointer (some ⟨B,q,none⟩)))
theorem zaos {B8 q8 B3 q3 B9 q9:Nat} {a:Act} (hL:L.length<9223372036854775807) (T:CoTri P tW Post false (none,false) n_c [p,f] hF (resC hF L)) (hR:Rel ι0 hF w) (hC:Cov ι0 hF s) (hFt:Fit s w) (hp:VR ι0 p vp) (hf:VR ι0 f vf) (hkid:s.kid=some ⟨c,wg,vals L,0⟩) (hfk:s.fk=none) (hnw:¬ s.own wg/\¬ s.ro wg) (hlt:wg<w.heap.size)
 (h8:s.ro B8/\Holds w B8 q8 vp) (h3:s.ro B3/\Holds w B3 q3 vf) (h9:s.ro B9/\Holds w B9 q9 (.chan (some c)))
 (hS:StR ι0 8 [(0,rawp wg 0),(1,rawp B8 q8),(2,rawp B3 q3),(3,rawp B9 q9)] a) (hd:a.defers=[]) :
 CoC P tW Post false n_k Ck (fun e a' s' w'=>e = .normal/\a'.defers=[dcall link.done #[.pointer (some ⟨wg,0,none⟩)]]/\s'.kid=some ⟨c,wg,[],1⟩/\s'.fk=none/\(¬ s'.own wg/\¬ s'.ro wg)) a s w:=by
 refine co_seq (zaav ?_)
 refine zap1 (ops:=Rk0) rfl rfl rfl ?_
 refine co_nil ?_
 refine zaav ?_
 have hS0:=fun ds=>StR.defs hS ds undef
 obtain ⟨c8,e8,fr8,hb8,hv8⟩:=h8.2
 refine zai2 (ops:=Rk1) (v:=vp) rfl rfl rfl ag41 (raw_eq ((hS0 _).ev (.tmp 1))) (.inr h8.1) hb8 hv8 hFt.busy fun w1 r1=>?_
 have hS1:=fun ds=>(hS0 ds).put 4 (.leaf (.raw vp)) vp (by decide) (raw_vr _)
 obtain ⟨c3,e3,fr3,hb3,hv3⟩:=h3.2.rely r1 h3.1
 refine zai2 (ops:=Rk1) (v:=vf) rfl rfl rfl ag50 (raw_eq ((hS1 _).ev (.tmp 2))) (.inr h3.1) hb3 hv3 hFt.busy fun w2 r2=>?_
 have hS2:=fun ds=>(hS1 ds).put 5 (.leaf (.raw vf)) vf (by decide) (raw_vr _)
 obtain ⟨c9,e9,fr9,hb9,hv9⟩:=(h9.2.rely r1 h9.1).rely r2 h9.1
 refine zai2 (ops:=Rk1) (v:=.chan (some c)) rfl rfl rfl ag82 (raw_eq ((hS2 _).ev (.tmp 3))) (.inr h9.1) hb9 hv9 hFt.busy fun w3 r3=>?_
 have hS3:=fun ds=>(hS2 ds).put 6 (.leaf (.raw (.chan (some c)))) (.chan (some c)) (by decide) (raw_vr _)
 have r13:=(r1.trans r2).trans r3
 have E:=fun ds=>congr (congrArg (fun x y=> #[vp,x,y]) (raw_eq ((hS3 ds).ev (.tmp 5)))) (raw_eq ((hS3 ds).ev (.tmp 6)))
 have E1:=fun ds=>raw_eq ((hS3 ds).ev (.tmp 4))
 refine zaoh (ops:=Rk1) (args:= #[vp,vf,.chan (some c)]) rfl rfl rfl rfl ?_ can_s hFt.busy fun w4 r4=>?_
 · exact List.map_toArray.trans ((congrArg (fun x=> #[x,_,_]) (E1 _)).trans (E _))
 have r14:=r13.trans r4
 refine CoF.mono (sends (Post:=Post) hL T (zadj hR hC r14) hC (hFt.rely r14) hp hf hkid hfk hnw (Nat.lt_of_lt_of_le hlt r14.size)) fun v s' w' hv=>co_nil ?_
 refine ⟨rfl,?_,hv.2.1,hv.2.2.1,hv.2.2.2.1⟩
 show dcall link.done (Array.map a.eval _)::a.defers=_
 rw [hd]
 exact (congrArg (fun x=>[dcall link.done x]) List.map_toArray).trans (congrArg (fun x=>[dcall link.done #[x]]) (raw_eq (hS.ev (.tmp 0))))
theorem child {B8 q8 B3 q3 B9 q9:Nat} (hL:L.length<9223372036854775807) (T:CoTri P tW Post false (none,false) n_c [p,f] hF (resC hF L)) (hR:Rel ι0 hF w) (hC:Cov ι0 hF s) (hFt:Fit s w) (hp:VR ι0 p vp) (hf:VR ι0 f vf) (hkid:s.kid=some ⟨c,wg,vals L,0⟩) (hfk:s.fk=none) (hnw:¬ s.own wg/\¬ s.ro wg) (hlt:wg<w.heap.size)
 (h8:s.ro B8/\Holds w B8 q8 vp) (h3:s.ro B3/\Holds w B3 q3 vf) (h9:s.ro B9/\Holds w B9 q9 (.chan (some c))) :
 Walk P tW Post false s (born P { target:=.fn (.func n_k) #[.pointer (some ⟨wg,0,none⟩),.pointer (some ⟨B8,q8,none⟩),.pointer (some ⟨B3,q3,none⟩),.pointer (some ⟨B9,q9,none⟩)],args:= #[] }) w:=by
 refine .idle rfl (fun w₁=>born_k _ _ _ _ w₁) ?_
 have hS:StR ι0 8 [(0,rawp wg 0),(1,rawp B8 q8),(2,rawp B3 q3),(3,rawp B9 q9)]
  { tmps:= #[Value.pointer (some ⟨wg,0,none⟩),.pointer (some ⟨B8,q8,none⟩),.pointer (some ⟨B3,q3,none⟩),.pointer (some ⟨B9,q9,none⟩)]++Array.replicate (Go.Proofs.Tryz.f38.ntmps - (#[Value.pointer (some ⟨wg,0,none⟩),.pointer (some ⟨B8,q8,none⟩),.pointer (some ⟨B3,q3,none⟩),.pointer (some ⟨B9,q9,none⟩)]:Array Value).size) undef,defers:=[] }:=
  VL.entry (fn:=Go.Proofs.Tryz.f38) Go.Proofs.Tryz.ntmps38 (by simp) (.cons (raw_vr _) (.cons (raw_vr _) (.cons (raw_vr _) (.cons (raw_vr _) .nil))))
 refine zaos hL T hR hC hFt hp hf hkid hfk hnw hlt h8 h3 h9 hS rfl (baseD n_k) [] [bot] rfl (by simp [baseD]) fun e a' s' w' q=>?_
 obtain ⟨rfl,hd,hk,hf',hn⟩:=q
 refine .idle rfl (fun _=>stepG_end) ?_
 refine .mkL rfl fun w₁ r hl=>.own s' _ w₁ _ (stepG_unwind_enter hd wgLib.f_done (by kernel_rfl) rfl) (Own1.reads (.nil s') w₁) ?_
 exact zasm wgLib hk hf' hn.1 hn.2 ⟨.refl s' w₁,hl.1 _ hk,.inr ⟨_,hk,rfl⟩⟩ rfl (tail_k a'.tmps)
end
end Go.Co.Cnt
namespace Go.Co
open Go Go.Conc Go.AI Go.RowKit Go.Conc.Lib
open Go.ConcR (KK wgBlock WgAt stA smA rd wr mk)
section
variable {P:Program} {ty:TypeId} {Post:Value->World->Prop} {main:Bool} {fn:FuncId} {ops:Array Oper} {i:Nat} {rest:List Nat} {o:Oper} {Q:Out} {a:Act} {s:LG} {w:World}
theorem co_val (ho:ops[i]?=some o) (hw:Region.wanted o (yielded ops a.tmps)=true)
 (h:∀w₁,Rely ty s w w₁->∃v s' w',(execOp a.eval o).run P w₁ = .ok (.value v) w'/\Own1 ty s w₁ s' w' (listed P fn a o w₁)/\CoO P ty Post main fn ops rest Q (a.put o.dst v) s' w'):CoO P ty Post main fn ops (i::rest) Q a s w:=co_op ho hw fun w₁ r=>by
 obtain ⟨v,s',w',e,h1,h2⟩:=h w₁ r
 rw [e];exact ⟨s',h1,h2⟩
theorem zads {v:Value} (ho:ops[i]?=some o) (hw:Region.wanted o (yielded ops a.tmps)=true) (hr:∀w,(execOp a.eval o).run P w = .ok (.value v) w) (he:∀w,(execOp a.eval o).events P w #[] = #[])
 (h:∀w₁,Rely ty s w w₁->CoO P ty Post main fn ops rest Q (a.put o.dst v) s w₁):CoO P ty Post main fn ops (i::rest) Q a s w:=
 co_val ho hw fun w₁ r=>⟨v,s,w₁,hr w₁,by rw [listed_nil (he w₁)];exact Own1.idle s w₁,h w₁ r⟩
theorem zaju {O:Obj} {v:Nat->Value} (ho:ops[i]?=some o) (hw:Region.wanted o (yielded ops a.tmps)=true) (hr:∀w,(execOp a.eval o).run P w = .ok (.value (v w.heap.size)) (w.alloc O)) (he:∀w,(execOp a.eval o).events P w #[] = #[]) (hlt:∀b,s.own b\/s.ro b->b<w.heap.size)
 (h:∀w₁,Rely ty s w w₁->CoO P ty Post main fn ops rest Q (a.put o.dst (v w₁.heap.size)) (s.plus w₁.heap.size (w₁.heap.size+1)) (w₁.alloc O)):CoO P ty Post main fn ops (i::rest) Q a s w:=
 co_val ho hw fun w₁ r=>⟨_,_,_,hr w₁,Own1.new1 (fun b hb=>Nat.lt_of_lt_of_le (hlt b hb) r.size) (listed_nil (he w₁)),h w₁ r⟩
theorem zaf4 {t:TypeId} {c:Array Value} (hop:o.op = .alloc t) (h:((P.info? t).bind (·.zero)).map (·.cells)=some c) (w:World):(execOp a.eval o).run P w = .ok (.value (.pointer (some ⟨w.heap.size,0,none⟩))) (w.alloc (.cells c t)):=by
 obtain ⟨z,h1,rfl⟩:=Option.map_eq_some_iff.1 h
 obtain ⟨j,hi,hz⟩:=Option.bind_eq_some_iff.1 h1
 simp [execOp,hop,Instr.alloc,zeroValue,typeInfo,hi,hz,newVar,newRow]
theorem zahx {t:TypeId} {c:Array Value} (hop:o.op = .alloc t) (h:((P.info? t).bind (·.zero)).map (·.cells)=some c) (w:World):(execOp a.eval o).events P w #[] = #[]:=by
 obtain ⟨z,h1,rfl⟩:=Option.map_eq_some_iff.1 h
 obtain ⟨j,hi,hz⟩:=Option.bind_eq_some_iff.1 h1
 simp [execOp,hop,Instr.alloc,zeroValue,typeInfo,hi,hz,newVar,newRow]
theorem zar8 {t:TypeId} {x:Operand} {v:Value} (hop:o.op = .box t x) (hx:a.eval x=v) (w:World):(execOp a.eval o).run P w = .ok (.value (.pointer (some ⟨w.heap.size,0,none⟩))) (w.alloc (.cells v.cells t)):=by
 simp [execOp,hop,Instr.box,newVar,newRow,hx]
theorem zatk {t:TypeId} {x:Operand} (hop:o.op = .box t x) (w:World):(execOp a.eval o).events P w #[] = #[]:=by
 simp [execOp,hop,Instr.box,newVar,newRow]
theorem zap5 {t e:TypeId} {d:ChanDir} {j:TypeInfo} {x:Operand} (hop:o.op = .makeChan t x) (hx:a.eval x = .int .i64 0) (ht:P.underlying t=some (.chan d e)) (hi:P.info? e=some j) (w:World):(execOp a.eval o).run P w = .ok (.value (.chan (some w.heap.size))) (w.alloc (.chan 0 #[] false 0 0 false)):=by
 have:=run_makeChan (w:=w) ht hi .i64 0 (by omega) (by omega)
 simp at this
 simp [execOp,hop,hx,this]
theorem zash {t e:TypeId} {d:ChanDir} {j:TypeInfo} {x:Operand} (hop:o.op = .makeChan t x) (hx:a.eval x = .int .i64 0) (ht:P.underlying t=some (.chan d e)) (hi:P.info? e=some j) (w:World):(execOp a.eval o).events P w #[] = #[]:=by
 have:=events_makeChan (w:=w) ht hi .i64 0 (by omega) (by omega) #[]
 have h2:=run_makeChan (w:=w) ht hi .i64 0 (by omega) (by omega)
 simp at this h2
 simp [execOp,hop,hx,this,h2]
theorem zauw {f:Fn} {xs ys:Array Operand} (hop:o.op = .makeFunc f xs ys) (w:World):(execOp a.eval o).run P w = .ok (.value (.func f (xs.map a.eval) (ys.map a.eval))) w:=by
 simp [execOp,hop,Instr.makeFunc]
theorem ev_fnO {f:Fn} {xs ys:Array Operand} (hop:o.op = .makeFunc f xs ys) (w:World):(execOp a.eval o).events P w #[] = #[]:=by
 simp [execOp,hop,Instr.makeFunc]
theorem zam3 {x:Operand} {n:Nat} {vs:Array Value} {v:Value} (hop:o.op = .extract x n) (hx:a.eval x = .tuple vs) (hv:vs[n]?=some v) (w:World):(execOp a.eval o).run P w = .ok (.value v) w:=by
 simp [execOp,hop,Instr.extract,hx,hv]
theorem ev_exO {x:Operand} {n:Nat} {vs:Array Value} {v:Value} (hop:o.op = .extract x n) (hx:a.eval x = .tuple vs) (hv:vs[n]?=some v) (w:World):(execOp a.eval o).events P w #[] = #[]:=by
 simp [execOp,hop,Instr.extract,hx,hv]
theorem zanc {A W:NB} (hA:∀B,A B->s.own B\/s.ro B) (hW:∀B,W B->s.own B) {B B':Nat} {e:Event} (he:okEv A W B B' e):EvG (s.plus B B') e:=by
 unfold okEv at he
 unfold EvG
 cases hl:e.loc with
 | cell a=>
  rw [hl] at he
  refine ⟨he.1,?_⟩
  rcases he.2 with h1 | h1 | ⟨h1,h2⟩
  · exact .inl (.inl (hW _ h1))
  · exact .inl (.inr h1)
  · exact (hA _ h1).elim (fun x=>.inl (.inl x)) (fun x=>.inr ⟨x,h2⟩)
 | obj r=>
  rw [hl] at he
  refine ⟨he.1,?_⟩
  rcases he.2 with h1 | h1 | ⟨h1,h2⟩
  · exact .inl (.inl (hW _ h1))
  · exact .inl (.inr h1)
  · exact (hA _ h1).elim (fun x=>.inl (.inl x)) (fun x=>.inr ⟨x,h2⟩)
 | mark m=>rw [hl] at he;have he:Neutral m:=he;unfold Neutral at he;subst he;rfl
 | output=>trivial
 | goroutines=>trivial
theorem zaom {t:TypeId} {x y:Operand} {B q:Nat} {v z:Value} {c:Array Value} {e:TypeId} (ho:ops[i]?=some o) (hw:Region.wanted o (yielded ops a.tmps)=true) (hop:o.op = .store t x y) (hag:isAggT P t=some false) (hx:a.eval x = .pointer (some ⟨B,q,none⟩)) (hy:a.eval y=v) (h1:v.oneCell'=true)
 (hown:s.own B) (hB:w.heap[B]?=some (.cells c e)) (hz:c[q]?=some z) (hb:Busy s) (hsz:∀w:World,(sizeOf t).run P w = .ok 1 w) (hcs:v.cells = #[v])
 (h:∀w₁,Rely ty s w w₁->CoO P ty Post main fn ops rest Q (a.put o.dst undef) s (w₁.setCell ⟨B,q,none⟩ v)):CoO P ty Post main fn ops (i::rest) Q a s w:=by
 refine co_op ho hw fun w₁ r=>?_
 have hB1:w₁.heap[B]?=some (.cells c e):=(r.own B hown).trans hB
 have hcell:w₁.cell? ⟨B,q,none⟩=some z:=by rw [zadn hB1];exact hz
 have hfr:w₁.frozen? ⟨B,q,none⟩=false:=by simp [World.frozen?,hB1]
 have hrun:(execOp a.eval o).run P w₁ = .ok .skip (w₁.setCell ⟨B,q,none⟩ v):=by
  simp [execOp,hop,hx,hy,Instr.storeAt,Instr.sureAddr,storeVar,hsz,hcs,storeCells,zabm hag,run_store P w₁ _ v _ h1,addr_add,hcell,hfr]
 have hcf:Cf P (fun b=>b=B) (fun b=>b=B) (execOp a.eval o):=by
  unfold execOp;simp only [hop]
  exact Cf.unit (zagn (fun ad e=>by rw [hx] at e;cases e;rfl) trivial)
 have hR:∀e∈listed P fn a o w₁,EvG (s.plus w₁.heap.size (w₁.setCell ⟨B,q,none⟩ v).heap.size) e:=fun e he=>by
  have h1:=mem_listed he
  unfold Sem.events at h1
  have h2:=Sem.runT_fst P (execOp a.eval o) w₁ #[]
  rw [hrun] at h2
  have h3:=zac9 (es:= #[]) (es':=((execOp a.eval o).runT P w₁ #[]).2) hcf (by
   rintro b rfl
   refine ⟨(Array.getElem?_eq_some_iff.1 hB1).1,fun x hx=>?_⟩
   rw [hB1] at hx;cases hx;rfl) (fun _ h=>h) (v:=.skip) (w':=w₁.setCell ⟨B,q,none⟩ v) (by rw [<- h2])
  exact zanc (fun b e=>by subst e;exact .inl hown) (fun b e=>by subst e;exact hown) ((h3.2 e h1).resolve_left (by simp))
 rw [hrun]
 refine ⟨s,{ tape:=rfl,os:=rfl,output:=rfl,size:=by simp [World.setCell],frame:=fun b hb hn=>Below.heap_setCell _ _ _ _ (by rintro rfl;exact hn hown),own:=fun b hb=>.inl hb,ro:=fun b hb=>.inl hb,apart:=fun ha _=>ha,kid:=rfl,fk:=.inl rfl,ev:=hR,mute:=fun k hk h2=>by have:=hb k hk;omega },h w₁ r⟩
end
end Go.Co
namespace Go.Co
open Go Go.Conc Go.AI Go.RowKit Go.Conc.Lib
section
variable {ty:TypeId} {ι0 ι ι1 ι1':Inj} {h0 h h1 h1' hF:H} {s0 s s':LG} {w0 w w' w₁:World} {X:Nat->Prop}
def LG.given (s:LG) (ι:Inj):LG:=⟨fun B=>s.own B/\¬ ∃b o z,ι b=some (B,o,z),fun B=>s.ro B\/(s.own B/\∃b o z,ι b=some (B,o,z)),s.kid,s.fk⟩
theorem zan4 (hC:Cov ι h s):∀b B o z,ι b=some (B,o,z)->(s.given ι).ro B:=fun b B o z e=>(hC.all b B o z e).elim (fun h=>.inr ⟨h,b,o,z,e⟩) .inl
theorem zan0 (s:LG) (ι:Inj) (w:World):Own1 ty s w (s.given ι) w #[]:=by
 have:=Own1.give (ty:=ty) (s:=s) (w:=w) (fun B=>s.own B/\∃b o z,ι b=some (B,o,z)) (fun b hb=>hb.1)
 have e:(⟨fun b=>s.own b/\¬ (s.own b/\∃b' o z,ι b'=some (b,o,z)),fun b=>s.ro b\/(s.own b/\∃b' o z,ι b'=some (b,o,z)),s.kid,s.fk⟩:LG)=s.given ι:=by
  unfold LG.given
  congr 1
  funext b;apply propext
  exact ⟨fun h=>⟨h.1,fun h2=>h.2 ⟨h.1,h2⟩⟩,fun h=>⟨h.1,fun h2=>h.2 h2.2⟩⟩
 rw [<- e];exact this
theorem zal0 (hF:Fit s w):Fit (s.given ι) w:=⟨fun _ h=>h.elim,fun B hB hr=>hr.elim (hF.apart B hB.1) fun h=>hB.2 h.2,fun B hB=>hB.elim (fun h=>hF.lt B (.inl h.1)) fun h=>h.elim (fun h=>hF.lt B (.inr h)) fun h=>hF.lt B (.inl h.1),fun k hk=>hF.busy k hk,trivial⟩
theorem zah7 (hC:Cov ι h s):Cov ι h.fz (s.given ι):=⟨fun b B o z e=>.inr (zan4 hC b B o z e),fun B hB=>absurd hB Own.fz⟩
theorem zalp (hC:Cov ι h s):ExtC false ι h s w ι h.fz (s.given ι) w where
 le:=.refl _
 os:=rfl
 tape:=rfl
 output:=rfl
 size:=Nat.le_refl _
 kid:=rfl
 fk:=rfl
 ro:=fun h=>Bool.noConfusion h
 mine:=fun h=>Bool.noConfusion h
 roW:=fun B h=>.inl h
 mineW:=fun B h=>by
  by_cases k:∃b o z,ι b=some (B,o,z)
  · exact .inr (.inr ⟨h,k⟩)
  · exact .inl ⟨h,k⟩
 newR:=fun B h=>h.elim .inl fun h=>.inr (.inl h.1)
 new:=fun B h=>.inl h.1
 block:=fun _ _ _=>rfl
 own:=fun B h=>absurd h Own.fz
 num:=Nat.le_refl _
 lo:=Nat.zero_le _
 keep:=fun b hb=>absurd hb (Nat.not_lt_zero _)
 keepW:=fun b B o z hb=>absurd hb (Nat.not_lt_zero _)
 dom:=fun b B o z e=>.inl ⟨b,o,z,e⟩
 aside:=fun B x _ hn=>⟨x,fun ⟨b,o,z,e⟩=>hn b o z e⟩
structure Base (ι0:Inj) (hF:H) (s0:LG) (w0:World):Prop where
 rel:Rel ι0 hF w0
 cov:Cov ι0 hF s0
 fit:Fit s0 w0
 no:∀B,¬ Own ι0 hF B
 ro:∀b B o z,ι0 b=some (B,o,z)->s0.ro B
theorem Base.keep (Z:Base ι0 hF s0 w0) (A:At ι0 hF s0 w0 X ι h s w):Rel ι0 hF w/\(∀b B o z,ι0 b=some (B,o,z)->s.ro B)/\Cov ι0 hF s:=by
 have hr:∀b B o z,ι0 b=some (B,o,z)->s.ro B:=fun b B o z e=>A.ext.roW B (Z.ro b B o z e)
 exact ⟨zagk Z.rel A.ext.size fun b B o z e=>A.ext.block B (.inr (Z.ro b B o z e)) (Z.rel.lt b B o z e),hr,fun b B o z e=>.inr (hr b B o z e),fun B hB=>absurd hB (Z.no B)⟩
theorem At.aside (A:At ι0 h0 s0 w0 X ι h s w) (e:ExtC true ι1 h1 s w ι1' h1' s' w') (no:∀B,¬ Own ι1 h1 B) (hF:Fit s' w'):At ι0 h0 s0 w0 X ι h s' w':=by
 have kp:∀B,s.own B\/s.ro B->B<w.heap.size->w'.heap[B]?=w.heap[B]?:=fun B hB hlt=>e.block B (hB.imp (fun h=>⟨h,no B⟩) id) hlt
 have e2:ExtC false ι h s w ι h s' w':={
  le:=.refl _,os:=e.os,tape:=e.tape,output:=e.output,size:=e.size,kid:=e.kid,fk:=e.fk
  ro:=fun h=>Bool.noConfusion h
  mine:=fun h=>Bool.noConfusion h
  roW:=e.roW
  mineW:=e.mineW
  newR:=e.newR
  new:=e.new
  block:=fun B hB hlt=>kp B (hB.imp (fun h=>h.1) id) hlt
  own:=fun B h=>.inl h
  num:=Nat.le_refl _
  lo:=Nat.le_refl _
  keep:=fun _ _ _=>rfl
  keepW:=fun b B o z _ _ _ e1=>kp B (A.cov.all b B o z e1) (A.rel.lt b B o z e1)
  dom:=fun b B o z e=>.inl ⟨b,o,z,e⟩
  aside:=fun B x _ _=>e.mine rfl B x }
 refine A.eval e2 (zagk A.rel e.size fun b B o z e1=>kp B (A.cov.all b B o z e1) (A.rel.lt b B o z e1)) ⟨fun b B o z e1=>(A.cov.all b B o z e1).imp (e.mine rfl B) (e.roW B),fun B hB=>e.mine rfl B (A.cov.own B hB)⟩ hF
theorem Base.fin (Z:Base ι0 hF s0 w0) (A:At ι0 hF s0 w0 X ι h s w) {b n:Nat} {l:List Int} {v:Value} (hb:h.get b = .cells 0 (l.map fun n=>.int 3 n)) (hl:l.length=n) (hn:n≠0) (hV:VR ι (.osl b 0 n 1) v) (hk:s.fk=s0.fk) :
 PostC false ι0 hF s0 w0 (.osl hF.n 0 n 1,hF.push (.cells 0 (l.map fun n=>.int 3 n))) v s w:=by
 obtain ⟨K1,K2,K3⟩:=Z.keep A
 obtain ⟨A',c,hv,hnc,hB⟩:=hV
 obtain ⟨B,base,sz,e,rfl,hsz⟩:=hB.resolve_left (by omega)
 obtain ⟨B2,o2,z2,e2,hR⟩:=A.rel.blk b (by rw [hb];simp)
 rw [e] at e2;cases e2
 rw [hb] at hR
 have hown:s.own B:=A.cov.own B ⟨b,base,sz,e,by rw [hb];exact (by decide:(0:Nat)<2)⟩
 have hnew:∀c o z,ι0 c≠some (B,o,z):=fun c o z e=>A.fit.apart B hown (K2 c B o z e)
 have hlt:w0.heap.size<=B:=(A.ext.dom b B base sz e).resolve_left fun ⟨c,q,z,e⟩=>hnew c q z e
 have no:ι0 hF.n=none:=Z.rel.noId
 have le:ι0.le (ι0.add hF.n (B,base,sz)):=Inj.le_add no
 have hR':Rel (ι0.add hF.n (B,base,sz)) (hF.push (.cells 0 (l.map fun n=>.int 3 n))) w:=by
  refine ⟨fun c x ec=>?_,fun c B' o s ec=>?_,fun c d B' o s o' s' ho hd ec ed=>?_,fun c hc=>?_,fun c r' e' hp=>?_⟩
  · unfold Inj.add at ec
    split at ec
    · rename_i h;subst h;exact Nat.lt_succ_self _
    · exact Nat.lt_succ_of_lt (K1.fresh c x ec)
  · unfold Inj.add at ec
    split at ec
    · cases ec;exact A.rel.lt b B base sz e
    · exact K1.lt c B' o s ec
  · have own:∀c,((hF.push (.cells 0 (l.map fun n=>.int 3 n))).get c).own->∀B' o s,(ι0.add hF.n (B,base,sz)) c=some (B',o,s)->c=hF.n:=fun c ho B' o s ec=>by
     by_cases hcn:c=hF.n
     · exact hcn
     · rw [H.get_push,if_neg hcn] at ho
       unfold Inj.add at ec
       rw [if_neg hcn] at ec
       exact absurd ⟨c,o,s,ec,ho⟩ (Z.no B')
    have hc:=own c ho _ _ _ ec
    subst hc
    unfold Inj.add at ec ed
    rw [if_pos rfl] at ec
    cases ec
    split at ed
    · rename_i h;exact h.symm
    · exact absurd ed (hnew d _ _)
  · by_cases hcn:c=hF.n
    · subst hcn
      rw [H.get_push,if_pos rfl]
      refine ⟨B,base,sz,by simp [Inj.add],?_⟩
      obtain ⟨c',e',lo,hi,g1,g2,g3,g4,g5⟩:=hR
      refine ⟨c',e',lo,hi,g1,g2,fun i a hi=>?_,g4,g5⟩
      obtain ⟨v',k1,k2⟩:=g3 i a hi
      rw [List.getElem?_map] at hi
      obtain ⟨m,_,rfl⟩:=Option.map_eq_some_iff.1 hi
      exact ⟨v',k1,k2⟩
    · rw [H.get_push,if_neg hcn] at hc ⊢
      obtain ⟨B',o',s',e',hR'⟩:=K1.blk c hc
      exact ⟨B',o',s',le _ _ e',hR'.mono le⟩
  · by_cases hcn:c=hF.n
    · subst hcn
      rw [H.get_push,if_pos rfl] at hp
      exact absurd hp (Blk.cells_free (by decide) r' e')
    · rw [H.get_push,if_neg hcn] at hp
      obtain ⟨⟨z,k1⟩,k2⟩:=K1.pin c r' e' hp
      exact ⟨⟨z,le _ _ k1⟩,k2⟩
 refine ⟨ι0.add hF.n (B,base,sz),⟨⟨B,base+0,none⟩,c,hv,hnc,.inr ⟨B,base,sz,by simp [Inj.add],rfl,hsz⟩⟩,?_,hR',⟨fun c B' o z ec=>?_,fun B' hB'=>?_⟩,A.fit⟩
 · have hself:({ s with fk:=s0.fk }:LG)=s:=by rw [<- hk]
   have X1:=A.ext
   rw [hself] at X1
   exact {
    le:=le,os:=X1.os,tape:=X1.tape,output:=X1.output,size:=X1.size,kid:=X1.kid,fk:=X1.fk,ro:=fun h=>Bool.noConfusion h,mine:=fun h=>Bool.noConfusion h,roW:=X1.roW,mineW:=X1.mineW,aside:=X1.aside,newR:=X1.newR,new:=X1.new,block:=X1.block
    own:=fun B' hB'=>by
     obtain ⟨c,o,z,ec,ho⟩:=hB'
     by_cases hcn:c=hF.n
     · subst hcn;simp [Inj.add] at ec;obtain ⟨rfl, -, -⟩:=ec;exact .inr hlt
     · rw [H.get_push,if_neg hcn] at ho
       simp [Inj.add,hcn] at ec
       exact absurd ⟨c,o,z,ec,ho⟩ (Z.no B')
    num:=Nat.le_succ _
    lo:=Nat.le_refl _
    keep:=fun c hc hn=>by rw [H.get_push,if_neg (by omega)]
    keepW:=fun c B' o z hc hn ho ec=>absurd ⟨c,o,z,ec,ho⟩ (Z.no B')
    dom:=fun c B' o z ec=>by
     by_cases hcn:c=hF.n
     · subst hcn;simp [Inj.add] at ec;obtain ⟨rfl, -, -⟩:=ec;exact .inr hlt
     · simp [Inj.add,hcn] at ec;exact .inl ⟨c,o,z,ec⟩ }
 · by_cases hcn:c=hF.n
   · subst hcn;simp [Inj.add] at ec;obtain ⟨rfl, -, -⟩:=ec;exact .inl hown
   · simp [Inj.add,hcn] at ec;exact .inr (K2 c B' o z ec)
 · obtain ⟨c,o,z,ec,ho⟩:=hB'
   by_cases hcn:c=hF.n
   · subst hcn;simp [Inj.add] at ec;obtain ⟨rfl, -, -⟩:=ec;exact hown
   · rw [H.get_push,if_neg hcn] at ho
     simp [Inj.add,hcn] at ec
     exact absurd ⟨c,o,z,ec,ho⟩ (Z.no B')
end
end Go.Co
namespace Go.Co.Cnt
open Go Go.Conc Go.AI Go.RowKit Go.Conc.Lib
open Go.ConcR (KK wgBlock WgAt stA smA rd wr mk)
theorem z41:((P.info? 34).bind (·.zero)).map (·.cells)=some #[.pointer none]:=by kernel_rfl
theorem z82:((P.info? 79).bind (·.zero)).map (·.cells)=some #[.chan none]:=by kernel_rfl
theorem z80:((P.info? 77).bind (·.zero)).map (·.cells)=some #[.int .u64 0,.int .u32 0]:=by kernel_rfl
theorem ct82:P.underlying 79=some (.chan .both 3):=by kernel_rfl
theorem sz41 (w:World):(sizeOf 34).run P w = .ok 1 w:=Go.Proofs.Tryz.sizeOf34 w
theorem sz82 (w:World):(sizeOf 79).run P w = .ok 1 w:=Go.Proofs.Tryz.sizeOf79 w
theorem wgz (w:World) (B:Nat) (h:w.heap[B]?=some (.cells #[.int .u64 0,.int .u32 0] 77)):WgAt tW B w 0 0:=h
abbrev rawc (c:Nat):AV:=.leaf (.raw (.chan (some c)))
theorem zagq {α:Type} {h:H} {b fl:Nat} {l:List AV} (f:Nat->List AV->Option α) (e:h.get b = .cells fl l):withCells h b f=f fl l:=by unfold withCells;rw [e]
theorem vr_bc {α:Type} {c:Bool} (e:c=true) (x y:α):bc c x y=x:=by rw [e];rfl
theorem zat5 {l:List AV} {k:Nat} (e:lenL l=k):takeL (Nat.mul k 1) (dropL 0 l)=l:=by
 show takeL (Nat.mul k 1) l=l
 rw [takeL_eq,show Nat.mul k 1=k from Nat.mul_one k, <- e,zabd,List.take_length]
section
variable {α:Type} {h:H} {a q k:Nat} {la:List AV} {x y:AV} {kk:AV->H->Option α}
theorem zath (hq:h.get q = .cells 0 [x]):aAppend 1 8 (.leaf .nils) (.leaf (.sl q 0 1 1)) h kk=kk (.osl h.n 0 1 1) (h.push (.cells 0 [x])):=by
 show withCells h q (fun _ l=>bc (Nat.beq (lenL (takeL (Nat.mul 1 1) (dropL 0 l))) (Nat.mul 1 1)) _ none)=_
 rw [zagq _ hq]
 rfl
theorem zar0 (ha:h.get a = .cells 0 [y]) (hq:h.get q = .cells 0 [x]):aAppend 1 8 (.leaf (.sl a 0 1 1)) (.leaf (.sl q 0 1 1)) h kk=kk (.osl h.n 0 2 1) (h.push (.cells 0 [y,x])):=by
 show withCells h q (fun _ l=>bc (Nat.beq (lenL (takeL (Nat.mul 1 1) (dropL 0 l))) (Nat.mul 1 1)) _ none)=_
 rw [zagq _ hq]
 show withCells h a _=_
 rw [zagq _ ha]
 rfl
theorem zaq6 (ha:h.get a = .cells 0 la) (hq:h.get q = .cells 0 [x]) (hx:x.one1=true) (hk:la.length=k) (hb:k<=1000000000) :
 aAppend 1 8 (.osl a 0 k 1) (.leaf (.sl q 0 1 1)) h kk=kk (.osl h.n 0 (k+1) 1) ((h.set a .dead).push (.cells 0 (la++[x]))):=by
 rw [<- zabd] at hk
 show withCells h q (fun _ l=>bc (Nat.beq (lenL (takeL (Nat.mul 1 1) (dropL 0 l))) (Nat.mul 1 1)) _ none)=_
 rw [zagq _ hq]
 show withCells h a _=_
 rw [zagq _ ha,zat5 hk,hk]
 rw [vr_bc (by rw [show Nat.mul k 1=k from Nat.mul_one k];exact Nat.beq_refl k),vr_bc (Nat.ble_eq_true_of_le (show (k+1) * 8<=140737488355328 by omega):Nat.ble (Nat.mul (Nat.add k 1) 8) 140737488355328=true),vr_bc (Nat.ble_eq_true_of_le (show k+1<=9223372036854775807 by omega):Nat.ble (Nat.add k 1) strMax=true),vr_bc (show Nat.beq 1 1=true from rfl),vr_bc (show Nat.ble 0 1=true from rfl),vr_bc (show allOne (takeL (Nat.mul 1 1) (dropL 0 [x]))=true by show bc (AV.one1 x) true false=true;rw [hx];rfl)]
 rw [zacq]
 rfl
end
theorem zapz {h:H} {a b:Nat} {x:Blk} (hb:b<h.n) (hn:b≠a):((h.set a .dead).push x).get b=h.get b:=by
 rw [H.get_push,H.n_set,if_neg (by omega),H.get_set,if_neg hn]
def Chans (hF h:H) (x:AV) (chs:List Nat):Prop:=(chs=[]/\x = .leaf .nils)\/∃b,x = .osl b 0 chs.length 1/\h.get b = .cells 0 (chs.map rawc)/\hF.n<=b/\b<h.n
def Outs (hF h:H) (x:AV) (l:List Int):Prop:=(∃b m,l=[m]/\x = .leaf (.sl b 0 1 1)/\h.get b = .cells 0 (ints l)/\hF.n<=b/\b<h.n)\/∃b,x = .osl b 0 l.length 1/\h.get b = .cells 0 (ints l)/\hF.n<=b/\b<h.n
def Low (hF h:H):Prop:=hF.n<=h.n/\∀c,c<hF.n->h.get c=hF.get c
theorem Low.push {hF h:H} {x:Blk} (L:Low hF h):Low hF (h.push x):=⟨Nat.le_succ_of_le L.1,fun c hc=>by rw [H.get_push,if_neg (by have:=L.1;omega)];exact L.2 c hc⟩
theorem Low.set {hF h:H} {x:Blk} {a:Nat} (L:Low hF h) (ha:hF.n<=a):Low hF (h.set a x):=⟨L.1,fun c hc=>by rw [H.get_set,if_neg (by omega)];exact L.2 c hc⟩
theorem Chans.app {α:Type} {hF h:H} {x:AV} {chs:List Nat} {c:Nat} (C:Chans hF h x chs) (L:Low hF h) (hn:chs.length<=1000000000) :
 ∃y h',(∀kk:AV->H->Option α,aAppend 1 8 x (.leaf (.sl h.n 0 1 1)) (h.push (.cells 0 [rawc c])) kk=kk y h')/\Chans hF h' y (chs++[c])/\Low hF h'/\h.n<=h'.n:=by
 have hq:(h.push (.cells 0 [rawc c])).get h.n = .cells 0 [rawc c]:=by rw [H.get_push,if_pos rfl]
 have L1:Low hF (h.push (.cells 0 [rawc c])):=L.push
 rcases C with ⟨rfl,rfl⟩ | ⟨b,rfl,hb,hb1,hb2⟩
 · exact ⟨_,_,fun kk=>zath hq,.inr ⟨_,rfl,by rw [H.get_push,if_pos rfl];rfl,L1.1,Nat.lt_succ_self _⟩,L1.push,by simp only [H.n_push];omega⟩
 · have hb':(h.push (.cells 0 [rawc c])).get b = .cells 0 (chs.map rawc):=by rw [H.get_push,if_neg (by omega)];exact hb
   refine ⟨_,_,fun kk=>zaq6 hb' hq rfl (by simp) hn,.inr ⟨(h.push (.cells 0 [rawc c])).n,by simp,by rw [H.get_push,H.n_set,if_pos rfl,List.map_append];rfl,L1.1,Nat.lt_succ_self _⟩,(L1.set hb1).push,by simp only [H.n_push,H.n_set];omega⟩
structure Two (hF h:H) (x:AV) (l:List Int) (z:AV) (chs:List Nat):Prop where
 out:Outs hF h x l
 chs:Chans hF h z chs
 ne:∀b b' n n',x = .osl b 0 n 1->z = .osl b' 0 n' 1->b≠b'
theorem Two.app {α:Type} {hF h:H} {x z:AV} {l:List Int} {chs:List Nat} {m:Int} (C:Two hF h x l z chs) (L:Low hF h) (hn:l.length<=1000000000) :
 ∃y h',(∀kk:AV->H->Option α,aAppend 1 8 x (.leaf (.sl h.n 0 1 1)) (h.push (.cells 0 [.int 3 m])) kk=kk y h')/\Two hF h' y (l++[m]) z chs/\Low hF h'/\h.n<=h'.n:=by
 have hq:(h.push (.cells 0 [.int 3 m])).get h.n = .cells 0 [.int 3 m]:=by rw [H.get_push,if_pos rfl]
 have L1:Low hF (h.push (.cells 0 [.int 3 m])):=L.push
 have hz:∀b' n',z = .osl b' 0 n' 1->b'<h.n:=fun b' n' e=>by
  rcases C.chs with ⟨_,e2⟩ | ⟨b2,e2,_,_,h2⟩
  · rw [e] at e2;cases e2
  · rw [e] at e2;cases e2;exact h2
 rcases C.out with ⟨b,m',rfl,rfl,hb,hb1,hb2⟩ | ⟨b,rfl,hb,hb1,hb2⟩
 · have hb':(h.push (.cells 0 [.int 3 m])).get b = .cells 0 [.int 3 m']:=by rw [H.get_push,if_neg (by omega)];exact hb
   refine ⟨_,_,fun kk=>zar0 hb' hq,⟨.inr ⟨_,rfl,by rw [H.get_push,if_pos rfl];rfl,L1.1,Nat.lt_succ_self _⟩,?_,fun b b' n n' e e'=>?_⟩,L1.push,by simp only [H.n_push];omega⟩
   · rcases C.chs with ⟨rfl,rfl⟩ | ⟨b',rfl,hc,hc1,hc2⟩
     · exact .inl ⟨rfl,rfl⟩
     · exact .inr ⟨b',rfl,by rw [H.get_push,if_neg (by simp only [H.n_push];omega),H.get_push,if_neg (by omega)];exact hc,hc1,by simp only [H.n_push];omega⟩
   · cases e;have:=hz b' n' e';simp only [H.n_push];omega
 · have hb':(h.push (.cells 0 [.int 3 m])).get b = .cells 0 (ints l):=by rw [H.get_push,if_neg (by omega)];exact hb
   refine ⟨_,_,fun kk=>zaq6 hb' hq rfl (by simp [ints]) hn,⟨.inr ⟨(h.push (.cells 0 [.int 3 m])).n,by simp,by rw [H.get_push,H.n_set,if_pos rfl];simp [ints],L1.1,Nat.lt_succ_self _⟩,?_,fun b b' n n' e e'=>?_⟩,(L1.set hb1).push,by simp only [H.n_push,H.n_set];omega⟩
   · rcases C.chs with ⟨rfl,rfl⟩ | ⟨b',rfl,hc,hc1,hc2⟩
     · exact .inl ⟨rfl,rfl⟩
     · refine .inr ⟨b',rfl,?_,hc1,by simp only [H.n_push,H.n_set];omega⟩
       rw [zapz (by simp only [H.n_push];omega) (fun e=>C.ne b b' _ _ rfl rfl e.symm),H.get_push,if_neg (by omega)]
       exact hc
   · cases e;have:=hz b' n' e';simp only [H.n_push];omega
structure Node (hF:H) (p ks:AV) (ps:List AV):Prop where
 ptr:∃b q fl l,p = .ptr b q/\hF.get b = .cells fl l/\l[q+2]?=some ks
 sl:(ps=[]/\ks = .leaf .nils)\/∃b o c fl l,(ks = .leaf (.sl b o ps.length c)\/ks = .osl b o ps.length 1)/\hF.get b = .cells fl l/\b<hF.n/\∀j,j<ps.length->l[o+j]?=ps[j]?
 kids:∀x∈ps,∃b q,x = .ptr b q/\hF.get b≠.dead
 few:ps.length<=100000
theorem zarj {ι0 ι:Inj} {hF:H} {w:World} {b q:Nat} {v:Value} (hR:Rel ι0 hF w) (le:ι0.le ι) (hb:hF.get b≠.dead) (h:VR ι (.ptr b q) v):VR ι0 (.ptr b q) v:=by
 obtain ⟨B,o,z,e,_⟩:=hR.blk b hb
 obtain ⟨B',base,sz,e',hv⟩:=h
 rw [le _ _ e] at e'
 cases e'
 exact ⟨B,o,z,e,hv⟩
theorem inf3:(P.info? 3).isSome=true:=by kernel_rfl
theorem zaty:Callable P link.add:=⟨_,wgLib.f_add,rfl,by kernel_rfl⟩
theorem zasu:Callable P link.wait:=⟨_,wgLib.f_wait,rfl,by kernel_rfl⟩
theorem zar7 (w:World) (O:Obj):(w.alloc O).heap[w.heap.size]?=some O:=Array.getElem?_push_size
theorem StR.no {ι:Inj} {N:Nat} {st:St} {a:Act} (h:StR ι N st a) (v:Value):StR ι N st (a.put none v):=⟨h.size,h.at_⟩
theorem _root_.Go.Co.At.poke {ι0 ι:Inj} {h0 h:H} {s0 s:LG} {w0 w:World} {X:Nat->Prop} (A:At ι0 h0 s0 w0 X ι h s w) {B q:Nat} {v:Value} (hX:X B):At ι0 h0 s0 w0 X ι h s (w.setCell ⟨B,q,none⟩ v):=by
 obtain ⟨x1,x2,x3⟩:=A.hid B hX
 have hs:(w.setCell ⟨B,q,none⟩ v).heap.size=w.heap.size:=by simp [World.setCell]
 have E:=A.ext
 refine ⟨?_,zagk A.rel (Nat.le_of_eq hs.symm) fun b B' o z e=>Below.heap_setCell _ _ _ _ (by rintro rfl;exact x3 _ _ _ e),A.cov,⟨A.fit.U,A.fit.apart,fun B' hB'=>by rw [hs];exact A.fit.lt B' hB',A.fit.busy,trivial⟩,fun B' hB'=>by rw [hs];exact A.hid B' hB'⟩
 exact {
  le:=E.le,os:=E.os,tape:=E.tape,output:=E.output,size:=by rw [hs];exact E.size,kid:=E.kid,fk:=E.fk,ro:=fun h=>Bool.noConfusion h,mine:=fun h=>Bool.noConfusion h,roW:=E.roW,mineW:=E.mineW,aside:=E.aside
  newR:=fun B' h=>by rw [hs];exact E.newR B' h
  new:=fun B' h=>by rw [hs];exact E.new B' h
  block:=fun B' h1 h2=>(Below.heap_setCell _ _ _ _ (by rintro rfl;have h2:B'<w0.heap.size:=h2;have x1:w0.heap.size<=B':=x1;omega)).trans (E.block B' h1 h2)
  own:=E.own,num:=E.num,lo:=E.lo,keep:=E.keep
  keepW:=fun b B' o z h1 h2 h3 e=>(Below.heap_setCell _ _ _ _ (by rintro rfl;exact x3 _ _ _ (E.le _ _ e))).trans (E.keepW b B' o z h1 h2 h3 e)
  dom:=E.dom }
structure Hid (s:LG) (w:World) (X:Nat->Prop) (B:Nat) (O:Obj):Prop where
 own:s.own B
 x:X B
 at_:w.heap[B]?=some O
section
variable {ι0 ι ι':Inj} {h0 h:H} {s0 s s':LG} {w0 w w' w₁:World} {X:Nat->Prop} {B B' q:Nat} {O O':Obj} {v:Value} {c:Array Value} {e:TypeId}
theorem Hid.lt (x:Hid s w X B O):B<w.heap.size:=(Array.getElem?_eq_some_iff.1 x.at_).1
theorem Hid.rely (x:Hid s w X B O) (r:Rely tW s w w₁):Hid s w₁ X B O:=⟨x.own,x.x,(r.own B x.own).trans x.at_⟩
theorem Hid.made (x:Hid s w X B O):Hid (s.plus w.heap.size (w.heap.size+1)) (w.alloc O') (fun B=>X B\/B=w.heap.size) B O:=⟨.inl x.own,.inl x.x,(Below.heap_alloc w O' B x.lt).trans x.at_⟩
theorem Hid.new:Hid (s.plus w.heap.size (w.heap.size+1)) (w.alloc O) (fun B=>X B\/B=w.heap.size) w.heap.size O:=⟨.inr ⟨Nat.le_refl _,Nat.lt_succ_self _⟩,.inr rfl,zar7 w O⟩
theorem Hid.stp (x:Hid s w X B O) (A:At ι0 h0 s0 w0 X ι h s w) (st:Stp ι s w ι' s' w'):Hid s' w' X B O:=⟨st.mine B x.own,x.x,(st.hid B x.own x.lt (A.hid B x.x).2.2).trans x.at_⟩
theorem Hid.other (x:Hid s w X B O) (hn:B≠B'):Hid s (w.setCell ⟨B',q,none⟩ v) X B O:=⟨x.own,x.x,(Below.heap_setCell _ _ _ _ hn).trans x.at_⟩
theorem Hid.poke (x:Hid s w X B (.cells c e)):Hid s (w.setCell ⟨B,q,none⟩ v) X B (.cells (c.setIfInBounds q v) e):=⟨x.own,x.x,zag8 x.at_ q v⟩
theorem Hid.refk (x:Hid s w X B O) (k:Option Fk):Hid { s with fk:=k } w X B O:=⟨x.own,x.x,x.at_⟩
structure Out1 (s:LG) (w:World) (B:Nat):Prop where
 no:¬ s.own B/\¬ s.ro B
 lt:B<w.heap.size
theorem Out1.rely (x:Out1 s w B) (r:Rely tW s w w₁):Out1 s w₁ B:=⟨x.no,Nat.lt_of_lt_of_le x.lt r.size⟩
theorem Out1.made (x:Out1 s w B):Out1 (s.plus w.heap.size (w.heap.size+1)) (w.alloc O) B:=⟨⟨fun h=>h.elim x.no.1 fun h=>by have:=x.lt;omega,x.no.2⟩,by have:=x.lt;simp;omega⟩
theorem Out1.stp (x:Out1 s w B) (st:Stp ι s w ι' s' w'):Out1 s' w' B:=let h:=ow_of st x.no x.lt; ⟨h.1,h.2⟩
theorem Out1.set (x:Out1 s w B):Out1 s (w.setCell ⟨B',q,none⟩ v) B:=⟨x.no,by have:=x.lt;simpa [World.setCell] using this⟩
theorem Out1.refk (x:Out1 s w B) (k:Option Fk):Out1 { s with fk:=k } w B:=⟨x.no,x.lt⟩
structure Ro1 (s:LG) (w:World) (B q:Nat) (v:Value):Prop where
 ro:s.ro B
 at_:Holds w B q v
theorem Ro1.lt (x:Ro1 s w B q v):B<w.heap.size:=by obtain ⟨c,e,fr,h1,_⟩:=x.at_;exact (Array.getElem?_eq_some_iff.1 h1).1
theorem Ro1.eq (x:Ro1 s w B q v) (h:w'.heap[B]?=w.heap[B]?):Holds w' B q v:=by obtain ⟨c,e,fr,h1,h2⟩:=x.at_;exact ⟨c,e,fr,h.trans h1,h2⟩
theorem Ro1.rely (x:Ro1 s w B q v) (r:Rely tW s w w₁):Ro1 s w₁ B q v:=⟨x.ro,x.eq (r.ro B x.ro)⟩
theorem Ro1.made (x:Ro1 s w B q v):Ro1 (s.plus w.heap.size (w.heap.size+1)) (w.alloc O) B q v:=⟨x.ro,x.eq (Below.heap_alloc w O B x.lt)⟩
theorem Ro1.stp (x:Ro1 s w B q v) (st:Stp ι s w ι' s' w'):Ro1 s' w' B q v:=⟨by rw [st.ro];exact x.ro,x.eq (st.rok B x.ro x.lt)⟩
theorem Ro1.set {q':Nat} {v':Value} (x:Ro1 s w B q v) (hn:B≠B'):Ro1 s (w.setCell ⟨B',q',none⟩ v') B q v:=⟨x.ro,x.eq (Below.heap_setCell _ _ _ _ hn)⟩
theorem Ro1.refk (x:Ro1 s w B q v) (k:Option Fk):Ro1 { s with fk:=k } w B q v:=⟨x.ro,x.at_⟩
end
theorem get_lt {ι:Inj} {h:H} {w:World} {b:Nat} (hR:Rel ι h w) (hb:h.get b≠.dead):b<h.n:=by
 obtain ⟨B,o,z,e,_⟩:=hR.blk b hb
 exact hR.fresh _ _ e
end Go.Co.Cnt
namespace Go.Co.Cnt
open Go Go.Conc Go.AI Go.RowKit Go.Conc.Lib
open Go.ConcR (KK wgBlock WgAt stA smA rd wr mk)
def kidsOf (chs:List Nat) (Ls:List (List Int)):List (Nat×List Value×Bool):=List.zipWith (fun c l=>(c,vals l,false)) chs Ls
theorem zai3:∀{chs:List Nat} {Ls:List (List Int)} {c:Nat} {L:List Int},Ls[chs.length]?=some L->kidsOf (chs++[c]) Ls=kidsOf chs Ls++[(c,vals L,false)]
 | [],l::Ls,c,L,h=>by
  have h:some l=some L:=h
  cases h;simp [kidsOf]
 | [],[],c,L,h=>by simp at h
 | x::chs,[],c,L,h=>by simp at h
 | x::chs,l::Ls,c,L,h=>by
  have h:Ls[chs.length]?=some L:=by simpa using h
  have:=zai3 (chs:=chs) (c:=c) h
  simp only [kidsOf,List.cons_append,List.zipWith_cons_cons] at this ⊢
  rw [this]
theorem zaph {chs:List Nat} {Ls:List (List Int)} (h:chs.length<=Ls.length):(kidsOf chs Ls).length=chs.length:=by simp [kidsOf];omega
section
variable {Post:Value->World->Prop} {main:Bool} {ι0:Inj} {hF:H} {s0:LG} {w0:World} {p f ks:AV} {vp vf:Value} {ps:List AV} {Ls:List (List Int)} {wg B3:Nat}
structure Kin (Post:Value->World->Prop) (hF:H) (f:AV) (ps:List AV) (Ls:List (List Int)):Prop where
 len:Ls.length=ps.length
 tri:∀(j:Nat) (x:AV) (L:List Int),ps[j]?=some x->Ls[j]?=some L->CoTri P tW Post false (none,false) n_c [x,f] hF (resC hF L)/\L.length<9223372036854775807
structure L1 (ι0:Inj) (hF:H) (s0:LG) (w0:World) (p ks:AV) (vf:Value) (ps:List AV) (Ls:List (List Int)) (wg B3:Nat) (j:Nat) (chs:List Nat) (a:Act) (s:LG) (w:World):Prop where
 at_:∃ι h X x,At ι0 hF s0 w0 X ι h s w/\Low hF h/\Chans hF h x chs/\StR ι 52 [(0,p),(3,rawp B3 0),(5,rawp wg 0),(6,x),(17,ks),(18,.int 3 (.ofNat ps.length)),(19,.int 3 (.ofNat j))] a
 len:chs.length=j
 le:j<=ps.length
 fk:s.fk=some ⟨wg,kidsOf chs Ls,.idle⟩
 b3:Ro1 s w B3 0 vf
 nw:Out1 s w wg
 defs:a.defers=[]
theorem e_c4 {F:Nat} {h:H} {kn:K} (x0 x3 x5 x6 x17:AV) (n j:Int):den P E0 52 F (.region 4 Rc4 false) .o [(0,x0),(3,x3),(5,x5),(6,x6),(17,x17),(18,.int 3 n),(19,.int 3 j)] h kn K0 KR =
 kn [(20,.bool (ilt j n)),(0,x0),(3,x3),(5,x5),(6,x6),(17,x17),(18,.int 3 n),(19,.int 3 j)] h:=by kernel_rfl
theorem zau3 {α:Type} {b o n c es kk j:Nat} {h:H} {k:AV->H->Option α} (hj:j<n):aIdxAddr es (.leaf (.sl b o n c)) (.int kk (.ofNat j)) h k=k (.ptr b (o+j * es)) h:=idx_sl hj
theorem zatf {ps:List AV} {h:H} {α:Type} (N:Node hF p ks ps) {j:Nat} (hj:j<ps.length):∃b o fl l,(∀k:AV->H->Option α,aIdxAddr 1 ks (.int 3 (.ofNat j)) h k=k (.ptr b (o+j * 1)) h)/\hF.get b = .cells fl l/\b<hF.n/\l[o+j * 1]?=ps[j]?:=by
 rcases N.sl with ⟨rfl,_⟩ | ⟨b,o,c,fl,l,h1,h2,h3,h4⟩
 · simp at hj
 · refine ⟨b,o,fl,l,fun k=>?_,h2,h3,by simpa using h4 j hj⟩
   rcases h1 with rfl | rfl
   · exact idx_sl hj
   · exact zaoy hj
theorem e_c10 {F:Nat} {h:H} {kn:K} (x0 x3 x5 x6 x17:AV) (n:Int) {j:Nat} (hj:j<9223372036854775807):den P E0 52 F (.region 10 Rc10 false) .o [(0,x0),(3,x3),(5,x5),(6,x6),(17,x17),(18,.int 3 n),(19,.int 3 (.ofNat j))] h kn K0 KR =
 kn [(19,.int 3 (.ofNat (j+1))),(30,.int 3 (.ofNat (j+1))),(0,x0),(3,x3),(5,x5),(6,x6),(17,x17),(18,.int 3 n),(19,.int 3 (.ofNat j))] h:=by
 have h1:den P E0 52 F (.region 10 Rc10 false) .o [(0,x0),(3,x3),(5,x5),(6,x6),(17,x17),(18,.int 3 n),(19,.int 3 (.ofNat j))] h kn K0 KR =
  aArith iadd (.int 3 (.ofNat j)) (.int 3 (.ofNat 1)) h fun z h=>kn [(19,z),(30,z),(0,x0),(3,x3),(5,x5),(6,x6),(17,x17),(18,.int 3 n),(19,.int 3 (.ofNat j))] h:=by kernel_rfl
 rw [h1,add1 hj]
theorem zabb (a:Act) (d:Option Nat) (v:Value):(a.put d v).defers=a.defers:=by cases d <;> rfl
theorem zatt {o:Oper} {a:Act} {f:Fn} {x1 x2 x3 x4:Operand} {v1 v2 v3 v4:Value} (hop:o.op = .makeFunc f #[] #[x1,x2,x3,x4]) (h1:a.eval x1=v1) (h2:a.eval x2=v2) (h3:a.eval x3=v3) (h4:a.eval x4=v4) (w:World) :
 (execOp a.eval o).run P w = .ok (.value (.func f #[] #[v1,v2,v3,v4])) w:=by simp [execOp,hop,Instr.makeFunc,h1,h2,h3,h4]
theorem zarx {Q:Out} {n:Nat} {a:Act} {s:LG} {w:World} (Z:Base ι0 hF s0 w0) (N:Node hF p ks ps) (K:Kin Post hF f ps Ls) (hf:VR ι0 f vf)
 (hQ:∀chs a s w,L1 ι0 hF s0 w0 p ks vf ps Ls wg B3 ps.length chs a s w->Q .normal a s w) (hI:∃j chs,n=ps.length - j/\L1 ι0 hF s0 w0 p ks vf ps Ls wg B3 j chs a s w) :
 CoC P tW Post main n_c (.seq (.region 4 Rc4 false) (.seq (.cond (.tmp 20) .skip (.exit 0)) (.seq (.block 1 (.seq (.region 5 Rc5 false) (.seq (.region 6 Rc6 false) (.seq (.region 7 Rc7 false) (.seq (.region 8 Rc8 false) (.region 9 Rc9 false)))))) (.region 10 Rc10 false))))
  (Out.seq (fun a s w=>∃m,m<n/\∃j chs,m=ps.length - j/\L1 ι0 hF s0 w0 p ks vf ps Ls wg B3 j chs a s w) (Out.block 0 Q)) a s w:=by
 obtain ⟨j,chs,rfl,hI⟩:=hI
 obtain ⟨ι,h,X,x,A,hL,hCh,hS⟩:=hI.at_
 refine co_seq (zaf8 (F:=0) (an:=.o) A hS (by decide) (fun kn=>e_c4 _ _ _ _ _ _ _) fun ι1 s1 a1 w1 A1 hS1 hd1 st1=>?_)
 refine co_seq (zagc (t:=decide (j<ps.length)) (by have:=hS1.ev (.tmp 20);rw [<- zaet];exact this.bool) ?_)
 have g1:=hI.nw.stp st1
 have f1:=hI.b3.stp st1
 have k1:s1.fk=some ⟨wg,kidsOf chs Ls,.idle⟩:=st1.fk.trans hI.fk
 by_cases hj:j<ps.length
 · rw [if_pos (by simpa using hj)]
   refine zaik ?_
   show CoC _ _ _ _ _ _ _ _ _ _
   refine co_seq (zade (co_seq (zaav ?_)))
   obtain ⟨bk,ok,flk,lk,hidx,hbk,hbkn,hlk⟩:=zatf (α:=R) (h:=h) N hj
   obtain ⟨pj,hpj⟩:∃y,ps[j]?=some y:=⟨_,List.getElem?_eq_getElem hj⟩
   obtain ⟨Lj,hLj⟩:∃y,Ls[j]?=some y:=⟨_,List.getElem?_eq_getElem (by rw [K.len];exact hj)⟩
   obtain ⟨Tj,hLjl⟩:=K.tri j pj Lj hpj hLj
   obtain ⟨bj,qj,rfl,hbj⟩:=N.kids pj (List.mem_of_getElem? hpj)
   refine ev_op (ops:=Rc5) A1 hS1 rfl rfl rfl (x:=.ptr bk (ok+j * 1)) (h':=h) (fun k=>Eq.trans (by kernel_rfl) (hidx k)) fun ι2 v2 s2 w2 A2 hv2 st2=>?_
   have hS2:=(hS1.mono st2.le).put 21 _ _ (by decide) hv2
   refine ev_op (ops:=Rc5) A2 hS2 rfl rfl rfl (x:=.ptr bj qj) (h':=h) (fun k=>Eq.trans (by kernel_rfl) (zacg ((hL.2 bk hbkn).trans hbk) (hlk.trans hpj))) fun ι3 v3 s3 w3 A3 hv3 st3=>?_
   have hS3:=(hS2.mono st3.le).put 22 _ _ (by decide) hv3
   have g3:=(g1.stp st2).stp st3
   have f3:=(f1.stp st2).stp st3
   have k3:s3.fk=some ⟨wg,kidsOf chs Ls,.idle⟩:=by rw [st3.fk,st2.fk];exact k1
   refine zaju (ops:=Rc5) (v:=fun n=>.pointer (some ⟨n,0,none⟩)) rfl rfl (zaf4 rfl z41) (zahx rfl z41) A3.fit.lt fun w4 r4=>?_
   have A4:=(A3.rely r4).made (.cells #[.pointer none] 34)
   have g4:=(g3.rely r4).made (O:=.cells #[.pointer none] 34)
   have f4:=(f3.rely r4).made (O:=.cells #[.pointer none] 34)
   have x4:Hid (s3.plus w4.heap.size (w4.heap.size+1)) (w4.alloc (.cells #[.pointer none] 34)) (fun B=>X B\/B=w4.heap.size) w4.heap.size _:=Hid.new
   have k4:(s3.plus w4.heap.size (w4.heap.size+1)).fk=some ⟨wg,kidsOf chs Ls,.idle⟩:=k3
   have hS4:=hS3.put 8 (rawp w4.heap.size 0) (.pointer (some ⟨w4.heap.size,0,none⟩)) (by decide) (raw_vr _)
   generalize s3.plus w4.heap.size (w4.heap.size+1)=s4 at *
   generalize hB8:w4.heap.size=B8 at *
   generalize w4.alloc (.cells #[.pointer none] 34)=w4' at *
   generalize (fun B=>X B\/B=B8)=X4 at *
   obtain ⟨Bj,base,sz,ej,hvj⟩:=hS4.ev (.tmp 22)
   have hvj:=(List.cons.inj hvj).1
   refine zaom (ops:=Rc5) (z:=.pointer none) rfl rfl rfl ag41 (raw_eq (hS4.ev (.tmp 8))) hvj rfl x4.own x4.at_ rfl A4.fit.busy sz41 rfl fun w5 r5=>?_
   have n3:B3≠B8:=fun e=>A4.fit.apart B8 x4.own (e ▸ f4.ro)
   have A5:=(A4.rely r5).poke (B:=B8) (q:=0) (v:=.pointer (some ⟨Bj,base+qj,none⟩)) x4.x
   have g5:=(g4.rely r5).set (B':=B8) (q:=0) (v:=.pointer (some ⟨Bj,base+qj,none⟩))
   have f5:=(f4.rely r5).set (B':=B8) (q':=0) (v':=.pointer (some ⟨Bj,base+qj,none⟩)) n3
   have x5:=(x4.rely r5).poke (q:=0) (v:=.pointer (some ⟨Bj,base+qj,none⟩))
   have hS5:=StR.no hS4 undef
   generalize w5.setCell ⟨B8,0,none⟩ (.pointer (some ⟨Bj,base+qj,none⟩))=w6 at *
   refine co_nil ?_
   refine co_seq (zaav ?_)
   obtain ⟨i3,hi3⟩:=Option.isSome_iff_exists.1 inf3
   refine zaju (ops:=Rc6) (v:=fun n=>.chan (some n)) rfl rfl (zap5 rfl rfl ct82 hi3) (zash rfl rfl ct82 hi3) A5.fit.lt fun w7 r7=>?_
   have A7:=(A5.rely r7).made (.chan 0 #[] false 0 0 false)
   have g7:=(g5.rely r7).made (O:=.chan 0 #[] false 0 0 false)
   have f7:=(f5.rely r7).made (O:=.chan 0 #[] false 0 0 false)
   have x7:=(x5.rely r7).made (O':=.chan 0 #[] false 0 0 false)
   have c7:Hid (s4.plus w7.heap.size (w7.heap.size+1)) (w7.alloc (.chan 0 #[] false 0 0 false)) (fun B=>X4 B\/B=w7.heap.size) w7.heap.size _:=Hid.new
   have k7:(s4.plus w7.heap.size (w7.heap.size+1)).fk=some ⟨wg,kidsOf chs Ls,.idle⟩:=k4
   have n8c:B8≠w7.heap.size:=Nat.ne_of_lt (x5.rely r7).lt
   have hS7:=hS5.put 23 (rawc w7.heap.size) (.chan (some w7.heap.size)) (by decide) (raw_vr _)
   generalize s4.plus w7.heap.size (w7.heap.size+1)=s7 at *
   generalize w7.alloc (.chan 0 #[] false 0 0 false)=w7' at *
   generalize (fun B=>X4 B\/B=w7.heap.size)=X7 at *
   generalize w7.heap.size=ch at *
   refine zaju (ops:=Rc6) (v:=fun n=>.pointer (some ⟨n,0,none⟩)) rfl rfl (zaf4 rfl z82) (zahx rfl z82) A7.fit.lt fun w8 r8=>?_
   have A8:=(A7.rely r8).made (.cells #[.chan none] 79)
   have g8:=(g7.rely r8).made (O:=.cells #[.chan none] 79)
   have f8:=(f7.rely r8).made (O:=.cells #[.chan none] 79)
   have x8:=(x7.rely r8).made (O':=.cells #[.chan none] 79)
   have c8:=(c7.rely r8).made (O':=.cells #[.chan none] 79)
   have y8:Hid (s7.plus w8.heap.size (w8.heap.size+1)) (w8.alloc (.cells #[.chan none] 79)) (fun B=>X7 B\/B=w8.heap.size) w8.heap.size _:=Hid.new
   have k8:(s7.plus w8.heap.size (w8.heap.size+1)).fk=some ⟨wg,kidsOf chs Ls,.idle⟩:=k7
   have n89:B8≠w8.heap.size:=Nat.ne_of_lt (x7.rely r8).lt
   have nc9:ch≠w8.heap.size:=Nat.ne_of_lt (c7.rely r8).lt
   have hS8:=hS7.put 9 (rawp w8.heap.size 0) (.pointer (some ⟨w8.heap.size,0,none⟩)) (by decide) (raw_vr _)
   generalize s7.plus w8.heap.size (w8.heap.size+1)=s8 at *
   generalize w8.alloc (.cells #[.chan none] 79)=w8' at *
   generalize (fun B=>X7 B\/B=w8.heap.size)=X8 at *
   generalize w8.heap.size=B9 at *
   refine zaom (ops:=Rc6) (z:=.chan none) rfl rfl rfl ag82 (raw_eq (hS8.ev (.tmp 9))) (raw_eq (hS8.ev (.tmp 23))) rfl y8.own y8.at_ rfl A8.fit.busy sz82 rfl fun w9 r9=>?_
   have n39:B3≠B9:=fun e=>A8.fit.apart B9 y8.own (e ▸ f8.ro)
   have A9:=(A8.rely r9).poke (B:=B9) (q:=0) (v:=.chan (some ch)) y8.x
   have g9:=(g8.rely r9).set (B':=B9) (q:=0) (v:=.chan (some ch))
   have f9:=(f8.rely r9).set (B':=B9) (q':=0) (v':=.chan (some ch)) n39
   have x9:=(x8.rely r9).other (q:=0) (v:=.chan (some ch)) n89
   have c9:=(c8.rely r9).other (q:=0) (v:=.chan (some ch)) nc9
   have y9:=(y8.rely r9).poke (q:=0) (v:=.chan (some ch))
   have hS9:=StR.no hS8 undef
   generalize w9.setCell ⟨B9,0,none⟩ (.chan (some ch))=w10 at *
   refine co_nil ?_
   refine co_seq (zaav ?_)
   refine ev_op (ops:=Rc7) A9 hS9 rfl rfl rfl (x:=x) (h':=h) (fun k=>rfl) fun ι10 v10 s10 w11 A10 hv10 st10=>?_
   have hS10:=(hS9.mono st10.le).put 24 _ _ (by decide) hv10
   have g10:=g9.stp st10
   have f10:=f9.stp st10
   have x10:=x9.stp A9 st10
   have c10:=c9.stp A9 st10
   have y10:=y9.stp A9 st10
   have k10:s10.fk=some ⟨wg,kidsOf chs Ls,.idle⟩:=st10.fk.trans k8
   refine zai2 (ops:=Rc7) (v:=.chan (some ch)) rfl rfl rfl ag82 (raw_eq (hS10.ev (.tmp 9))) (.inl y10.own) y10.at_ rfl A10.fit.busy fun w12 r12=>?_
   have hS12:=hS10.put 25 (rawc ch) (.chan (some ch)) (by decide) (raw_vr _)
   have A12:=A10.rely r12
   have g12:=g10.rely r12
   have f12:=f10.rely r12
   have x12:=x10.rely r12
   have c12:=c10.rely r12
   have y12:=y10.rely r12
   refine ev_op (ops:=Rc7) A12 hS12 rfl rfl rfl (x:=.leaf (.sl h.n 0 1 1)) (h':=h.push (.cells 0 [rawc ch])) (fun k=>by kernel_rfl) fun ι13 v13 s13 w13 A13 hv13 st13=>?_
   have hS13:=(hS12.mono st13.le).put 26 _ _ (by decide) hv13
   obtain ⟨x',h',happ,hCh',hL',hn'⟩:=hCh.app (α:=R) (c:=ch) hL (by have:=hI.len;have:=N.few;omega)
   refine ev_op (ops:=Rc7) A13 hS13 rfl rfl rfl (x:=x') (h':=h') (fun k=>Eq.trans (by kernel_rfl) (happ k)) fun ι14 v14 s14 w14 A14 hv14 st14=>?_
   have hS14:=(hS13.mono st14.le).put 27 _ _ (by decide) hv14
   refine ev_op (ops:=Rc7) A14 hS14 rfl rfl rfl (x:=x') (h':=h') (fun k=>rfl) fun ι15 v15 s15 w15 A15 hv15 st15=>?_
   have hS15:=(hS14.mono st15.le).put 6 _ _ (by decide) hv15
   have g15:=((g12.stp st13).stp st14).stp st15
   have f15:=((f12.stp st13).stp st14).stp st15
   have x15:=((x12.stp A12 st13).stp A13 st14).stp A14 st15
   have c15:=((c12.stp A12 st13).stp A13 st14).stp A14 st15
   have y15:=((y12.stp A12 st13).stp A13 st14).stp A14 st15
   have k15:s15.fk=some ⟨wg,kidsOf chs Ls,.idle⟩:=by rw [st15.fk,st14.fk,st13.fk];exact k10
   refine co_nil ?_
   refine co_seq (zaav ?_)
   refine zalv (ops:=Rc8) (args:= #[.pointer (some ⟨wg,0,none⟩),.int .i64 1]) rfl rfl rfl rfl (List.map_toArray.trans (congrArg (fun x:Value=> #[x,Value.int IntKind.i64 1]) (raw_eq (hS15.ev (.tmp 5))))) zaty A15.fit.busy fun w16 r16 hl16=>?_
   have g16:=g15.rely r16
   refine (zauc wgLib k15 g16.no.1 g16.no.2 A15.fit.busy (hl16.2 _ k15)).mono fun v17 s17 w17 h17=>?_
   obtain ⟨rfl,rfl,r17⟩:=h17
   have A17:=((A15.rely r16).fkTurn (some ⟨wg,kidsOf chs Ls,.pend⟩)).rely r17
   have g17:=(g16.refk (some ⟨wg,kidsOf chs Ls,.pend⟩)).rely r17
   have f17:=((f15.rely r16).refk (some ⟨wg,kidsOf chs Ls,.pend⟩)).rely r17
   have x17:=((x15.rely r16).refk (some ⟨wg,kidsOf chs Ls,.pend⟩)).rely r17
   have c17:=((c15.rely r16).refk (some ⟨wg,kidsOf chs Ls,.pend⟩)).rely r17
   have y17:=((y15.rely r16).refk (some ⟨wg,kidsOf chs Ls,.pend⟩)).rely r17
   have hS17:=hS15.put 28 (.leaf (.raw (.tuple #[]))) (.tuple #[]) (by decide) (raw_vr _)
   refine co_nil ?_
   show CoC _ _ _ _ _ _ _ _ _ _
   refine zaav ?_
   have e5:=raw_eq (hS17.ev (.tmp 5))
   have e8:=raw_eq (hS17.ev (.tmp 8))
   have e3:=raw_eq (hS17.ev (.tmp 3))
   have e9:=raw_eq (hS17.ev (.tmp 9))
   refine zads (ops:=Rc9) (v:=.func (.func n_k) #[] #[.pointer (some ⟨wg,0,none⟩),.pointer (some ⟨B8,0,none⟩),.pointer (some ⟨B3,0,none⟩),.pointer (some ⟨B9,0,none⟩)]) rfl rfl (zatt rfl e5 e8 e3 e9) (ev_fnO rfl) fun w18 r18=>?_
   have A18:=A17.rely r18
   have g18:=g17.rely r18
   have f18:=f17.rely r18
   have x18:=x17.rely r18
   have c18:=c17.rely r18
   have y18:=y17.rely r18
   have hS18:=hS17.put 29 (.leaf (.raw (.func (.func n_k) #[] #[.pointer (some ⟨wg,0,none⟩),.pointer (some ⟨B8,0,none⟩),.pointer (some ⟨B3,0,none⟩),.pointer (some ⟨B9,0,none⟩)]))) _ (by decide) (raw_vr _)
   have nc8:ch≠B8:=fun e=>by have h1:=c18.at_;have h2:=x18.at_;rw [e,h2] at h1;cases h1
   have nc9':ch≠B9:=fun e=>by have h1:=c18.at_;have h2:=y18.at_;rw [e,h2] at h1;cases h1
   refine co_go (ops:=Rc9) (L:=vals Lj) (fun b=>b=B8\/b=B9) (fun b hb=>?_) rfl rfl rfl rfl rfl (raw_eq (hS18.ev (.tmp 29))) rfl (by rw [zaph (by rw [K.len,hI.len];omega),hI.len];have:=N.few;omega) c18.own (A18.fit.apart _ c18.own) c18.at_ (fun w19 r19=>?_) fun w19 r19=>?_
   · rcases hb with rfl | rfl
     · exact ⟨x18.own,Ne.symm nc8⟩
     · exact ⟨y18.own,Ne.symm nc9'⟩
   · have A19:=A18.rely r19
     have hX:∀B,Own ι15 h' B->B≠ch/\¬ (B=B8\/B=B9):=fun B hB=>by
      obtain ⟨b,o,z,e,_⟩:=hB
      refine ⟨?_,?_⟩
      · rintro rfl;exact (A19.hid _ c18.x).2.2 _ _ _ e
      · rintro (rfl | rfl)
        · exact (A19.hid _ x18.x).2.2 _ _ _ e
        · exact (A19.hid _ y18.x).2.2 _ _ _ e
     have A20:=A19.turn (s':=⟨fun b=>_/\b≠ch/\¬ (b=B8\/b=B9),fun b=>_\/(b=B8\/b=B9),_,some ⟨wg,kidsOf chs Ls++[(ch,vals Lj,false)],.idle⟩⟩) rfl (fun B h=>h.1) (fun B h=>.inl h) (fun B h=>h.imp id fun h=>by
      rcases h with rfl | rfl
      · exact x18.own
      · exact y18.own) (fun B h=>by
      by_cases e1:B=ch
      · exact .inr (e1 ▸ c18.x)
      · by_cases e2:B=B8\/B=B9
        · exact .inr (e2.elim (fun e=>e ▸ x18.x) fun e=>e ▸ y18.x)
        · exact .inl ⟨h,e1,e2⟩) (fun B h hr=>hr.elim (A18.fit.apart B h.1) h.2.2) (fun B hB=>⟨A18.cov.own B hB,hX B hB⟩) (fun B hB=>Z.fit.lt B (.inl hB))
     have g20:=g18.rely r19
     have f20:=f18.rely r19
     refine co_nil ?_
     show CoC _ _ _ _ _ _ _ _ _ _
     have hS20:=zaao (StR.no hS18 undef) [0,3,5,6,17,18,19]
     refine zaf8 (F:=0) (an:=.o) A20 hS20 (by decide) (fun kn=>e_c10 _ _ _ _ _ _ (by have:=N.few;omega)) fun ι21 s21 a21 w21 A21 hS21 hd21 st21=>?_
     refine ⟨ps.length - (j+1),by omega,j+1,chs++[ch],rfl,?_⟩
     exact {
      at_:=⟨ι21,h',_,x',A21,hL',hCh',zaao hS21 [0,3,5,6,17,18,19]⟩
      len:=by simp [hI.len]
      le:=hj
      fk:=by rw [zai3 (by rw [hI.len];exact hLj)];exact st21.fk
      b3:=(Ro1.mk (s:=⟨_,_,_,_⟩) (.inl f20.ro) f20.at_).stp st21
      nw:=(Out1.mk (s:=⟨_,_,_,_⟩) ⟨fun h=>g20.no.1 h.1,fun h=>h.elim g20.no.2 fun h=>by
       rcases h with rfl | rfl
       · exact g18.no.1 x18.own
       · exact g18.no.1 y18.own⟩ g20.lt).stp st21
      defs:=by rw [hd21];simp only [zabb];exact hd1.trans hI.defs }
   · have A19:=A18.rely r19
     obtain ⟨K1,K2,K3⟩:=Z.keep A19
     refine child (q8:=0) (q3:=0) (q9:=0) hLjl Tj K1 ⟨fun b B o z e=>.inr (.inl (K2 b B o z e)),fun B hB=>absurd hB (Z.no B)⟩ ⟨fun _ h=>h.elim,fun B h=>h.elim,fun B h=>h.elim (fun h=>h.elim) fun h=>A19.fit.lt B ?_,fun k hk=>by cases hk;rfl,trivial⟩ (zarj Z.rel A3.ext.le hbj ⟨Bj,base,sz,ej,rfl⟩) hf rfl rfl ⟨id,fun h=>?_⟩ (g18.rely r19).lt ⟨.inr (.inl rfl),_,_,_,(x18.rely r19).at_,rfl⟩ ⟨.inl f18.ro,(f18.rely r19).at_⟩ ⟨.inr (.inr rfl),_,_,_,(y18.rely r19).at_,rfl⟩
     · rcases h with h | rfl | rfl
       · exact .inr h
       · exact .inl x18.own
       · exact .inl y18.own
     · rcases h with h | rfl | rfl
       · exact g18.no.2 h
       · exact g18.no.1 x18.own
       · exact g18.no.1 y18.own
 · rw [if_neg (by simpa using hj)]
   obtain rfl:j=ps.length:=by have:=hI.le;omega
   have hS7:=zaao hS1 [0,3,5,6,17,18,19]
   have q:L1 ι0 hF s0 w0 p ks vf ps Ls wg B3 ps.length chs a1 s1 w1:={
    at_:=⟨ι1,h,X,x,A1,hL,hCh,hS7⟩
    len:=hI.len
    le:=Nat.le_refl _
    fk:=k1
    b3:=f1
    nw:=g1
    defs:=hd1.trans hI.defs }
   have q:=hQ _ _ _ _ q
   exact zaip (by simpa [Out.seq,Out.block] using q)
end
end Go.Co.Cnt
namespace Go.Co.Cnt
open Go Go.Conc Go.AI Go.RowKit Go.Conc.Lib
open Go.ConcR (KK wgBlock WgAt stA smA rd wr mk)
def doneOf (chs:List Nat) (Ls:List (List Int)) (j:Nat):List (Nat×List Value×Bool):=(chs.take j).map (fun c=>(c,[],true))++kidsOf (chs.drop j) (Ls.drop j)
theorem zamc (chs:List Nat) (Ls:List (List Int)):doneOf chs Ls 0=kidsOf chs Ls:=by simp [doneOf]
theorem zajp {chs:List Nat} {Ls:List (List Int)} {j:Nat} {c:Nat} {L:List Int} (hc:chs[j]?=some c) (hL:Ls[j]?=some L):(doneOf chs Ls j)[j]?=some (c,vals L,false):=by
 have hj:j<chs.length:=(List.getElem?_eq_some_iff.1 hc).1
 unfold doneOf
 rw [List.getElem?_append_right (by simp;omega)]
 simp only [List.length_map,List.length_take,Nat.min_eq_left (Nat.le_of_lt hj),Nat.sub_self,kidsOf]
 rw [List.getElem?_zipWith]
 simp [hc,hL]
theorem zamb {chs:List Nat} {Ls:List (List Int)} {j:Nat} {c:Nat} {L:List Int} (hc:chs[j]?=some c) (hL:Ls[j]?=some L):(doneOf chs Ls j).set j (c,[],true)=doneOf chs Ls (j+1):=by
 have hj:j<chs.length:=(List.getElem?_eq_some_iff.1 hc).1
 have hj2:j<Ls.length:=(List.getElem?_eq_some_iff.1 hL).1
 have e1:chs.drop j=c::chs.drop (j+1):=by rw [List.drop_eq_getElem_cons hj];congr 1;rw [List.getElem?_eq_getElem hj] at hc;exact Option.some.inj hc
 have e2:Ls.drop j=L::Ls.drop (j+1):=by rw [List.drop_eq_getElem_cons hj2];congr 1;rw [List.getElem?_eq_getElem hj2] at hL;exact Option.some.inj hL
 have e3:chs.take (j+1)=chs.take j++[c]:=by rw [List.take_add_one,hc];rfl
 unfold doneOf
 rw [e1,e2,e3,List.set_append_right _ _ (by simp;omega)]
 simp [kidsOf,Nat.min_eq_left (Nat.le_of_lt hj)]
theorem zamz {chs:List Nat} {Ls:List (List Int)} {n:Nat} (h:chs.length=n):∀x∈doneOf chs Ls n,x.2.2=true:=by
 intro x hx
 simp [doneOf, <- h,kidsOf] at hx
 obtain ⟨c,_,rfl⟩:=hx
 rfl
theorem zasl {α:Type} {l:List α} {j:Nat} {x:α} (h:l[j]?=some x):l.set j x=l:=by
 obtain ⟨hj,rfl⟩:=List.getElem?_eq_some_iff.1 h
 exact List.set_getElem_self hj
theorem inf3z:∃i,P.info? 3=some i/\i.zero=some (.int .i64 0):=by
 have h:(P.info? 3).bind (·.zero)=some (.int .i64 0):=by kernel_rfl
 obtain ⟨i,h1,h2⟩:=Option.bind_eq_some_iff.1 h
 exact ⟨i,h1,h2⟩
section
variable {Post:Value->World->Prop} {main:Bool} {ι0:Inj} {hF:H} {s0:LG} {w0:World} {wg:Nat} {chs:List Nat} {Ls:List (List Int)} {tot:List Int}
structure L2 (ι0:Inj) (hF:H) (s0:LG) (w0:World) (wg:Nat) (chs:List Nat) (j:Nat) (ex:St) (acc:List Int) (kids:List (Nat×List Value×Bool)) (a:Act) (s:LG) (w:World):Prop where
 at_:∃ι h X y z,At ι0 hF s0 w0 X ι h s w/\Low hF h/\Two hF h y acc z chs/\StR ι 52 ((5,rawp wg 0)::(10,y)::(35,z)::(36,.int 3 (.ofNat chs.length))::(37,.int 3 (.ofNat j))::ex) a
 fk:s.fk=some ⟨wg,kids,.idle⟩
 nw:Out1 s w wg
 defs:a.defers=[]
def LI (ι0:Inj) (hF:H) (s0:LG) (w0:World) (wg:Nat) (chs:List Nat) (Ls:List (List Int)) (tot:List Int) (j c:Nat) (L:List Int) (i:Nat) (a:Act) (s:LG) (w:World):Prop:=
 i<=L.length/\∃acc,acc++L.drop i++(Ls.drop (j+1)).flatten=tot/\L2 ι0 hF s0 w0 wg chs j [(41,rawc c)] acc ((doneOf chs Ls j).set j (c,vals (L.drop i),false)) a s w
theorem inner {Q:Out} {j c:Nat} {L:List Int} {n:Nat} {a:Act} {s:LG} {w:World} (hc:chs[j]?=some c) (hLj:Ls[j]?=some L) (htot:tot.length<=1000000000)
 (hQ:∀acc a s w,acc++(Ls.drop (j+1)).flatten=tot->L2 ι0 hF s0 w0 wg chs j [] acc (doneOf chs Ls (j+1)) a s w->Q .normal a s w) (hI:∃i,n=L.length - i/\LI ι0 hF s0 w0 wg chs Ls tot j c L i a s w) :
 CoC P tW Post main n_c (.seq (.region 16 Rc16 false) (.seq (.cond (.tmp 43) .skip (.exit 4)) (.block 5 (.seq (.region 17 Rc17 false) (.region 18 Rc18 false)))))
  (Out.seq (fun a s w=>∃m,m<n/\∃i,m=L.length - i/\LI ι0 hF s0 w0 wg chs Ls tot j c L i a s w) (Out.block 4 Q)) a s w:=by
 obtain ⟨i,rfl,hi,acc,hacc,hI⟩:=hI
 obtain ⟨ι,h,X,y,z,A,hL,hT,hS⟩:=hI.at_
 have hj:j<chs.length:=(List.getElem?_eq_some_iff.1 hc).1
 have hj2:j<Ls.length:=(List.getElem?_eq_some_iff.1 hLj).1
 obtain ⟨i3,hi3,hz3⟩:=inf3z
 have hlen:j<(doneOf chs Ls j).length:=(List.getElem?_eq_some_iff.1 (zajp hc hLj)).1
 refine co_seq (zaav ?_)
 refine zat4 (ops:=Rc16) (m:=j) (c:=c) (wg:=wg) (rem:=vals (L.drop i)) rfl rfl rfl ct82 hi3 hz3 (raw_eq (hS.ev (.tmp 41))) hI.fk (by rw [List.getElem?_set_self hlen]) (fun v r' er w1 r1=>?_) fun er w1 r1=>?_
 · have hi2:i<L.length:=by
    by_cases h:i<L.length
    · exact h
    · rw [List.drop_eq_nil_of_le (by omega)] at er;cases er
   have hdr:L.drop i=L[i]::L.drop (i+1):=List.drop_eq_getElem_cons hi2
   generalize L[i]=y0 at hdr
   rw [hdr] at er
   obtain ⟨rfl,rfl⟩:v = .int .i64 y0/\r'=vals (L.drop (i+1)):=by
    have:=List.cons.inj er
    exact ⟨this.1.symm,this.2.symm⟩
   rw [List.set_set]
   have A1:=(A.rely r1).fkTurn (some ⟨wg,(doneOf chs Ls j).set j (c,vals (L.drop (i+1)),false),.idle⟩)
   have g1:=(hI.nw.rely r1).refk (some ⟨wg,(doneOf chs Ls j).set j (c,vals (L.drop (i+1)),false),.idle⟩)
   have hS1:=hS.put 42 (.leaf (.raw (recvd true (.int .i64 y0) true))) _ (by decide) (raw_vr _)
   have k1:({ s with fk:=some ⟨wg,(doneOf chs Ls j).set j (c,vals (L.drop (i+1)),false),.idle⟩ }:LG).fk=some ⟨wg,(doneOf chs Ls j).set j (c,vals (L.drop (i+1)),false),.idle⟩:=rfl
   generalize ({ s with fk:=some ⟨wg,(doneOf chs Ls j).set j (c,vals (L.drop (i+1)),false),.idle⟩ }:LG)=s1 at *
   refine zads (ops:=Rc16) (v:=.bool true) rfl rfl (zam3 rfl (raw_eq (hS1.ev (.tmp 42))) rfl) (ev_exO rfl (raw_eq (hS1.ev (.tmp 42))) rfl) fun w2 r2=>?_
   have A2:=A1.rely r2
   have hS2:=hS1.put 43 (.bool true) (.bool true) (by decide) rfl
   refine co_nil ?_
   refine co_seq (zagc (t:=true) (hS2.ev (.tmp 43)).bool ?_)
   refine zaik ?_
   show CoC _ _ _ _ _ _ _ _ _ _
   refine zade (co_seq (zaav ?_))
   refine zads (ops:=Rc17) (v:=.int .i64 y0) rfl rfl (zam3 rfl (raw_eq (hS2.ev (.tmp 42))) rfl) (ev_exO rfl (raw_eq (hS2.ev (.tmp 42))) rfl) fun w3 r3=>?_
   have A3:=A2.rely r3
   have hS3:=hS2.put 44 (.int 3 y0) (.int .i64 y0) (by decide) rfl
   refine ev_op (ops:=Rc17) A3 hS3 rfl rfl rfl (x:=.int 3 y0) (h':=h) (fun k=>rfl) fun ι4 v4 s4 w4 A4 hv4 st4=>?_
   have hS4:=(hS3.mono st4.le).put 13 _ _ (by decide) hv4
   refine co_nil ?_
   show CoC _ _ _ _ _ _ _ _ _ _
   refine zaav ?_
   refine ev_op (ops:=Rc18) A4 hS4 rfl rfl rfl (x:=y) (h':=h) (fun k=>rfl) fun ι5 v5 s5 w5 A5 hv5 st5=>?_
   have hS5:=(hS4.mono st5.le).put 45 _ _ (by decide) hv5
   refine ev_op (ops:=Rc18) A5 hS5 rfl rfl rfl (x:=.int 3 y0) (h':=h) (fun k=>rfl) fun ι6 v6 s6 w6 A6 hv6 st6=>?_
   have hS6:=(hS5.mono st6.le).put 46 _ _ (by decide) hv6
   refine ev_op (ops:=Rc18) A6 hS6 rfl rfl rfl (x:=.leaf (.sl h.n 0 1 1)) (h':=h.push (.cells 0 [.int 3 y0])) (fun k=>by kernel_rfl) fun ι7 v7 s7 w7 A7 hv7 st7=>?_
   have hS7:=(hS6.mono st7.le).put 47 _ _ (by decide) hv7
   have hal:acc.length<=tot.length:=by rw [<- hacc];simp
   obtain ⟨y',h',happ,hT',hL',hn'⟩:=hT.app (α:=R) (m:=y0) hL (by omega)
   refine ev_op (ops:=Rc18) A7 hS7 rfl rfl rfl (x:=y') (h':=h') (fun k=>Eq.trans (by kernel_rfl) (happ k)) fun ι8 v8 s8 w8 A8 hv8 st8=>?_
   have hS8:=(hS7.mono st8.le).put 48 _ _ (by decide) hv8
   refine ev_op (ops:=Rc18) A8 hS8 rfl rfl rfl (x:=y') (h':=h') (fun k=>rfl) fun ι9 v9 s9 w9 A9 hv9 st9=>?_
   have hS9:=(hS8.mono st9.le).put 10 _ _ (by decide) hv9
   have g9:=((((((((g1.rely r2).rely r3).stp st4).stp st5).stp st6).stp st7).stp st8).stp st9)
   refine co_nil ?_
   refine ⟨L.length - (i+1),by omega,i+1,rfl,hi2,acc++[y0],by rw [<- hacc,hdr];simp,?_⟩
   exact {
    at_:=⟨ι9,h',_,y',z,A9,hL',hT',zaao hS9 [5,10,35,36,37,41]⟩
    fk:=by rw [st9.fk,st8.fk,st7.fk,st6.fk,st5.fk,st4.fk];exact k1
    nw:=g9
    defs:=by simp only [zabb];exact hI.defs }
 · have hnil:L.drop i=[]:=by
    cases h:L.drop i with
    | nil=>rfl
    | cons x xs=>rw [h] at er;cases er
   rw [List.set_set,zamb hc hLj]
   have A1:=(A.rely r1).fkTurn (some ⟨wg,doneOf chs Ls (j+1),.idle⟩)
   have g1:=(hI.nw.rely r1).refk (some ⟨wg,doneOf chs Ls (j+1),.idle⟩)
   have hS1:=hS.put 42 (.leaf (.raw (recvd true (.int .i64 0) false))) _ (by decide) (raw_vr _)
   refine zads (ops:=Rc16) (v:=.bool false) rfl rfl (zam3 rfl (raw_eq (hS1.ev (.tmp 42))) rfl) (ev_exO rfl (raw_eq (hS1.ev (.tmp 42))) rfl) fun w2 r2=>?_
   have A2:=A1.rely r2
   have hS2:=hS1.put 43 (.bool false) (.bool false) (by decide) rfl
   refine co_nil ?_
   refine co_seq (zagc (t:=false) (hS2.ev (.tmp 43)).bool ?_)
   rw [hnil] at hacc
   have q:=hQ acc _ _ _ (by simpa using hacc) {
    at_:=⟨ι,h,_,y,z,A2,hL,hT,zaao hS2 [5,10,35,36,37]⟩
    fk:=rfl
    nw:=g1.rely r2
    defs:=by simp only [zabb];exact hI.defs }
   refine zaip ?_
   simp only [Out.seq,Out.block,if_true]
   exact q
theorem e_c13 {F:Nat} {h:H} {kn:K} (x5 x10 x35:AV) (n j:Int):den P E0 52 F (.region 13 Rc13 false) .o [(5,x5),(10,x10),(35,x35),(36,.int 3 n),(37,.int 3 j)] h kn K0 KR =
 kn [(38,.bool (ilt j n)),(5,x5),(10,x10),(35,x35),(36,.int 3 n),(37,.int 3 j)] h:=by kernel_rfl
theorem e_c19 {F:Nat} {h:H} {kn:K} (x5 x10 x35:AV) (n:Int) {j:Nat} (hj:j<9223372036854775807):den P E0 52 F (.region 19 Rc19 false) .o [(5,x5),(10,x10),(35,x35),(36,.int 3 n),(37,.int 3 (.ofNat j))] h kn K0 KR =
 kn [(37,.int 3 (.ofNat (j+1))),(49,.int 3 (.ofNat (j+1))),(5,x5),(10,x10),(35,x35),(36,.int 3 n),(37,.int 3 (.ofNat j))] h:=by
 have h1:den P E0 52 F (.region 19 Rc19 false) .o [(5,x5),(10,x10),(35,x35),(36,.int 3 n),(37,.int 3 (.ofNat j))] h kn K0 KR =
  aArith iadd (.int 3 (.ofNat j)) (.int 3 (.ofNat 1)) h fun z h=>kn [(37,z),(49,z),(5,x5),(10,x10),(35,x35),(36,.int 3 n),(37,.int 3 (.ofNat j))] h:=by kernel_rfl
 rw [h1,add1 hj]
def LO (ι0:Inj) (hF:H) (s0:LG) (w0:World) (wg:Nat) (chs:List Nat) (Ls:List (List Int)) (tot:List Int) (j:Nat) (a:Act) (s:LG) (w:World):Prop:=
 j<=chs.length/\∃acc,acc++(Ls.drop j).flatten=tot/\L2 ι0 hF s0 w0 wg chs j [] acc (doneOf chs Ls j) a s w
theorem outer {Q:Out} {n:Nat} {a:Act} {s:LG} {w:World} (hlen:Ls.length=chs.length) (hsm:chs.length<=100000) (htot:tot.length<=1000000000)
 (hQ:∀a s w,L2 ι0 hF s0 w0 wg chs chs.length [] tot (doneOf chs Ls chs.length) a s w->Q .normal a s w) (hI:∃j,n=chs.length - j/\LO ι0 hF s0 w0 wg chs Ls tot j a s w) :
 CoC P tW Post main n_c (.seq (.region 13 Rc13 false) (.seq (.cond (.tmp 38) .skip (.exit 2)) (.seq (.block 3 (.seq (.region 14 Rc14 false) (.seq (.region 15 Rc15 false) (.block 4 (.loop (.seq (.region 16 Rc16 false) (.seq (.cond (.tmp 43) .skip (.exit 4)) (.block 5 (.seq (.region 17 Rc17 false) (.region 18 Rc18 false)))))))))) (.region 19 Rc19 false))))
  (Out.seq (fun a s w=>∃m,m<n/\∃j,m=chs.length - j/\LO ι0 hF s0 w0 wg chs Ls tot j a s w) (Out.block 2 Q)) a s w:=by
 obtain ⟨j,rfl,hjl,acc,hacc,hI⟩:=hI
 obtain ⟨ι,h,X,y,z,A,hL,hT,hS⟩:=hI.at_
 refine co_seq (zaf8 (F:=0) (an:=.o) A hS (by decide) (fun kn=>e_c13 _ _ _ _ _) fun ι1 s1 a1 w1 A1 hS1 hd1 st1=>?_)
 refine co_seq (zagc (t:=decide (j<chs.length)) (by have:=hS1.ev (.tmp 38);rw [<- zaet];exact this.bool) ?_)
 have g1:=hI.nw.stp st1
 have k1:s1.fk=some ⟨wg,doneOf chs Ls j,.idle⟩:=st1.fk.trans hI.fk
 by_cases hj:j<chs.length
 · rw [if_pos (by simpa using hj)]
   refine zaik ?_
   show CoC _ _ _ _ _ _ _ _ _ _
   obtain ⟨c,hc⟩:∃y,chs[j]?=some y:=⟨_,List.getElem?_eq_getElem hj⟩
   obtain ⟨Lj,hLj⟩:∃y,Ls[j]?=some y:=⟨_,List.getElem?_eq_getElem (by rw [hlen];exact hj)⟩
   obtain ⟨b,rfl,hb,hb1,hb2⟩:=hT.chs.resolve_left fun h=>by rw [h.1] at hj;simp at hj
   refine co_seq (zade (co_seq (zaav ?_)))
   refine ev_op (ops:=Rc14) A1 hS1 rfl rfl rfl (x:=.ptr b (0+j * 1)) (h':=h) (fun k=>Eq.trans (by kernel_rfl) (zaoy (es':=1) (kk:=3) hj)) fun ι2 v2 s2 w2 A2 hv2 st2=>?_
   have hS2:=(hS1.mono st2.le).put 39 _ _ (by decide) hv2
   refine ev_op (ops:=Rc14) A2 hS2 rfl rfl rfl (x:=rawc c) (h':=h) (fun k=>Eq.trans (by kernel_rfl) (zacg (q:=0+j * 1) (y:=rawc c) hb (by simp [hc]))) fun ι3 v3 s3 w3 A3 hv3 st3=>?_
   have hS3:=(hS2.mono st3.le).put 40 _ _ (by decide) hv3
   refine ev_op (ops:=Rc14) A3 hS3 rfl rfl rfl (x:=rawc c) (h':=h) (fun k=>rfl) fun ι4 v4 s4 w4 A4 hv4 st4=>?_
   have hS4:=(hS3.mono st4.le).put 12 _ _ (by decide) hv4
   refine co_nil ?_
   refine co_seq (zaav ?_)
   refine ev_op (ops:=Rc15) A4 hS4 rfl rfl rfl (x:=rawc c) (h':=h) (fun k=>rfl) fun ι5 v5 s5 w5 A5 hv5 st5=>?_
   have hS5:=(hS4.mono st5.le).put 41 _ _ (by decide) hv5
   have g5:=(((g1.stp st2).stp st3).stp st4).stp st5
   have k5:s5.fk=some ⟨wg,doneOf chs Ls j,.idle⟩:=by rw [st5.fk,st4.fk,st3.fk,st2.fk];exact k1
   refine co_nil ?_
   show CoC _ _ _ _ _ _ _ _ _ _
   have hdr:(Ls.drop j).flatten=Lj++(Ls.drop (j+1)).flatten:=by
    have hj2:j<Ls.length:=by omega
    rw [List.drop_eq_getElem_cons hj2,List.flatten_cons]
    congr 1
    rw [List.getElem?_eq_getElem hj2] at hLj;exact Option.some.inj hLj
   refine zade (zai4 (fun n a s w=>∃i,n=Lj.length - i/\LI ι0 hF s0 w0 wg chs Ls tot j c Lj i a s w) (fun n a s w hI=>inner hc hLj htot (fun acc a s w ha q=>?_) hI) ⟨0,rfl,Nat.zero_le _,acc,by rw [List.drop_zero,List.append_assoc, <- hdr];exact hacc,?_⟩)
   · show CoC _ _ _ _ _ _ _ _ _ _
     obtain ⟨ι6,h6,X6,y6,z6,A6,hL6,hT6,hS6⟩:=q.at_
     refine zaf8 (F:=0) (an:=.o) A6 hS6 (by decide) (fun kn=>e_c19 _ _ _ _ (by omega)) fun ι7 s7 a7 w7 A7 hS7 hd7 st7=>?_
     refine ⟨chs.length - (j+1),by omega,j+1,rfl,hj,acc,ha,?_⟩
     exact {
      at_:=⟨ι7,h6,X6,y6,z6,A7,hL6,hT6,zaao hS7 [5,10,35,36,37]⟩
      fk:=st7.fk.trans q.fk
      nw:=q.nw.stp st7
      defs:=hd7.trans q.defs }
   · rw [List.drop_zero,zasl (zajp hc hLj)]
     exact {
      at_:=⟨ι5,h,X,y,_,A5,hL,hT,zaao hS5 [5,10,35,36,37,41]⟩
      fk:=k5
      nw:=g5
      defs:=by simp only [zabb];exact hd1.trans hI.defs }
 · rw [if_neg (by simpa using hj)]
   obtain rfl:j=chs.length:=by omega
   have e:acc=tot:=by rw [List.drop_eq_nil_of_le (by omega)] at hacc;simpa using hacc
   subst e
   have q:=hQ a1 s1 w1 {
    at_:=⟨ι1,h,X,y,z,A1,hL,hT,zaao hS1 [5,10,35,36,37]⟩
    fk:=k1
    nw:=g1
    defs:=hd1.trans hI.defs }
   refine zaip ?_
   simp only [Out.seq,Out.block,if_true]
   exact q
end
end Go.Co.Cnt
namespace Go.Co.Cnt
open Go Go.Conc Go.AI Go.RowKit Go.Conc.Lib
open Go.ConcR (KK wgBlock WgAt stA smA rd wr mk)
theorem Chans.push {hF h:H} {z:AV} {chs:List Nat} {x:Blk} (C:Chans hF h z chs):Chans hF (h.push x) z chs:=by
 rcases C with h | ⟨b,rfl,hc,hc1,hc2⟩
 · exact .inl h
 · exact .inr ⟨b,rfl,by rw [H.get_push,if_neg (by omega)];exact hc,hc1,by simp only [H.n_push];omega⟩
theorem VL.app {ι:Inj}:∀{a b:List AV} {x y:List Value},VL ι a x->VL ι b y->VL ι (a++b) (x++y)
 | _,_,_,_,.nil,k=>k
 | _,_,_,_,.cons a b,k=>.cons a (VL.app b k)
theorem zas2 (fs cp:Array Value) (e:Operand->Value) (t:Operand):fs++(List.toArray [t]).map e++cp=(fs.toList++([e t]++cp.toList)).toArray:=by apply Array.ext';simp
theorem zaqx {ι:Inj} {h:H} {w:World} {b:Nat} {x:AV} {v:Value} (hR:Rel ι h w) (hb:h.get b = .cells 0 [x]) (hV:VR ι (.leaf (.sl b 0 1 1)) v):VR ι (.osl b 0 1 1) v:=by
 obtain ⟨B,base,sz,e,hv⟩:=hV
 obtain ⟨B',o',z',e',hB⟩:=hR.blk b (by rw [hb];simp)
 rw [e] at e';cases e'
 rw [hb] at hB
 obtain ⟨c,t,lo,hi,h1,h2,h3,_⟩:=hB
 obtain ⟨v',h4,_⟩:=h3 0 x rfl
 have:=(Array.getElem?_eq_some_iff.1 h4).1
 exact ⟨⟨B,base+0,none⟩,1,hv,Nat.le_refl _,.inr ⟨B,base,sz,e,rfl,by omega⟩⟩
section
variable {Post:Value->World->Prop} {main:Bool} {ι:Inj} {h:H} {s:LG} {w:World} {p f ks:AV} {vp:Value} {g:Nat} {fs cp:Array Value} {ps:List AV} {Ls:List (List Int)} {m0:Int} {la lc:List AV} {hC':H}
theorem res87 (T:Array Value) (w:World):(results Go.Proofs.Tryz.f23 T).run P w = .ok (T.getD 4 undef) w:=by simp [results,Go.Proofs.Tryz.f23]
theorem ev87 (T:Array Value) (w:World):(results Go.Proofs.Tryz.f23 T).events P w #[] = #[]:=by simp [results,Go.Proofs.Tryz.f23]
theorem zaml (hR:Rel ι h w) (hC:Cov ι h s) (hFt:Fit s w) (hfk:s.fk=none) (hp:VR ι p vp) (hf:VR ι f (.func (.func g) fs cp)) (hla:VL ι la fs.toList) (hlc:VL ι lc cp.toList) (N:Node h.fz p ks ps) (K:Kin Post h.fz f ps Ls)
 (TC:∀k,CoTri P tW Post main (k,true) g (la++([p]++lc)) h.fz (.int 3 m0,hC')) (htot:(m0::Ls.flatten).length<=1000000000) :
 CoF P tW Post main n_c #[vp,.func (.func g) fs cp] (PostC false ι h s w (resC h.fz (m0::Ls.flatten))) s w:=by
 refine co_fn func_c body_c ?_
 have hS:StR ι 52 [(0,p),(1,.leaf (.raw (.func (.func g) fs cp)))] { tmps:= #[vp,.func (.func g) fs cp]++Array.replicate (Go.Proofs.Tryz.f23.ntmps - (#[vp,.func (.func g) fs cp]:Array Value).size) undef,defers:=[] }:=
  VL.entry (fn:=Go.Proofs.Tryz.f23) Go.Proofs.Tryz.ntmps23 (by simp) (.cons hp (.cons (raw_vr _) .nil))
 have hd0:({ tmps:= #[vp,.func (.func g) fs cp]++Array.replicate (Go.Proofs.Tryz.f23.ntmps - (#[vp,.func (.func g) fs cp]:Array Value).size) undef,defers:=[] }:Act).defers=[]:=rfl
 generalize ({ tmps:= #[vp,.func (.func g) fs cp]++Array.replicate (Go.Proofs.Tryz.f23.ntmps - (#[vp,.func (.func g) fs cp]:Array Value).size) undef,defers:=[] }:Act)=a0 at hS hd0 ⊢
 refine zagd fun w0 r0=>⟨s.given ι,zan0 s ι w0,?_⟩
 have hR0:=zadj hR hC r0
 have Z:Base ι h.fz (s.given ι) w0:=⟨hR0.fz,zah7 hC,zal0 (hFt.rely r0),fun B=>Own.fz,zan4 hC⟩
 have E0:ExtC false ι h s w ι h.fz (s.given ι) w0:=(ExtC.rely hR hC r0).trans (zalp hC)
 have hfk0:(s.given ι).fk=none:=hfk
 have hbusy:∀k,(s.given ι).kid=some k->k.st=0:=fun k hk=>hFt.busy k hk
 generalize hhF:h.fz=hF at *
 generalize s.given ι=s0 at *
 have A0:=At.start Z.rel Z.cov Z.fit
 refine zaav ?_
 refine zaju (ops:=Rc0) (v:=fun n=>.pointer (some ⟨n,0,none⟩)) rfl rfl (zar8 rfl (raw_eq (hS.ev (.tmp 1)))) (zatk rfl) A0.fit.lt fun w1 r1=>?_
 have A1:=(A0.rely r1).made (.cells (Value.func (.func g) fs cp).cells 32)
 have x1:Hid (s0.plus w1.heap.size (w1.heap.size+1)) (w1.alloc (.cells (Value.func (.func g) fs cp).cells 32)) (fun B=>False\/B=w1.heap.size) w1.heap.size _:=Hid.new
 have k1:(s0.plus w1.heap.size (w1.heap.size+1)).fk=none:=hfk0
 have hS1:=hS.put 3 (rawp w1.heap.size 0) (.pointer (some ⟨w1.heap.size,0,none⟩)) (by decide) (raw_vr _)
 generalize s0.plus w1.heap.size (w1.heap.size+1)=s1 at *
 generalize w1.alloc (.cells (Value.func (.func g) fs cp).cells 32)=w1' at *
 generalize (fun B=>False\/B=w1.heap.size)=X1 at *
 generalize w1.heap.size=B3 at *
 refine ev_op (ops:=Rc0) A1 hS1 rfl rfl rfl (x:=.leaf .nils) (h':=hF) (fun k=>rfl) fun ι2 v2 s2 w2 A2 hv2 st2=>?_
 have hS2:=(hS1.mono st2.le).put 4 _ _ (by decide) hv2
 have x2:=x1.stp A1 st2
 have k2:s2.fk=none:=st2.fk.trans k1
 refine co_nil ?_
 show CoC _ _ _ _ _ _ _ _ _ _
 refine zagd fun w3 r3=>⟨_,Own1.give (fun b=>b=B3) (fun b hb=>hb ▸ x2.own),?_⟩
 have x3:=x2.rely r3
 have A3:=(A2.rely r3).turn (s':=⟨fun b=>s2.own b/\¬ b=B3,fun b=>s2.ro b\/b=B3,s2.kid,s2.fk⟩) rfl (fun B h=>h.1) (fun B h=>.inl h) (fun B h=>h.imp id fun (e:B=B3)=>by rw [e];exact x2.own) (fun B h=>by
  by_cases e:B=B3
  · exact .inr (e ▸ x2.x)
  · exact .inl ⟨h,e⟩) (fun B h hr=>hr.elim (A2.fit.apart B h.1) h.2) (fun B hB=>⟨A2.cov.own B hB,by
    obtain ⟨b,o,z,e,_⟩:=hB
    rintro rfl;exact (A2.hid _ x2.x).2.2 _ _ _ e⟩) (fun B hB=>Z.fit.lt B (.inl hB))
 have f3:Ro1 ⟨fun b=>s2.own b/\¬ b=B3,fun b=>s2.ro b\/b=B3,s2.kid,s2.fk⟩ w3 B3 0 (.func (.func g) fs cp):=⟨.inr rfl,_,_,_,x3.at_,rfl⟩
 have k3:(⟨fun b=>s2.own b/\¬ b=B3,fun b=>s2.ro b\/b=B3,s2.kid,s2.fk⟩:LG).fk=none:=k2
 generalize (⟨fun b=>s2.own b/\¬ b=B3,fun b=>s2.ro b\/b=B3,s2.kid,s2.fk⟩:LG)=s3 at *
 refine zaav ?_
 refine zaju (ops:=Rc1) (v:=fun n=>.pointer (some ⟨n,0,none⟩)) rfl rfl (zaf4 rfl z80) (zahx rfl z80) A3.fit.lt fun w4 r4=>?_
 have A4:=(A3.rely r4).made (.cells #[.int .u64 0,.int .u32 0] 77)
 have x4:Hid (s3.plus w4.heap.size (w4.heap.size+1)) (w4.alloc (.cells #[.int .u64 0,.int .u32 0] 77)) (fun B=>X1 B\/B=w4.heap.size) w4.heap.size _:=Hid.new
 have f4:=(f3.rely r4).made (O:=.cells #[.int .u64 0,.int .u32 0] 77)
 have k4:(s3.plus w4.heap.size (w4.heap.size+1)).fk=none:=k3
 have hS4:=hS2.put 5 (rawp w4.heap.size 0) (.pointer (some ⟨w4.heap.size,0,none⟩)) (by decide) (raw_vr _)
 generalize s3.plus w4.heap.size (w4.heap.size+1)=s4 at *
 generalize w4.alloc (.cells #[.int .u64 0,.int .u32 0] 77)=w4' at *
 generalize (fun B=>X1 B\/B=w4.heap.size)=X4 at *
 generalize w4.heap.size=wg at *
 refine co_nil ?_
 show CoC _ _ _ _ _ _ _ _ _ _
 refine zagd fun w5 r5=>⟨_,Own1.open_ (wg:=wg) k4 A4.fit.busy x4.own (A4.fit.apart _ x4.own) ((x4.rely r5).at_),?_⟩
 have A5:=(A4.rely r5).turn (s':=⟨fun b=>s4.own b/\b≠wg,s4.ro,s4.kid,some ⟨wg,[],.idle⟩⟩) rfl (fun B h=>h.1) (fun B h=>h) (fun B h=>.inl h) (fun B h=>by
  by_cases e:B=wg
  · exact .inr (e ▸ x4.x)
  · exact .inl ⟨h,e⟩) (fun B h hr=>A4.fit.apart B h.1 hr) (fun B hB=>⟨A4.cov.own B hB,by
    obtain ⟨b,o,z,e,_⟩:=hB
    rintro rfl;exact (A4.hid _ x4.x).2.2 _ _ _ e⟩) (fun B hB=>Z.fit.lt B (.inl hB))
 have f5:Ro1 ⟨fun b=>s4.own b/\b≠wg,s4.ro,s4.kid,some ⟨wg,[],.idle⟩⟩ w5 B3 0 (.func (.func g) fs cp):=⟨f4.ro,(f4.rely r5).at_⟩
 have g5:Out1 ⟨fun b=>s4.own b/\b≠wg,s4.ro,s4.kid,some ⟨wg,[],.idle⟩⟩ w5 wg:=⟨⟨fun h=>h.2 rfl,A4.fit.apart _ x4.own⟩,(x4.rely r5).lt⟩
 have k5:(⟨fun b=>s4.own b/\b≠wg,s4.ro,s4.kid,some ⟨wg,[],.idle⟩⟩:LG).fk=some ⟨wg,[],.idle⟩:=rfl
 generalize (⟨fun b=>s4.own b/\b≠wg,s4.ro,s4.kid,some ⟨wg,[],.idle⟩⟩:LG)=s5 at *
 refine zaav ?_
 refine ev_op (ops:=Rc2) A5 (hS4.mono (.refl _)) rfl rfl rfl (x:=.leaf .nils) (h':=hF) (fun k=>rfl) fun ι6 v6 s6 w6 A6 hv6 st6=>?_
 have hS6:=(hS4.mono st6.le).put 6 _ _ (by decide) hv6
 have f6:=f5.stp st6
 have g6:=g5.stp st6
 have k6:=st6.fk.trans k5
 refine co_nil ?_
 show CoC _ _ _ _ _ _ _ _ _ _
 obtain ⟨bp,qp,flp,lp,rfl,hbp,hlp⟩:=N.ptr
 refine co_seq (co_seq (zaav ?_))
 refine ev_op (ops:=Rc3) A6 hS6 rfl rfl rfl (x:=.ptr bp qp) (h':=hF) (fun k=>rfl) fun ι7 v7 s7 w7 A7 hv7 st7=>?_
 have hS7:=(hS6.mono st7.le).put 14 _ _ (by decide) hv7
 refine ev_op (ops:=Rc3) A7 hS7 rfl rfl rfl (x:=.ptr bp qp) (h':=hF) (fun k=>by kernel_rfl) fun ι8 v8 s8 w8 A8 hv8 st8=>?_
 have hS8:=(hS7.mono st8.le).put 15 _ _ (by decide) hv8
 refine ev_op (ops:=Rc3) A8 hS8 rfl rfl rfl (x:=.ptr bp (qp+2)) (h':=hF) (fun k=>by kernel_rfl) fun ι9 v9 s9 w9 A9 hv9 st9=>?_
 have hS9:=(hS8.mono st9.le).put 16 _ _ (by decide) hv9
 refine ev_op (ops:=Rc3) A9 hS9 rfl rfl rfl (x:=ks) (h':=hF) (fun k=>Eq.trans (by kernel_rfl) (zacg (q:=qp+2) (y:=ks) hbp hlp)) fun ι10 v10 s10 w10 A10 hv10 st10=>?_
 have hS10:=(hS9.mono st10.le).put 17 _ _ (by decide) hv10
 refine ev_op (ops:=Rc3) A10 hS10 rfl rfl rfl (x:=.int 3 (.ofNat ps.length)) (h':=hF) (fun k=>?_) fun ι11 v11 s11 w11 A11 hv11 st11=>?_
 · rcases N.sl with ⟨rfl,rfl⟩ | ⟨b,o,c,fl,l,rfl | rfl,_⟩ <;> kernel_rfl
 have hS11:=(hS10.mono st11.le).put 18 _ _ (by decide) hv11
 refine ev_op (ops:=Rc3) A11 hS11 rfl rfl rfl (x:=.int 3 (.ofNat 0)) (h':=hF) (fun k=>by kernel_rfl) fun ι12 v12 s12 w12 A12 hv12 st12=>?_
 have hS12:=(hS11.mono st12.le).put 19 _ _ (by decide) hv12
 have f12:=(((((f6.stp st7).stp st8).stp st9).stp st10).stp st11).stp st12
 have g12:=(((((g6.stp st7).stp st8).stp st9).stp st10).stp st11).stp st12
 have k12:s12.fk=some ⟨wg,[],.idle⟩:=by rw [st12.fk,st11.fk,st10.fk,st9.fk,st8.fk,st7.fk];exact k6
 refine co_nil ?_
 show CoC _ _ _ _ _ _ _ _ _ _
 refine zade (zai4 (fun n a s w=>∃j chs,n=ps.length - j/\L1 ι hF s0 w0 (.ptr bp qp) ks (.func (.func g) fs cp) ps Ls wg B3 j chs a s w) (fun n a s w hI=>zarx Z N K hf (fun chs a s w q=>?_) hI) ⟨0,[],rfl,?_⟩)
 · show CoC _ _ _ _ _ _ _ _ _ _
   obtain ⟨ι20,h20,X20,z,A20,hL20,hCh20,hS20⟩:=q.at_
   refine co_seq (zaav ?_)
   obtain ⟨c3,e3,fr3,hb3,hv3⟩:=q.b3.at_
   refine zai2 (ops:=Rc11) rfl rfl rfl ag50 (raw_eq (hS20.ev (.tmp 3))) (.inr q.b3.ro) hb3 hv3 A20.fit.busy fun w21 r21=>?_
   have A21:=A20.rely r21
   have hS21:=hS20.put 31 (.leaf (.raw (.func (.func g) fs cp))) _ (by decide) (raw_vr _)
   refine ev_op (ops:=Rc11) A21 hS21 rfl rfl rfl (x:=.ptr bp qp) (h':=h20) (fun k=>rfl) fun ι22 v22 s22 w22 A22 hv22 st22=>?_
   have hS22:=(hS21.mono st22.le).put 32 _ _ (by decide) hv22
   have g22:=(q.nw.rely r21).stp st22
   have k22:s22.fk=some ⟨wg,kidsOf chs Ls,.idle⟩:=st22.fk.trans q.fk
   have hpv:=zarj Z.rel A22.ext.le (b:=bp) (q:=qp) (by rw [hbp];simp) (hS22.ev (.tmp 32))
   refine zasr (ops:=Rc11) rfl rfl rfl rfl (raw_eq (hS22.ev (.tmp 31))) (zas2 fs cp _ _) (TC none).can A22.fit.busy fun w23 r23=>?_
   have A23:=A22.rely r23
   obtain ⟨K1,K2,K3⟩:=Z.keep A23
   refine ((TC s22.fk).run ι w23 _ s22 K1 K3 (VL.app hla (VL.app (.cons hpv .nil) hlc)) A23.fit rfl).1.mono fun v24 s24 w24 hp24=>?_
   obtain ⟨ι',hV24,hE24, -, -,hF24⟩:=hp24
   have A24:=A23.aside hE24 Z.no hF24
   have g24:Out1 s24 w24 wg:=let x:=ow_ofE hE24 g22.no (g22.rely r23).lt; ⟨x.1,x.2⟩
   have k24:s24.fk=some ⟨wg,kidsOf chs Ls,.idle⟩:=hE24.fk.trans k22
   have hS24:=hS22.put 33 (.int 3 m0) v24 (by decide) hV24
   refine ev_op (ops:=Rc11) A24 hS24 rfl rfl rfl (x:=.leaf (.sl h20.n 0 1 1)) (h':=h20.push (.cells 0 [.int 3 m0])) (fun k=>by kernel_rfl) fun ι25 v25 s25 w25 A25 hv25 st25=>?_
   have hS25:=(hS24.mono st25.le).put 34 _ _ (by decide) hv25
   refine ev_op (ops:=Rc11) A25 hS25 rfl rfl rfl (x:=.leaf (.sl h20.n 0 1 1)) (h':=h20.push (.cells 0 [.int 3 m0])) (fun k=>rfl) fun ι26 v26 s26 w26 A26 hv26 st26=>?_
   have hS26:=(hS25.mono st26.le).put 10 _ _ (by decide) hv26
   refine co_nil ?_
   show CoC _ _ _ _ _ _ _ _ _ _
   refine co_seq (co_seq (zaav ?_))
   refine ev_op (ops:=Rc12) A26 hS26 rfl rfl rfl (x:=z) (h':=h20.push (.cells 0 [.int 3 m0])) (fun k=>rfl) fun ι27 v27 s27 w27 A27 hv27 st27=>?_
   have hS27:=(hS26.mono st27.le).put 35 _ _ (by decide) hv27
   refine ev_op (ops:=Rc12) A27 hS27 rfl rfl rfl (x:=.int 3 (.ofNat chs.length)) (h':=h20.push (.cells 0 [.int 3 m0])) (fun k=>?_) fun ι28 v28 s28 w28 A28 hv28 st28=>?_
   · rcases hCh20 with ⟨rfl,rfl⟩ | ⟨b,rfl,_⟩ <;> kernel_rfl
   have hS28:=(hS27.mono st28.le).put 36 _ _ (by decide) hv28
   refine ev_op (ops:=Rc12) A28 hS28 rfl rfl rfl (x:=.int 3 (.ofNat 0)) (h':=h20.push (.cells 0 [.int 3 m0])) (fun k=>by kernel_rfl) fun ι29 v29 s29 w29 A29 hv29 st29=>?_
   have hS29:=(hS28.mono st29.le).put 37 _ _ (by decide) hv29
   have g29:=((((g24.stp st25).stp st26).stp st27).stp st28).stp st29
   have k29:s29.fk=some ⟨wg,kidsOf chs Ls,.idle⟩:=by rw [st29.fk,st28.fk,st27.fk,st26.fk,st25.fk];exact k24
   refine co_nil ?_
   show CoC _ _ _ _ _ _ _ _ _ _
   refine zade (zai4 (fun n a s w=>∃j,n=chs.length - j/\LO ι hF s0 w0 wg chs Ls (m0::Ls.flatten) j a s w) (fun n a s w hI=>outer (by rw [K.len,q.len]) (by rw [q.len];exact N.few) htot (fun a s w q=>?_) hI) ⟨0,rfl,Nat.zero_le _,[m0],rfl,?_⟩)
   · show CoC _ _ _ _ _ _ _ _ _ _
     obtain ⟨ι30,h30,X30,y,z',A30,hL30,hT30,hS30⟩:=q.at_
     refine co_seq (zaav ?_)
     refine zalv (ops:=Rc20) (args:= #[.pointer (some ⟨wg,0,none⟩)]) rfl rfl rfl rfl (List.map_toArray.trans (congrArg (fun x:Value=> #[x]) (raw_eq (hS30.ev (.tmp 5))))) zasu A30.fit.busy fun w31 r31 hl31=>?_
     have g31:=q.nw.rely r31
     refine (zar5 wgLib q.fk (zamz rfl) g31.no.1 g31.no.2 A30.fit.busy (hl31.2 _ q.fk)).mono fun v32 s32 w32 h32=>?_
     obtain ⟨rfl,rfl,r32⟩:=h32
     have A32:=((A30.rely r31).fkTurn none).rely r32
     have hS32:=hS30.put 50 (.leaf (.raw (.tuple #[]))) (.tuple #[]) (by decide) (raw_vr _)
     refine co_nil ?_
     show CoC _ _ _ _ _ _ _ _ _ _
     refine co_seq (zaav ?_)
     refine ev_op (ops:=Rc21) A32 hS32 rfl rfl rfl (x:=y) (h':=h30) (fun k=>rfl) fun ι33 v33 s33 w33 A33 hv33 st33=>?_
     have hS33:=(hS32.mono st33.le).put 51 _ _ (by decide) hv33
     refine ev_op (ops:=Rc21) A33 hS33 rfl rfl rfl (x:=y) (h':=h30) (fun k=>rfl) fun ι34 v34 s34 w34 A34 hv34 st34=>?_
     have hS34:=(hS33.mono st34.le).put 4 _ _ (by decide) hv34
     have k34:s34.fk=none:=by rw [st34.fk,st33.fk]
     refine co_nil ?_
     show CoC _ _ _ _ _ _ _ _ _ _
     refine co_ret ⟨.inr rfl,by simp only [zabb];exact q.defs,fun w35 r35=>⟨_,res87 _ w35,?_,?_⟩⟩
     · rw [ev87];exact Reads.nil _
     have A35:=A34.rely r35
     have hy:=hS34.ev (.tmp 4)
     have fin:∀v,VR ι34 y v->PostC false ι hF s0 w0 (resC hF (m0::Ls.flatten)) v s34 w35:=fun v hv=>by
      rcases hT30.out with ⟨b,m,hm,rfl,hb,hb1,hb2⟩ | ⟨b,rfl,hb,hb1,hb2⟩
      · refine Z.fin A35 hb rfl (by simp) ?_ (k34.trans hfk0.symm)
        rw [hm] at hb ⊢
        exact zaqx A35.rel hb hv
      · exact Z.fin A35 hb rfl (by simp) hv (k34.trans hfk0.symm)
     obtain ⟨ι',hV,hE,hR',hC',hF'⟩:=fin _ hy
     exact ⟨ι',hV,E0.trans hE,hR',hC',hF'⟩
   · exact {
      at_:=⟨ι29,_,X20,_,z,A29,hL20.push,⟨.inl ⟨_,m0,rfl,rfl,by rw [H.get_push,if_pos rfl];rfl,hL20.1,Nat.lt_succ_self _⟩,Chans.push hCh20,fun b b' n n' e=>by cases e⟩,zaao hS29 [5,10,35,36,37]⟩
      fk:=by rw [zamc];exact k29
      nw:=g29
      defs:=by simp only [zabb];exact q.defs }
 · exact {
    at_:=⟨ι12,hF,X4,.leaf .nils,A12,⟨Nat.le_refl _,fun _ _=>rfl⟩,.inl ⟨rfl,rfl⟩,zaao hS12 [0,3,5,6,17,18,19]⟩
    len:=rfl
    le:=Nat.zero_le _
    fk:=k12
    b3:=f12
    nw:=g12
    defs:=by simp only [zabb];exact hd0 }
end
end Go.Co.Cnt
namespace Go.Co.Cnt
open Go Go.Conc Go.AI Go.RowKit Go.Conc.Lib
noncomputable section
variable {α:Type}
def onNils (l:Leaf) (d e:α):α:=@Leaf.rec (fun _=>α) e e d e e e e (fun _=>e) (fun _ _ _ _=>e) (fun _=>e) l
def aliveB (b:Blk):Bool:=@Blk.rec (fun _=>Bool) false (fun _ _=>true) (fun _ _=>true) b
def allP (hF:H) (l:List AV):Bool:=@List.rec AV (fun _=>Bool) true (fun x _ r=>bc (x.onPtr false fun b _=>aliveB (hF.get b)) r false) l
theorem zaot {hF:H}:∀{l:List AV},allP hF l=true->∀x∈l,∃b q,x = .ptr b q/\hF.get b≠.dead
 | [],_,x,h=>by cases h
 | y::l,e,x,h=>by
  have e:bc (y.onPtr false fun b _=>aliveB (hF.get b)) (allP hF l) false=true:=e
  cases hy:(y.onPtr false fun b _=>aliveB (hF.get b)) with
  | false=>rw [hy] at e;cases e
  | true=>
   rw [hy] at e
   rcases List.mem_cons.1 h with rfl | h
   · cases x <;> first | (cases hy;done) | skip
     rename_i b q
     refine ⟨b,q,rfl,fun hd=>?_⟩
     have hy:aliveB (hF.get b)=true:=hy
     rw [hd] at hy;cases hy
   · exact zaot e x h
def rowP (hF:H) (b o n:Nat):Option (List AV):=withCells hF b fun _ l=>bc (Nat.beq (lenL (takeL n (dropL o l))) n) (bc (Nat.ble n 100000) (bc (Nat.ble (Nat.succ b) hF.n) (bc (allP hF (takeL n (dropL o l))) (some (takeL n (dropL o l))) none) none) none) none
def kidsP (hF:H) (p:AV):Option (List AV):=withPtr p fun b q=>withCells hF b fun _ l=>onSome (nthO l (q+2)) fun ks=>
 ks.onSl none (fun l=>onNils l (some []) none) (fun b o n _=>rowP hF b o n) fun b o n es=>bc (Nat.beq es 1) (rowP hF b o n) none
theorem zak8 {hF:H} {b o n:Nat} {ps:List AV} (e:rowP hF b o n=some ps):ps.length=n/\(∃fl l,hF.get b = .cells fl l/\∀j,j<n->l[o+j]?=ps[j]?)/\b<hF.n/\n<=100000/\∀x∈ps,∃b q,x = .ptr b q/\hF.get b≠.dead:=by
 obtain ⟨fl,l,hb,e⟩:=zaae e
 obtain ⟨h1,e⟩:=zaab e
 obtain ⟨h2,e⟩:=zaab e
 obtain ⟨h3,e⟩:=zaab e
 obtain ⟨h4,e⟩:=zaab e
 cases e
 have h1:=Nat.eq_of_beq_eq_true h1
 rw [zabd] at h1
 refine ⟨h1,⟨fl,l,hb,fun j hj=>?_⟩,Nat.le_of_ble_eq_true h3,Nat.le_of_ble_eq_true h2,zaot h4⟩
 rw [takeL_eq,zab1,List.getElem?_take_of_lt hj,List.getElem?_drop]
theorem zan9 {hF:H} {p:AV} {ps:List AV} (e:kidsP hF p=some ps):∃ks,Node hF p ks ps:=by
 obtain ⟨b,q,rfl,e⟩:=zaaw e
 obtain ⟨fl,l,hb,e⟩:=zaae e
 obtain ⟨ks,hk,e⟩:=zaay e
 rw [zadr] at hk
 suffices H:((ps=[]/\ks = .leaf .nils)\/∃b o c fl l,(ks = .leaf (.sl b o ps.length c)\/ks = .osl b o ps.length 1)/\hF.get b = .cells fl l/\b<hF.n/\∀j,j<ps.length->l[o+j]?=ps[j]?)/\(∀x∈ps,∃b q,x = .ptr b q/\hF.get b≠.dead)/\ps.length<=100000 from ⟨ks,⟨b,q,fl,l,rfl,hb,hk⟩,H.1,H.2.1,H.2.2⟩
 clear hk hb
 cases ks with
 | osl b o n es=>
  obtain ⟨h0,e⟩:=zaab e
  have h0:=Nat.eq_of_beq_eq_true h0
  obtain ⟨h1,⟨fl,l,h2,h3⟩,h4,h5,h6⟩:=zak8 e
  rw [h0, <- h1]
  exact ⟨.inr ⟨b,o,0,fl,l,.inr rfl,h2,h4,by rw [h1];exact h3⟩,h6,by rw [h1];exact h5⟩
 | leaf x=>
  cases x with
  | sl b o n c=>
   obtain ⟨h1,⟨fl,l,h2,h3⟩,h4,h5,h6⟩:=zak8 e
   rw [<- h1]
   exact ⟨.inr ⟨b,o,c,fl,l,.inl rfl,h2,h4,by rw [h1];exact h3⟩,h6,by rw [h1];exact h5⟩
  | nils=>cases e;exact ⟨.inl ⟨rfl,rfl⟩,fun x h=>(by cases h),Nat.zero_le _⟩
  | _=>cases e
 | _=>cases e
def onFnI (f:Fn) (k:Nat->Option α):Option α:=@Fn.rec (fun _=>Option α) k (fun _=>none) (fun _ _=>none) (fun _ _ _ _=>none) (fun _=>none) f
def ctC (G:Env) (hF:H) (p f:AV):Option Int:=
 f.onFunc none fun fn a c=>onFnI fn fun g=>withListA a fun la=>withListA c fun lc=>onSome (G g (appA la (appA [p] lc)) hF) fun r=>withInt r.1 fun k m=>bc (Nat.beq k 3) (some m) none
theorem zasd {G:Env} {hF:H} {p f:AV} {m:Int} (e:ctC G hF p f=some m):∃g a c la lc h',f = .func (.func g) a c/\a.toListO=some la/\c.toListO=some lc/\G g (la++([p]++lc)) hF=some (.int 3 m,h'):=by
 cases f with
 | func fn a c=>
  cases fn with
  | func g=>
   obtain ⟨la,h1,e⟩:=zaal e
   obtain ⟨lc,h2,e⟩:=zaal e
   obtain ⟨⟨x,h'⟩,h3,e⟩:=zaay e
   obtain ⟨k,n,h4,e⟩:=zaah e
   obtain ⟨h5,e⟩:=zaab e
   have h5:=Nat.eq_of_beq_eq_true h5
   have h4:x = .int k n:=h4
   cases e
   subst h4 h5
   rw [zacq,zacq] at h3
   exact ⟨g,a,c,la,lc,h',rfl,h1,h2,h3⟩
  | _=>cases e
 | _=>cases e
def ctL (φ:AV->Option (List Int)):List AV->Option (List (List Int)):=@List.rec AV (fun _=>Option (List (List Int))) (some []) fun x _ r=>onSome (φ x) fun l=>onSome r fun ls=>some (l::ls)
theorem zao4 {φ:AV->Option (List Int)}:∀{ps:List AV} {Ls:List (List Int)},ctL φ ps=some Ls->Ls.length=ps.length/\∀(j:Nat) (x:AV) (L:List Int),ps[j]?=some x->Ls[j]?=some L->φ x=some L
 | [],Ls,e=>by cases e;exact ⟨rfl,fun j x L h=>by simp at h⟩
 | y::ps,Ls,e=>by
  obtain ⟨l,h1,e⟩:=zaay e
  obtain ⟨ls,h2,e⟩:=zaay e
  cases e
  obtain ⟨h3,h4⟩:=zao4 h2
  refine ⟨by simp [h3],fun j x L hx hL=>?_⟩
  cases j with
  | zero=>have hx:some y=some x:=hx;have hL:some l=some L:=hL;cases hx;cases hL;exact h1
  | succ j=>exact h4 j x L (by simpa using hx) (by simpa using hL)
def lenI (l:List Int):Nat:=@List.rec Int (fun _=>Nat) 0 (fun _ _ r=>Nat.succ r) l
theorem zam2:∀l:List Int,lenI l=l.length
 | []=>rfl
 | _::l=>by show Nat.succ (lenI l)=_;rw [zam2 l];rfl
def flatI (l:List (List Int)):List Int:=@List.rec (List Int) (fun _=>List Int) [] (fun x _ r=>@List.rec Int (fun _=>List Int) r (fun y _ s=>y::s) x) l
theorem zako:∀l:List (List Int),flatI l=l.flatten
 | []=>rfl
 | x::l=>by
  show @List.rec Int (fun _=>List Int) (flatI l) (fun y _ s=>y::s) x=_
  rw [zako l,List.flatten_cons]
  induction x with
  | nil=>rfl
  | cons y x ih=>show y::_=_;rw [ih];rfl
def cts (G:Env) (hF:H) (f:AV) (n:Nat):AV->Option (List Int):=
 @Nat.rec (fun _=>AV->Option (List Int)) (fun _=>none) (fun _ r p=>onSome (kidsP hF p) fun ps=>onSome (ctC G hF p f) fun m=>onSome (ctL r ps) fun Ls=>bc (Nat.ble (lenI (m::flatI Ls)) 1000000000) (some (m::flatI Ls)) none) n
end
theorem zat1 {G:Env} {hF:H} {f:AV}:∀{n:Nat} {p:AV} {L:List Int},cts G hF f n p=some L->L.length<=1000000000
 | 0,_,_,e=>by cases e
 | n+1,p,L,e=>by
  obtain ⟨ps,h1,e⟩:=zaay e
  obtain ⟨m,h2,e⟩:=zaay e
  obtain ⟨Ls,h3,e⟩:=zaay e
  obtain ⟨h4,e⟩:=zaab e
  cases e
  rw [zam2] at h4
  exact Nat.le_of_ble_eq_true h4
section
variable {Post:Value->World->Prop} {main:Bool}
theorem zapn {h:H} {p f ks:AV} {g:Nat} {a c:AV} {ps:List AV} {Ls:List (List Int)} {m0:Int} {la lc:List AV} {hC':H} (hfe:f = .func (.func g) a c) (ha:a.toListO=some la) (hc:c.toListO=some lc) (N:Node h.fz p ks ps) (K:Kin Post h.fz f ps Ls)
 (TC:∀k,CoTri P tW Post main (k,true) g (la++([p]++lc)) h.fz (.int 3 m0,hC')) (htot:(m0::Ls.flatten).length<=1000000000):CoTri P tW Post main (none,false) n_c [p,f] h (resC h.fz (m0::Ls.flatten)):=by
 refine ⟨can_c,fun ι w vs s hR hC hV hFt hfk=>⟨?_,?_⟩⟩
 · cases hV with
   | cons hp hV=>
    cases hV with
    | cons hf hV=>
     cases hV
     have hf0:=hf
     rw [hfe] at hf
     obtain ⟨fs,cp,e,k1,k2⟩:=hf
     have e:=(List.cons.inj e).1
     subst e
     exact zaml hR hC hFt hfk hp hf0 (zaa2 ha k1) (zaa2 hc k2) N K TC htot
 · have hZ:VL ι (ints (m0::Ls.flatten)) (vals (m0::Ls.flatten)):=by
    generalize (m0::Ls.flatten)=l
    induction l with
    | nil=>exact .nil
    | cons x l ih=>exact .cons rfl ih
   have E:=zalp (s:=s) (w:=w) hC
   have R1:=(hR.fz).newRow 3 hZ
   have X1:Ext ι h.fz w _ _ _:=Ext.alloc hR.fz (.cells 0 (ints (m0::Ls.flatten))) (.cells (vals (m0::Ls.flatten)).toArray 3) (vals (m0::Ls.flatten)).length
   have Fg:=zal0 (ι:=ι) hFt
   have C1:=zapg (zah7 hC) X1 R1
   refine ⟨.slice (some ⟨w.heap.size,0,none⟩) (m0::Ls.flatten).length (m0::Ls.flatten).length,_,_,_,⟨⟨w.heap.size,0,none⟩,_,rfl,Nat.le_refl _,.inr ⟨w.heap.size,0,(vals (m0::Ls.flatten)).length,?_,rfl,by rw [show (vals (m0::Ls.flatten)).length=(m0::Ls.flatten).length from List.length_map _];omega⟩⟩,E.trans (ExtC.step X1 Fg.apart (zah7 hC)),R1,C1,Fg.plus X1.size⟩
   show Inj.add _ _ _ h.fz.n=_
   simp [Inj.add]
theorem zaq2 {G:Env} {hF:H} {f:AV} (hG:∀main k,CoSound P tW Post main (k,true) G):∀{n:Nat} {p:AV} {L:List Int} {main:Bool} {h:H},h.fz=hF->cts G hF f n p=some L->CoTri P tW Post main (none,false) n_c [p,f] h (resC hF L)
 | 0,_,_,_,_,_,e=>by cases e
 | n+1,p,L,main,h,hh,e=>by
  obtain ⟨ps,h1,e⟩:=zaay e
  obtain ⟨m,h2,e⟩:=zaay e
  obtain ⟨Ls,h3,e⟩:=zaay e
  obtain ⟨h4,e⟩:=zaab e
  cases e
  subst hh
  rw [zam2,zako] at h4
  rw [zako]
  obtain ⟨ks,N⟩:=zan9 h1
  obtain ⟨g,a,c,la,lc,h',k1,k2,k3,k4⟩:=zasd h2
  obtain ⟨k5,k6⟩:=zao4 h3
  exact zapn k1 k2 k3 N ⟨k5,fun j x L hx hL=>⟨zaq2 hG (H.fz_fz h) (k6 j x L hx hL),by have:=zat1 (k6 j x L hx hL);omega⟩⟩ (fun k=>hG main k _ _ _ _ k4) (Nat.le_of_ble_eq_true h4)
end
end Go.Co.Cnt
namespace Go.Co
open Go Go.Conc Go.AI Go.RowKit
section
variable {P:Program} {ty:TypeId} {Post:Value->World->Prop} {main:Bool}
theorem ExtC.idle {q:Bool} {ι ι1 ι1':Inj} {h h1 h1':H} {s s':LG} {w w':World} (e:ExtC true ι1 h1 s w ι1' h1' s' w') (kp:∀B,s.own B\/s.ro B->B<w.heap.size->w'.heap[B]?=w.heap[B]?) (hR:Rel ι h w) (hC:Cov ι h s):ExtC q ι h s w ι h s' w'/\Rel ι h w'/\Cov ι h s':=by
 have e2:ExtC true ι h s w ι h s' w':={
  le:=.refl _,os:=e.os,tape:=e.tape,output:=e.output,size:=e.size,kid:=e.kid,fk:=e.fk
  ro:=fun _=>e.ro rfl
  mine:=fun _=>e.mine rfl
  roW:=e.roW
  mineW:=e.mineW
  aside:=fun B hB _ _=>e.mine rfl B hB
  newR:=e.newR
  new:=e.new
  block:=fun B hB hlt=>kp B (hB.imp (fun h=>h.1) id) hlt
  own:=fun B h=>.inl h
  num:=Nat.le_refl _
  lo:=Nat.le_refl _
  keep:=fun _ _ _=>rfl
  keepW:=fun b B o z _ _ _ e1=>kp B (hC.all b B o z e1) (hR.lt b B o z e1)
  dom:=fun b B o z e=>.inl ⟨b,o,z,e⟩ }
 exact ⟨by cases q;exact e2.weak;exact e2,zagk hR e.size fun b B o z e1=>kp B (hC.all b B o z e1) (hR.lt b B o z e1),⟨fun b B o z e1=>(hC.all b B o z e1).imp (e.mine rfl B) (e.roW B),fun B hB=>e.mine rfl B (hC.own B hB)⟩⟩
theorem ExtC.asideQ {q:Bool} {ι ι1 ι1':Inj} {h h1 h1':H} {s s':LG} {w w':World} (e:ExtC true ι1 h1 s w ι1' h1' s' w') (no:∀B,¬ Own ι1 h1 B) (hR:Rel ι h w) (hC:Cov ι h s):ExtC q ι h s w ι h s' w'/\Rel ι h w'/\Cov ι h s':=
 e.idle (fun B hB hlt=>e.block B (hB.imp (fun h=>⟨h,no B⟩) id) hlt) hR hC
theorem ExtC.hush {q:Bool} {ι ι':Inj} {h h':H} {s s':LG} {w w':World} (e:ExtC true ι h.mark s w ι' h' s' w') (hlo:h.n<=h'.lo) (hR:Rel ι h w) (hC:Cov ι h s):ExtC q ι h s w ι h s' w'/\Rel ι h w'/\Cov ι h s':=
 e.idle (fun B hB hlt=>by
  by_cases ho:Own ι h B
  · obtain ⟨b,o,z,hb,hown⟩:=ho
    have:=hR.fresh _ _ hb
    exact e.keepW b B o z (by omega) this hown hb
  · exact e.block B (hB.imp (fun h=>⟨h,ho⟩) id) hlt) hR hC
theorem zaqn (s:LG):Cov (fun _=>none) H0 s:=⟨fun b B o z e=>(by cases e),fun B ⟨b,o,z,e,_⟩=>(by cases e)⟩
theorem zaqs (B:Nat):¬ Own (fun _=>none) H0 B:=fun ⟨b,o,z,e,_⟩=>by cases e
theorem CoTri.forget {fk:Option Fk} {f:FuncId} {args:List AV} {v:AV} {h':H} (T:CoTri P ty Post main (fk,true) f args H0 (v,h')) (ha:∀a∈args,a.plain=true) (hv:v.plain=true) (h:H):CoTri P ty Post main (fk,true) f args h (v,h):=
 ⟨T.can,fun ι w vs s hR hC hV hF hfk=>by
  have K:∀x s' w',PostC true (fun _=>none) H0 s w (v,h') x s' w'->PostC true ι h s w (v,h) x s' w':=fun x s' w' ⟨ι',q1,q2,_,_,q5⟩=>by
   obtain ⟨k1,k2,k3⟩:=q2.asideQ (q:=true) zaqs hR hC
   exact ⟨ι,zac8 hv q1,k1,k2,k3,q5⟩
  obtain ⟨h1,x,s',w',h2⟩:=T.run _ w vs s (Rel.empty w) (zaqn s) (VL.plain ha hV) hF hfk
  exact ⟨h1.mono K,x,s',w',K _ _ _ h2⟩⟩
theorem CoTri.quiet {fk:Option Fk} {f:FuncId} {args:List AV} {h:H} {r:R} (T:CoTri P ty Post main (fk,true) f args h.mark r) (hp:r.1.plain=true) (hlo:h.n<=r.2.lo):CoTri P ty Post main (fk,true) f args h (r.1,h):=
 ⟨T.can,fun ι w vs s hR hC hV hF hfk=>by
  have K:∀x s' w',PostC true ι h.mark s w r x s' w'->PostC true ι h s w (r.1,h) x s' w':=fun x s' w' ⟨ι',q1,q2,_,_,q5⟩=>by
   obtain ⟨k1,k2,k3⟩:=q2.hush (q:=true) hlo hR hC
   exact ⟨ι,zac8 hp q1,k1,k2,k3,q5⟩
  obtain ⟨h1,x,s',w',h2⟩:=T.run ι w vs s hR.mark ⟨hC.all,hC.own⟩ hV hF hfk
  exact ⟨h1.mono K,x,s',w',K _ _ _ h2⟩⟩
def lgLaw (W:World):LG:=⟨fun _=>False,fun B=>B<W.heap.size,none,none⟩
theorem zau5 (W:World):Fit (lgLaw W) W:=⟨fun _ h=>h.elim,fun B h=>h.elim,fun B h=>h.elim (fun h=>h.elim) id,fun k h=>(by cases h),trivial⟩
theorem zauv {ι:Inj} {h:H} {W:World} (hR:Rel ι h W) (no:∀b,¬ (h.get b).own):Cov ι h (lgLaw W):=⟨fun b B o z e=>.inr (hR.lt b B o z e),fun B ⟨b,o,z,e,ho⟩=>absurd ho (no b)⟩
theorem zauk {ι:Inj} {h0 h':H} {W:World} {q:Bool} {v:Value} {s':LG} {w':World} (h:PostC q ι h0 (lgLaw W) W (.bool true,h') v s' w'):v = .bool true/\Below W.heap.size W w':=by
 obtain ⟨ι',q1,q2,_,_,_⟩:=h
 exact ⟨q1.bool,⟨q2.os,q2.tape,q2.output,q2.size,fun B hB=>q2.block B (.inr hB) hB⟩⟩
end
end Go.Co
