/- The law FnLevelsTree is true whatever the code. -/
import Derived.Test.YtfafaadfnhhfhaaLtV00
import Derived.Test.YtfafaadfnhhfhaaLtV01
import Derived.Test.YtfafaadfnhhfhaaLtV02
import Derived.Test.YtfafaadfnhhfhaaLtV03
import Derived.Test.YtfafaadfnhhfhaaLtV04
import Derived.Test.YtfafaadfnhhfhaaLtV05
import Derived.Test.YtfafaadfnhhfhaaLtV10
import Derived.Test.YtfafaadfnhhfhaaLtV11
import Derived.Test.YtfafaadfnhhfhaaLtV12
import Derived.Test.YtfafaadfnhhfhaaLtV13
import Derived.Test.YtfafaadfnhhfhaaLtV14
import Derived.Test.YtfafaadfnhhfhaaLtV15
namespace Go.AI.T
open Go Go.RowKit Go.AI
set_option linter.unusedVariables false
set_option linter.unusedSimpArgs false
set_option maxRecDepth 100000
noncomputable section
theorem ov0_012345 (B : Blk) : (t0 B) [0, 1, 2, 3, 4, 5] = true := by kernel_rfl
theorem v0_012345 (B : Blk) : allV (t0 B) 3 5 (fun l => 0 :: 1 :: 2 :: 3 :: 4 :: 5 :: l) = true := by
  show bc ((t0 B) [0, 1, 2, 3, 4, 5]) (bc (allV (t0 B) 2 6 (fun l => 0 :: 1 :: 2 :: 3 :: 4 :: 5 :: 6 :: l)) (bc (allV (t0 B) 2 5 (fun l => 0 :: 1 :: 2 :: 3 :: 4 :: 5 :: 5 :: l)) (bc (allV (t0 B) 2 4 (fun l => 0 :: 1 :: 2 :: 3 :: 4 :: 5 :: 4 :: l)) (bc (allV (t0 B) 2 3 (fun l => 0 :: 1 :: 2 :: 3 :: 4 :: 5 :: 3 :: l)) (bc (allV (t0 B) 2 2 (fun l => 0 :: 1 :: 2 :: 3 :: 4 :: 5 :: 2 :: l)) (bc (allV (t0 B) 2 1 (fun l => 0 :: 1 :: 2 :: 3 :: 4 :: 5 :: 1 :: l)) (true) false) false) false) false) false) false) false = true
  rw [ov0_012345, v0_0123456, v0_0123455, v0_0123454, v0_0123453, v0_0123452, v0_0123451]; rfl
theorem ov0_012344 (B : Blk) : (t0 B) [0, 1, 2, 3, 4, 4] = true := by kernel_rfl
theorem v0_012344 (B : Blk) : allV (t0 B) 3 4 (fun l => 0 :: 1 :: 2 :: 3 :: 4 :: 4 :: l) = true := by
  show bc ((t0 B) [0, 1, 2, 3, 4, 4]) (bc (allV (t0 B) 2 5 (fun l => 0 :: 1 :: 2 :: 3 :: 4 :: 4 :: 5 :: l)) (bc (allV (t0 B) 2 4 (fun l => 0 :: 1 :: 2 :: 3 :: 4 :: 4 :: 4 :: l)) (bc (allV (t0 B) 2 3 (fun l => 0 :: 1 :: 2 :: 3 :: 4 :: 4 :: 3 :: l)) (bc (allV (t0 B) 2 2 (fun l => 0 :: 1 :: 2 :: 3 :: 4 :: 4 :: 2 :: l)) (bc (allV (t0 B) 2 1 (fun l => 0 :: 1 :: 2 :: 3 :: 4 :: 4 :: 1 :: l)) (true) false) false) false) false) false) false = true
  rw [ov0_012344, v0_0123445, v0_0123444, v0_0123443, v0_0123442, v0_0123441]; rfl
theorem ov0_01234 (B : Blk) : (t0 B) [0, 1, 2, 3, 4] = true := by kernel_rfl
theorem v0_01234 (B : Blk) : allV (t0 B) 4 4 (fun l => 0 :: 1 :: 2 :: 3 :: 4 :: l) = true := by
  show bc ((t0 B) [0, 1, 2, 3, 4]) (bc (allV (t0 B) 3 5 (fun l => 0 :: 1 :: 2 :: 3 :: 4 :: 5 :: l)) (bc (allV (t0 B) 3 4 (fun l => 0 :: 1 :: 2 :: 3 :: 4 :: 4 :: l)) (bc (allV (t0 B) 3 3 (fun l => 0 :: 1 :: 2 :: 3 :: 4 :: 3 :: l)) (bc (allV (t0 B) 3 2 (fun l => 0 :: 1 :: 2 :: 3 :: 4 :: 2 :: l)) (bc (allV (t0 B) 3 1 (fun l => 0 :: 1 :: 2 :: 3 :: 4 :: 1 :: l)) (true) false) false) false) false) false) false = true
  rw [ov0_01234, v0_012345, v0_012344, v0_012343, v0_012342, v0_012341]; rfl
theorem ov0_012334 (B : Blk) : (t0 B) [0, 1, 2, 3, 3, 4] = true := by kernel_rfl
theorem v0_012334 (B : Blk) : allV (t0 B) 3 4 (fun l => 0 :: 1 :: 2 :: 3 :: 3 :: 4 :: l) = true := by
  show bc ((t0 B) [0, 1, 2, 3, 3, 4]) (bc (allV (t0 B) 2 5 (fun l => 0 :: 1 :: 2 :: 3 :: 3 :: 4 :: 5 :: l)) (bc (allV (t0 B) 2 4 (fun l => 0 :: 1 :: 2 :: 3 :: 3 :: 4 :: 4 :: l)) (bc (allV (t0 B) 2 3 (fun l => 0 :: 1 :: 2 :: 3 :: 3 :: 4 :: 3 :: l)) (bc (allV (t0 B) 2 2 (fun l => 0 :: 1 :: 2 :: 3 :: 3 :: 4 :: 2 :: l)) (bc (allV (t0 B) 2 1 (fun l => 0 :: 1 :: 2 :: 3 :: 3 :: 4 :: 1 :: l)) (true) false) false) false) false) false) false = true
  rw [ov0_012334, v0_0123345, v0_0123344, v0_0123343, v0_0123342, v0_0123341]; rfl
theorem ov0_01233 (B : Blk) : (t0 B) [0, 1, 2, 3, 3] = true := by kernel_rfl
theorem v0_01233 (B : Blk) : allV (t0 B) 4 3 (fun l => 0 :: 1 :: 2 :: 3 :: 3 :: l) = true := by
  show bc ((t0 B) [0, 1, 2, 3, 3]) (bc (allV (t0 B) 3 4 (fun l => 0 :: 1 :: 2 :: 3 :: 3 :: 4 :: l)) (bc (allV (t0 B) 3 3 (fun l => 0 :: 1 :: 2 :: 3 :: 3 :: 3 :: l)) (bc (allV (t0 B) 3 2 (fun l => 0 :: 1 :: 2 :: 3 :: 3 :: 2 :: l)) (bc (allV (t0 B) 3 1 (fun l => 0 :: 1 :: 2 :: 3 :: 3 :: 1 :: l)) (true) false) false) false) false) false = true
  rw [ov0_01233, v0_012334, v0_012333, v0_012332, v0_012331]; rfl
theorem ov0_01232 (B : Blk) : (t0 B) [0, 1, 2, 3, 2] = true := by kernel_rfl
theorem v0_01232 (B : Blk) : allV (t0 B) 4 2 (fun l => 0 :: 1 :: 2 :: 3 :: 2 :: l) = true := by
  show bc ((t0 B) [0, 1, 2, 3, 2]) (bc (allV (t0 B) 3 3 (fun l => 0 :: 1 :: 2 :: 3 :: 2 :: 3 :: l)) (bc (allV (t0 B) 3 2 (fun l => 0 :: 1 :: 2 :: 3 :: 2 :: 2 :: l)) (bc (allV (t0 B) 3 1 (fun l => 0 :: 1 :: 2 :: 3 :: 2 :: 1 :: l)) (true) false) false) false) false = true
  rw [ov0_01232, v0_012323, v0_012322, v0_012321]; rfl
theorem ov0_0123 (B : Blk) : (t0 B) [0, 1, 2, 3] = true := by kernel_rfl
theorem v0_0123 (B : Blk) : allV (t0 B) 5 3 (fun l => 0 :: 1 :: 2 :: 3 :: l) = true := by
  show bc ((t0 B) [0, 1, 2, 3]) (bc (allV (t0 B) 4 4 (fun l => 0 :: 1 :: 2 :: 3 :: 4 :: l)) (bc (allV (t0 B) 4 3 (fun l => 0 :: 1 :: 2 :: 3 :: 3 :: l)) (bc (allV (t0 B) 4 2 (fun l => 0 :: 1 :: 2 :: 3 :: 2 :: l)) (bc (allV (t0 B) 4 1 (fun l => 0 :: 1 :: 2 :: 3 :: 1 :: l)) (true) false) false) false) false) false = true
  rw [ov0_0123, v0_01234, v0_01233, v0_01232, v0_01231]; rfl
theorem ov0_012234 (B : Blk) : (t0 B) [0, 1, 2, 2, 3, 4] = true := by kernel_rfl
theorem v0_012234 (B : Blk) : allV (t0 B) 3 4 (fun l => 0 :: 1 :: 2 :: 2 :: 3 :: 4 :: l) = true := by
  show bc ((t0 B) [0, 1, 2, 2, 3, 4]) (bc (allV (t0 B) 2 5 (fun l => 0 :: 1 :: 2 :: 2 :: 3 :: 4 :: 5 :: l)) (bc (allV (t0 B) 2 4 (fun l => 0 :: 1 :: 2 :: 2 :: 3 :: 4 :: 4 :: l)) (bc (allV (t0 B) 2 3 (fun l => 0 :: 1 :: 2 :: 2 :: 3 :: 4 :: 3 :: l)) (bc (allV (t0 B) 2 2 (fun l => 0 :: 1 :: 2 :: 2 :: 3 :: 4 :: 2 :: l)) (bc (allV (t0 B) 2 1 (fun l => 0 :: 1 :: 2 :: 2 :: 3 :: 4 :: 1 :: l)) (true) false) false) false) false) false) false = true
  rw [ov0_012234, v0_0122345, v0_0122344, v0_0122343, v0_0122342, v0_0122341]; rfl
theorem ov0_01223 (B : Blk) : (t0 B) [0, 1, 2, 2, 3] = true := by kernel_rfl
theorem v0_01223 (B : Blk) : allV (t0 B) 4 3 (fun l => 0 :: 1 :: 2 :: 2 :: 3 :: l) = true := by
  show bc ((t0 B) [0, 1, 2, 2, 3]) (bc (allV (t0 B) 3 4 (fun l => 0 :: 1 :: 2 :: 2 :: 3 :: 4 :: l)) (bc (allV (t0 B) 3 3 (fun l => 0 :: 1 :: 2 :: 2 :: 3 :: 3 :: l)) (bc (allV (t0 B) 3 2 (fun l => 0 :: 1 :: 2 :: 2 :: 3 :: 2 :: l)) (bc (allV (t0 B) 3 1 (fun l => 0 :: 1 :: 2 :: 2 :: 3 :: 1 :: l)) (true) false) false) false) false) false = true
  rw [ov0_01223, v0_012234, v0_012233, v0_012232, v0_012231]; rfl
theorem ov0_01222 (B : Blk) : (t0 B) [0, 1, 2, 2, 2] = true := by kernel_rfl
theorem v0_01222 (B : Blk) : allV (t0 B) 4 2 (fun l => 0 :: 1 :: 2 :: 2 :: 2 :: l) = true := by
  show bc ((t0 B) [0, 1, 2, 2, 2]) (bc (allV (t0 B) 3 3 (fun l => 0 :: 1 :: 2 :: 2 :: 2 :: 3 :: l)) (bc (allV (t0 B) 3 2 (fun l => 0 :: 1 :: 2 :: 2 :: 2 :: 2 :: l)) (bc (allV (t0 B) 3 1 (fun l => 0 :: 1 :: 2 :: 2 :: 2 :: 1 :: l)) (true) false) false) false) false = true
  rw [ov0_01222, v0_012223, v0_012222, v0_012221]; rfl
theorem ov0_0122 (B : Blk) : (t0 B) [0, 1, 2, 2] = true := by kernel_rfl
theorem v0_0122 (B : Blk) : allV (t0 B) 5 2 (fun l => 0 :: 1 :: 2 :: 2 :: l) = true := by
  show bc ((t0 B) [0, 1, 2, 2]) (bc (allV (t0 B) 4 3 (fun l => 0 :: 1 :: 2 :: 2 :: 3 :: l)) (bc (allV (t0 B) 4 2 (fun l => 0 :: 1 :: 2 :: 2 :: 2 :: l)) (bc (allV (t0 B) 4 1 (fun l => 0 :: 1 :: 2 :: 2 :: 1 :: l)) (true) false) false) false) false = true
  rw [ov0_0122, v0_01223, v0_01222, v0_01221]; rfl
theorem ov0_01212 (B : Blk) : (t0 B) [0, 1, 2, 1, 2] = true := by kernel_rfl
theorem v0_01212 (B : Blk) : allV (t0 B) 4 2 (fun l => 0 :: 1 :: 2 :: 1 :: 2 :: l) = true := by
  show bc ((t0 B) [0, 1, 2, 1, 2]) (bc (allV (t0 B) 3 3 (fun l => 0 :: 1 :: 2 :: 1 :: 2 :: 3 :: l)) (bc (allV (t0 B) 3 2 (fun l => 0 :: 1 :: 2 :: 1 :: 2 :: 2 :: l)) (bc (allV (t0 B) 3 1 (fun l => 0 :: 1 :: 2 :: 1 :: 2 :: 1 :: l)) (true) false) false) false) false = true
  rw [ov0_01212, v0_012123, v0_012122, v0_012121]; rfl
theorem ov0_0121 (B : Blk) : (t0 B) [0, 1, 2, 1] = true := by kernel_rfl
theorem v0_0121 (B : Blk) : allV (t0 B) 5 1 (fun l => 0 :: 1 :: 2 :: 1 :: l) = true := by
  show bc ((t0 B) [0, 1, 2, 1]) (bc (allV (t0 B) 4 2 (fun l => 0 :: 1 :: 2 :: 1 :: 2 :: l)) (bc (allV (t0 B) 4 1 (fun l => 0 :: 1 :: 2 :: 1 :: 1 :: l)) (true) false) false) false = true
  rw [ov0_0121, v0_01212, v0_01211]; rfl
theorem ov0_012 (B : Blk) : (t0 B) [0, 1, 2] = true := by kernel_rfl
theorem v0_012 (B : Blk) : allV (t0 B) 6 2 (fun l => 0 :: 1 :: 2 :: l) = true := by
  show bc ((t0 B) [0, 1, 2]) (bc (allV (t0 B) 5 3 (fun l => 0 :: 1 :: 2 :: 3 :: l)) (bc (allV (t0 B) 5 2 (fun l => 0 :: 1 :: 2 :: 2 :: l)) (bc (allV (t0 B) 5 1 (fun l => 0 :: 1 :: 2 :: 1 :: l)) (true) false) false) false) false = true
  rw [ov0_012, v0_0123, v0_0122, v0_0121]; rfl
theorem ov0_011234 (B : Blk) : (t0 B) [0, 1, 1, 2, 3, 4] = true := by kernel_rfl
theorem v0_011234 (B : Blk) : allV (t0 B) 3 4 (fun l => 0 :: 1 :: 1 :: 2 :: 3 :: 4 :: l) = true := by
  show bc ((t0 B) [0, 1, 1, 2, 3, 4]) (bc (allV (t0 B) 2 5 (fun l => 0 :: 1 :: 1 :: 2 :: 3 :: 4 :: 5 :: l)) (bc (allV (t0 B) 2 4 (fun l => 0 :: 1 :: 1 :: 2 :: 3 :: 4 :: 4 :: l)) (bc (allV (t0 B) 2 3 (fun l => 0 :: 1 :: 1 :: 2 :: 3 :: 4 :: 3 :: l)) (bc (allV (t0 B) 2 2 (fun l => 0 :: 1 :: 1 :: 2 :: 3 :: 4 :: 2 :: l)) (bc (allV (t0 B) 2 1 (fun l => 0 :: 1 :: 1 :: 2 :: 3 :: 4 :: 1 :: l)) (true) false) false) false) false) false) false = true
  rw [ov0_011234, v0_0112345, v0_0112344, v0_0112343, v0_0112342, v0_0112341]; rfl
theorem ov0_01123 (B : Blk) : (t0 B) [0, 1, 1, 2, 3] = true := by kernel_rfl
theorem v0_01123 (B : Blk) : allV (t0 B) 4 3 (fun l => 0 :: 1 :: 1 :: 2 :: 3 :: l) = true := by
  show bc ((t0 B) [0, 1, 1, 2, 3]) (bc (allV (t0 B) 3 4 (fun l => 0 :: 1 :: 1 :: 2 :: 3 :: 4 :: l)) (bc (allV (t0 B) 3 3 (fun l => 0 :: 1 :: 1 :: 2 :: 3 :: 3 :: l)) (bc (allV (t0 B) 3 2 (fun l => 0 :: 1 :: 1 :: 2 :: 3 :: 2 :: l)) (bc (allV (t0 B) 3 1 (fun l => 0 :: 1 :: 1 :: 2 :: 3 :: 1 :: l)) (true) false) false) false) false) false = true
  rw [ov0_01123, v0_011234, v0_011233, v0_011232, v0_011231]; rfl
theorem ov0_01122 (B : Blk) : (t0 B) [0, 1, 1, 2, 2] = true := by kernel_rfl
theorem v0_01122 (B : Blk) : allV (t0 B) 4 2 (fun l => 0 :: 1 :: 1 :: 2 :: 2 :: l) = true := by
  show bc ((t0 B) [0, 1, 1, 2, 2]) (bc (allV (t0 B) 3 3 (fun l => 0 :: 1 :: 1 :: 2 :: 2 :: 3 :: l)) (bc (allV (t0 B) 3 2 (fun l => 0 :: 1 :: 1 :: 2 :: 2 :: 2 :: l)) (bc (allV (t0 B) 3 1 (fun l => 0 :: 1 :: 1 :: 2 :: 2 :: 1 :: l)) (true) false) false) false) false = true
  rw [ov0_01122, v0_011223, v0_011222, v0_011221]; rfl
theorem ov0_0112 (B : Blk) : (t0 B) [0, 1, 1, 2] = true := by kernel_rfl
theorem v0_0112 (B : Blk) : allV (t0 B) 5 2 (fun l => 0 :: 1 :: 1 :: 2 :: l) = true := by
  show bc ((t0 B) [0, 1, 1, 2]) (bc (allV (t0 B) 4 3 (fun l => 0 :: 1 :: 1 :: 2 :: 3 :: l)) (bc (allV (t0 B) 4 2 (fun l => 0 :: 1 :: 1 :: 2 :: 2 :: l)) (bc (allV (t0 B) 4 1 (fun l => 0 :: 1 :: 1 :: 2 :: 1 :: l)) (true) false) false) false) false = true
  rw [ov0_0112, v0_01123, v0_01122, v0_01121]; rfl
theorem ov0_01112 (B : Blk) : (t0 B) [0, 1, 1, 1, 2] = true := by kernel_rfl
theorem v0_01112 (B : Blk) : allV (t0 B) 4 2 (fun l => 0 :: 1 :: 1 :: 1 :: 2 :: l) = true := by
  show bc ((t0 B) [0, 1, 1, 1, 2]) (bc (allV (t0 B) 3 3 (fun l => 0 :: 1 :: 1 :: 1 :: 2 :: 3 :: l)) (bc (allV (t0 B) 3 2 (fun l => 0 :: 1 :: 1 :: 1 :: 2 :: 2 :: l)) (bc (allV (t0 B) 3 1 (fun l => 0 :: 1 :: 1 :: 1 :: 2 :: 1 :: l)) (true) false) false) false) false = true
  rw [ov0_01112, v0_011123, v0_011122, v0_011121]; rfl
theorem ov0_0111 (B : Blk) : (t0 B) [0, 1, 1, 1] = true := by kernel_rfl
theorem v0_0111 (B : Blk) : allV (t0 B) 5 1 (fun l => 0 :: 1 :: 1 :: 1 :: l) = true := by
  show bc ((t0 B) [0, 1, 1, 1]) (bc (allV (t0 B) 4 2 (fun l => 0 :: 1 :: 1 :: 1 :: 2 :: l)) (bc (allV (t0 B) 4 1 (fun l => 0 :: 1 :: 1 :: 1 :: 1 :: l)) (true) false) false) false = true
  rw [ov0_0111, v0_01112, v0_01111]; rfl
theorem ov0_011 (B : Blk) : (t0 B) [0, 1, 1] = true := by kernel_rfl
theorem v0_011 (B : Blk) : allV (t0 B) 6 1 (fun l => 0 :: 1 :: 1 :: l) = true := by
  show bc ((t0 B) [0, 1, 1]) (bc (allV (t0 B) 5 2 (fun l => 0 :: 1 :: 1 :: 2 :: l)) (bc (allV (t0 B) 5 1 (fun l => 0 :: 1 :: 1 :: 1 :: l)) (true) false) false) false = true
  rw [ov0_011, v0_0112, v0_0111]; rfl
theorem ov0_01 (B : Blk) : (t0 B) [0, 1] = true := by kernel_rfl
theorem v0_01 (B : Blk) : allV (t0 B) 7 1 (fun l => 0 :: 1 :: l) = true := by
  show bc ((t0 B) [0, 1]) (bc (allV (t0 B) 6 2 (fun l => 0 :: 1 :: 2 :: l)) (bc (allV (t0 B) 6 1 (fun l => 0 :: 1 :: 1 :: l)) (true) false) false) false = true
  rw [ov0_01, v0_012, v0_011]; rfl
theorem ov0_0 (B : Blk) : (t0 B) [0] = true := by kernel_rfl
theorem v0_0 (B : Blk) : allV (t0 B) 8 0 (fun l => 0 :: l) = true := by
  show bc ((t0 B) [0]) (bc (allV (t0 B) 7 1 (fun l => 0 :: 1 :: l)) (true) false) false = true
  rw [ov0_0, v0_01]; rfl
theorem all0 (B : Blk) : allV (t0 B) 8 0 (fun l => 0 :: l) = true := v0_0 B
theorem ov1_012345 (B : Blk) (e : Nat) : (t1 B e) [0, 1, 2, 3, 4, 5] = true := by kernel_rfl
theorem v1_012345 (B : Blk) (e : Nat) : allV (t1 B e) 3 5 (fun l => 0 :: 1 :: 2 :: 3 :: 4 :: 5 :: l) = true := by
  show bc ((t1 B e) [0, 1, 2, 3, 4, 5]) (bc (allV (t1 B e) 2 6 (fun l => 0 :: 1 :: 2 :: 3 :: 4 :: 5 :: 6 :: l)) (bc (allV (t1 B e) 2 5 (fun l => 0 :: 1 :: 2 :: 3 :: 4 :: 5 :: 5 :: l)) (bc (allV (t1 B e) 2 4 (fun l => 0 :: 1 :: 2 :: 3 :: 4 :: 5 :: 4 :: l)) (bc (allV (t1 B e) 2 3 (fun l => 0 :: 1 :: 2 :: 3 :: 4 :: 5 :: 3 :: l)) (bc (allV (t1 B e) 2 2 (fun l => 0 :: 1 :: 2 :: 3 :: 4 :: 5 :: 2 :: l)) (bc (allV (t1 B e) 2 1 (fun l => 0 :: 1 :: 2 :: 3 :: 4 :: 5 :: 1 :: l)) (true) false) false) false) false) false) false) false = true
  rw [ov1_012345, v1_0123456, v1_0123455, v1_0123454, v1_0123453, v1_0123452, v1_0123451]; rfl
theorem ov1_012344 (B : Blk) (e : Nat) : (t1 B e) [0, 1, 2, 3, 4, 4] = true := by kernel_rfl
theorem v1_012344 (B : Blk) (e : Nat) : allV (t1 B e) 3 4 (fun l => 0 :: 1 :: 2 :: 3 :: 4 :: 4 :: l) = true := by
  show bc ((t1 B e) [0, 1, 2, 3, 4, 4]) (bc (allV (t1 B e) 2 5 (fun l => 0 :: 1 :: 2 :: 3 :: 4 :: 4 :: 5 :: l)) (bc (allV (t1 B e) 2 4 (fun l => 0 :: 1 :: 2 :: 3 :: 4 :: 4 :: 4 :: l)) (bc (allV (t1 B e) 2 3 (fun l => 0 :: 1 :: 2 :: 3 :: 4 :: 4 :: 3 :: l)) (bc (allV (t1 B e) 2 2 (fun l => 0 :: 1 :: 2 :: 3 :: 4 :: 4 :: 2 :: l)) (bc (allV (t1 B e) 2 1 (fun l => 0 :: 1 :: 2 :: 3 :: 4 :: 4 :: 1 :: l)) (true) false) false) false) false) false) false = true
  rw [ov1_012344, v1_0123445, v1_0123444, v1_0123443, v1_0123442, v1_0123441]; rfl
theorem ov1_01234 (B : Blk) (e : Nat) : (t1 B e) [0, 1, 2, 3, 4] = true := by kernel_rfl
theorem v1_01234 (B : Blk) (e : Nat) : allV (t1 B e) 4 4 (fun l => 0 :: 1 :: 2 :: 3 :: 4 :: l) = true := by
  show bc ((t1 B e) [0, 1, 2, 3, 4]) (bc (allV (t1 B e) 3 5 (fun l => 0 :: 1 :: 2 :: 3 :: 4 :: 5 :: l)) (bc (allV (t1 B e) 3 4 (fun l => 0 :: 1 :: 2 :: 3 :: 4 :: 4 :: l)) (bc (allV (t1 B e) 3 3 (fun l => 0 :: 1 :: 2 :: 3 :: 4 :: 3 :: l)) (bc (allV (t1 B e) 3 2 (fun l => 0 :: 1 :: 2 :: 3 :: 4 :: 2 :: l)) (bc (allV (t1 B e) 3 1 (fun l => 0 :: 1 :: 2 :: 3 :: 4 :: 1 :: l)) (true) false) false) false) false) false) false = true
  rw [ov1_01234, v1_012345, v1_012344, v1_012343, v1_012342, v1_012341]; rfl
theorem ov1_012334 (B : Blk) (e : Nat) : (t1 B e) [0, 1, 2, 3, 3, 4] = true := by kernel_rfl
theorem v1_012334 (B : Blk) (e : Nat) : allV (t1 B e) 3 4 (fun l => 0 :: 1 :: 2 :: 3 :: 3 :: 4 :: l) = true := by
  show bc ((t1 B e) [0, 1, 2, 3, 3, 4]) (bc (allV (t1 B e) 2 5 (fun l => 0 :: 1 :: 2 :: 3 :: 3 :: 4 :: 5 :: l)) (bc (allV (t1 B e) 2 4 (fun l => 0 :: 1 :: 2 :: 3 :: 3 :: 4 :: 4 :: l)) (bc (allV (t1 B e) 2 3 (fun l => 0 :: 1 :: 2 :: 3 :: 3 :: 4 :: 3 :: l)) (bc (allV (t1 B e) 2 2 (fun l => 0 :: 1 :: 2 :: 3 :: 3 :: 4 :: 2 :: l)) (bc (allV (t1 B e) 2 1 (fun l => 0 :: 1 :: 2 :: 3 :: 3 :: 4 :: 1 :: l)) (true) false) false) false) false) false) false = true
  rw [ov1_012334, v1_0123345, v1_0123344, v1_0123343, v1_0123342, v1_0123341]; rfl
theorem ov1_01233 (B : Blk) (e : Nat) : (t1 B e) [0, 1, 2, 3, 3] = true := by kernel_rfl
theorem v1_01233 (B : Blk) (e : Nat) : allV (t1 B e) 4 3 (fun l => 0 :: 1 :: 2 :: 3 :: 3 :: l) = true := by
  show bc ((t1 B e) [0, 1, 2, 3, 3]) (bc (allV (t1 B e) 3 4 (fun l => 0 :: 1 :: 2 :: 3 :: 3 :: 4 :: l)) (bc (allV (t1 B e) 3 3 (fun l => 0 :: 1 :: 2 :: 3 :: 3 :: 3 :: l)) (bc (allV (t1 B e) 3 2 (fun l => 0 :: 1 :: 2 :: 3 :: 3 :: 2 :: l)) (bc (allV (t1 B e) 3 1 (fun l => 0 :: 1 :: 2 :: 3 :: 3 :: 1 :: l)) (true) false) false) false) false) false = true
  rw [ov1_01233, v1_012334, v1_012333, v1_012332, v1_012331]; rfl
theorem ov1_01232 (B : Blk) (e : Nat) : (t1 B e) [0, 1, 2, 3, 2] = true := by kernel_rfl
theorem v1_01232 (B : Blk) (e : Nat) : allV (t1 B e) 4 2 (fun l => 0 :: 1 :: 2 :: 3 :: 2 :: l) = true := by
  show bc ((t1 B e) [0, 1, 2, 3, 2]) (bc (allV (t1 B e) 3 3 (fun l => 0 :: 1 :: 2 :: 3 :: 2 :: 3 :: l)) (bc (allV (t1 B e) 3 2 (fun l => 0 :: 1 :: 2 :: 3 :: 2 :: 2 :: l)) (bc (allV (t1 B e) 3 1 (fun l => 0 :: 1 :: 2 :: 3 :: 2 :: 1 :: l)) (true) false) false) false) false = true
  rw [ov1_01232, v1_012323, v1_012322, v1_012321]; rfl
theorem ov1_0123 (B : Blk) (e : Nat) : (t1 B e) [0, 1, 2, 3] = true := by kernel_rfl
theorem v1_0123 (B : Blk) (e : Nat) : allV (t1 B e) 5 3 (fun l => 0 :: 1 :: 2 :: 3 :: l) = true := by
  show bc ((t1 B e) [0, 1, 2, 3]) (bc (allV (t1 B e) 4 4 (fun l => 0 :: 1 :: 2 :: 3 :: 4 :: l)) (bc (allV (t1 B e) 4 3 (fun l => 0 :: 1 :: 2 :: 3 :: 3 :: l)) (bc (allV (t1 B e) 4 2 (fun l => 0 :: 1 :: 2 :: 3 :: 2 :: l)) (bc (allV (t1 B e) 4 1 (fun l => 0 :: 1 :: 2 :: 3 :: 1 :: l)) (true) false) false) false) false) false = true
  rw [ov1_0123, v1_01234, v1_01233, v1_01232, v1_01231]; rfl
theorem ov1_012234 (B : Blk) (e : Nat) : (t1 B e) [0, 1, 2, 2, 3, 4] = true := by kernel_rfl
theorem v1_012234 (B : Blk) (e : Nat) : allV (t1 B e) 3 4 (fun l => 0 :: 1 :: 2 :: 2 :: 3 :: 4 :: l) = true := by
  show bc ((t1 B e) [0, 1, 2, 2, 3, 4]) (bc (allV (t1 B e) 2 5 (fun l => 0 :: 1 :: 2 :: 2 :: 3 :: 4 :: 5 :: l)) (bc (allV (t1 B e) 2 4 (fun l => 0 :: 1 :: 2 :: 2 :: 3 :: 4 :: 4 :: l)) (bc (allV (t1 B e) 2 3 (fun l => 0 :: 1 :: 2 :: 2 :: 3 :: 4 :: 3 :: l)) (bc (allV (t1 B e) 2 2 (fun l => 0 :: 1 :: 2 :: 2 :: 3 :: 4 :: 2 :: l)) (bc (allV (t1 B e) 2 1 (fun l => 0 :: 1 :: 2 :: 2 :: 3 :: 4 :: 1 :: l)) (true) false) false) false) false) false) false = true
  rw [ov1_012234, v1_0122345, v1_0122344, v1_0122343, v1_0122342, v1_0122341]; rfl
theorem ov1_01223 (B : Blk) (e : Nat) : (t1 B e) [0, 1, 2, 2, 3] = true := by kernel_rfl
theorem v1_01223 (B : Blk) (e : Nat) : allV (t1 B e) 4 3 (fun l => 0 :: 1 :: 2 :: 2 :: 3 :: l) = true := by
  show bc ((t1 B e) [0, 1, 2, 2, 3]) (bc (allV (t1 B e) 3 4 (fun l => 0 :: 1 :: 2 :: 2 :: 3 :: 4 :: l)) (bc (allV (t1 B e) 3 3 (fun l => 0 :: 1 :: 2 :: 2 :: 3 :: 3 :: l)) (bc (allV (t1 B e) 3 2 (fun l => 0 :: 1 :: 2 :: 2 :: 3 :: 2 :: l)) (bc (allV (t1 B e) 3 1 (fun l => 0 :: 1 :: 2 :: 2 :: 3 :: 1 :: l)) (true) false) false) false) false) false = true
  rw [ov1_01223, v1_012234, v1_012233, v1_012232, v1_012231]; rfl
theorem ov1_01222 (B : Blk) (e : Nat) : (t1 B e) [0, 1, 2, 2, 2] = true := by kernel_rfl
theorem v1_01222 (B : Blk) (e : Nat) : allV (t1 B e) 4 2 (fun l => 0 :: 1 :: 2 :: 2 :: 2 :: l) = true := by
  show bc ((t1 B e) [0, 1, 2, 2, 2]) (bc (allV (t1 B e) 3 3 (fun l => 0 :: 1 :: 2 :: 2 :: 2 :: 3 :: l)) (bc (allV (t1 B e) 3 2 (fun l => 0 :: 1 :: 2 :: 2 :: 2 :: 2 :: l)) (bc (allV (t1 B e) 3 1 (fun l => 0 :: 1 :: 2 :: 2 :: 2 :: 1 :: l)) (true) false) false) false) false = true
  rw [ov1_01222, v1_012223, v1_012222, v1_012221]; rfl
theorem ov1_0122 (B : Blk) (e : Nat) : (t1 B e) [0, 1, 2, 2] = true := by kernel_rfl
theorem v1_0122 (B : Blk) (e : Nat) : allV (t1 B e) 5 2 (fun l => 0 :: 1 :: 2 :: 2 :: l) = true := by
  show bc ((t1 B e) [0, 1, 2, 2]) (bc (allV (t1 B e) 4 3 (fun l => 0 :: 1 :: 2 :: 2 :: 3 :: l)) (bc (allV (t1 B e) 4 2 (fun l => 0 :: 1 :: 2 :: 2 :: 2 :: l)) (bc (allV (t1 B e) 4 1 (fun l => 0 :: 1 :: 2 :: 2 :: 1 :: l)) (true) false) false) false) false = true
  rw [ov1_0122, v1_01223, v1_01222, v1_01221]; rfl
theorem ov1_01212 (B : Blk) (e : Nat) : (t1 B e) [0, 1, 2, 1, 2] = true := by kernel_rfl
theorem v1_01212 (B : Blk) (e : Nat) : allV (t1 B e) 4 2 (fun l => 0 :: 1 :: 2 :: 1 :: 2 :: l) = true := by
  show bc ((t1 B e) [0, 1, 2, 1, 2]) (bc (allV (t1 B e) 3 3 (fun l => 0 :: 1 :: 2 :: 1 :: 2 :: 3 :: l)) (bc (allV (t1 B e) 3 2 (fun l => 0 :: 1 :: 2 :: 1 :: 2 :: 2 :: l)) (bc (allV (t1 B e) 3 1 (fun l => 0 :: 1 :: 2 :: 1 :: 2 :: 1 :: l)) (true) false) false) false) false = true
  rw [ov1_01212, v1_012123, v1_012122, v1_012121]; rfl
theorem ov1_0121 (B : Blk) (e : Nat) : (t1 B e) [0, 1, 2, 1] = true := by kernel_rfl
theorem v1_0121 (B : Blk) (e : Nat) : allV (t1 B e) 5 1 (fun l => 0 :: 1 :: 2 :: 1 :: l) = true := by
  show bc ((t1 B e) [0, 1, 2, 1]) (bc (allV (t1 B e) 4 2 (fun l => 0 :: 1 :: 2 :: 1 :: 2 :: l)) (bc (allV (t1 B e) 4 1 (fun l => 0 :: 1 :: 2 :: 1 :: 1 :: l)) (true) false) false) false = true
  rw [ov1_0121, v1_01212, v1_01211]; rfl
theorem ov1_012 (B : Blk) (e : Nat) : (t1 B e) [0, 1, 2] = true := by kernel_rfl
theorem v1_012 (B : Blk) (e : Nat) : allV (t1 B e) 6 2 (fun l => 0 :: 1 :: 2 :: l) = true := by
  show bc ((t1 B e) [0, 1, 2]) (bc (allV (t1 B e) 5 3 (fun l => 0 :: 1 :: 2 :: 3 :: l)) (bc (allV (t1 B e) 5 2 (fun l => 0 :: 1 :: 2 :: 2 :: l)) (bc (allV (t1 B e) 5 1 (fun l => 0 :: 1 :: 2 :: 1 :: l)) (true) false) false) false) false = true
  rw [ov1_012, v1_0123, v1_0122, v1_0121]; rfl
theorem ov1_011234 (B : Blk) (e : Nat) : (t1 B e) [0, 1, 1, 2, 3, 4] = true := by kernel_rfl
theorem v1_011234 (B : Blk) (e : Nat) : allV (t1 B e) 3 4 (fun l => 0 :: 1 :: 1 :: 2 :: 3 :: 4 :: l) = true := by
  show bc ((t1 B e) [0, 1, 1, 2, 3, 4]) (bc (allV (t1 B e) 2 5 (fun l => 0 :: 1 :: 1 :: 2 :: 3 :: 4 :: 5 :: l)) (bc (allV (t1 B e) 2 4 (fun l => 0 :: 1 :: 1 :: 2 :: 3 :: 4 :: 4 :: l)) (bc (allV (t1 B e) 2 3 (fun l => 0 :: 1 :: 1 :: 2 :: 3 :: 4 :: 3 :: l)) (bc (allV (t1 B e) 2 2 (fun l => 0 :: 1 :: 1 :: 2 :: 3 :: 4 :: 2 :: l)) (bc (allV (t1 B e) 2 1 (fun l => 0 :: 1 :: 1 :: 2 :: 3 :: 4 :: 1 :: l)) (true) false) false) false) false) false) false = true
  rw [ov1_011234, v1_0112345, v1_0112344, v1_0112343, v1_0112342, v1_0112341]; rfl
theorem ov1_01123 (B : Blk) (e : Nat) : (t1 B e) [0, 1, 1, 2, 3] = true := by kernel_rfl
theorem v1_01123 (B : Blk) (e : Nat) : allV (t1 B e) 4 3 (fun l => 0 :: 1 :: 1 :: 2 :: 3 :: l) = true := by
  show bc ((t1 B e) [0, 1, 1, 2, 3]) (bc (allV (t1 B e) 3 4 (fun l => 0 :: 1 :: 1 :: 2 :: 3 :: 4 :: l)) (bc (allV (t1 B e) 3 3 (fun l => 0 :: 1 :: 1 :: 2 :: 3 :: 3 :: l)) (bc (allV (t1 B e) 3 2 (fun l => 0 :: 1 :: 1 :: 2 :: 3 :: 2 :: l)) (bc (allV (t1 B e) 3 1 (fun l => 0 :: 1 :: 1 :: 2 :: 3 :: 1 :: l)) (true) false) false) false) false) false = true
  rw [ov1_01123, v1_011234, v1_011233, v1_011232, v1_011231]; rfl
theorem ov1_01122 (B : Blk) (e : Nat) : (t1 B e) [0, 1, 1, 2, 2] = true := by kernel_rfl
theorem v1_01122 (B : Blk) (e : Nat) : allV (t1 B e) 4 2 (fun l => 0 :: 1 :: 1 :: 2 :: 2 :: l) = true := by
  show bc ((t1 B e) [0, 1, 1, 2, 2]) (bc (allV (t1 B e) 3 3 (fun l => 0 :: 1 :: 1 :: 2 :: 2 :: 3 :: l)) (bc (allV (t1 B e) 3 2 (fun l => 0 :: 1 :: 1 :: 2 :: 2 :: 2 :: l)) (bc (allV (t1 B e) 3 1 (fun l => 0 :: 1 :: 1 :: 2 :: 2 :: 1 :: l)) (true) false) false) false) false = true
  rw [ov1_01122, v1_011223, v1_011222, v1_011221]; rfl
theorem ov1_0112 (B : Blk) (e : Nat) : (t1 B e) [0, 1, 1, 2] = true := by kernel_rfl
theorem v1_0112 (B : Blk) (e : Nat) : allV (t1 B e) 5 2 (fun l => 0 :: 1 :: 1 :: 2 :: l) = true := by
  show bc ((t1 B e) [0, 1, 1, 2]) (bc (allV (t1 B e) 4 3 (fun l => 0 :: 1 :: 1 :: 2 :: 3 :: l)) (bc (allV (t1 B e) 4 2 (fun l => 0 :: 1 :: 1 :: 2 :: 2 :: l)) (bc (allV (t1 B e) 4 1 (fun l => 0 :: 1 :: 1 :: 2 :: 1 :: l)) (true) false) false) false) false = true
  rw [ov1_0112, v1_01123, v1_01122, v1_01121]; rfl
theorem ov1_01112 (B : Blk) (e : Nat) : (t1 B e) [0, 1, 1, 1, 2] = true := by kernel_rfl
theorem v1_01112 (B : Blk) (e : Nat) : allV (t1 B e) 4 2 (fun l => 0 :: 1 :: 1 :: 1 :: 2 :: l) = true := by
  show bc ((t1 B e) [0, 1, 1, 1, 2]) (bc (allV (t1 B e) 3 3 (fun l => 0 :: 1 :: 1 :: 1 :: 2 :: 3 :: l)) (bc (allV (t1 B e) 3 2 (fun l => 0 :: 1 :: 1 :: 1 :: 2 :: 2 :: l)) (bc (allV (t1 B e) 3 1 (fun l => 0 :: 1 :: 1 :: 1 :: 2 :: 1 :: l)) (true) false) false) false) false = true
  rw [ov1_01112, v1_011123, v1_011122, v1_011121]; rfl
theorem ov1_0111 (B : Blk) (e : Nat) : (t1 B e) [0, 1, 1, 1] = true := by kernel_rfl
theorem v1_0111 (B : Blk) (e : Nat) : allV (t1 B e) 5 1 (fun l => 0 :: 1 :: 1 :: 1 :: l) = true := by
  show bc ((t1 B e) [0, 1, 1, 1]) (bc (allV (t1 B e) 4 2 (fun l => 0 :: 1 :: 1 :: 1 :: 2 :: l)) (bc (allV (t1 B e) 4 1 (fun l => 0 :: 1 :: 1 :: 1 :: 1 :: l)) (true) false) false) false = true
  rw [ov1_0111, v1_01112, v1_01111]; rfl
theorem ov1_011 (B : Blk) (e : Nat) : (t1 B e) [0, 1, 1] = true := by kernel_rfl
theorem v1_011 (B : Blk) (e : Nat) : allV (t1 B e) 6 1 (fun l => 0 :: 1 :: 1 :: l) = true := by
  show bc ((t1 B e) [0, 1, 1]) (bc (allV (t1 B e) 5 2 (fun l => 0 :: 1 :: 1 :: 2 :: l)) (bc (allV (t1 B e) 5 1 (fun l => 0 :: 1 :: 1 :: 1 :: l)) (true) false) false) false = true
  rw [ov1_011, v1_0112, v1_0111]; rfl
theorem ov1_01 (B : Blk) (e : Nat) : (t1 B e) [0, 1] = true := by kernel_rfl
theorem v1_01 (B : Blk) (e : Nat) : allV (t1 B e) 7 1 (fun l => 0 :: 1 :: l) = true := by
  show bc ((t1 B e) [0, 1]) (bc (allV (t1 B e) 6 2 (fun l => 0 :: 1 :: 2 :: l)) (bc (allV (t1 B e) 6 1 (fun l => 0 :: 1 :: 1 :: l)) (true) false) false) false = true
  rw [ov1_01, v1_012, v1_011]; rfl
theorem ov1_0 (B : Blk) (e : Nat) : (t1 B e) [0] = true := by kernel_rfl
theorem v1_0 (B : Blk) (e : Nat) : allV (t1 B e) 8 0 (fun l => 0 :: l) = true := by
  show bc ((t1 B e) [0]) (bc (allV (t1 B e) 7 1 (fun l => 0 :: 1 :: l)) (true) false) false = true
  rw [ov1_0, v1_01]; rfl
theorem all1 (B : Blk) (e : Nat) : allV (t1 B e) 8 0 (fun l => 0 :: l) = true := v1_0 B e
theorem valid_form {ds : List Nat} (hv : valid ds = true) : ∃ t, ds = 0 :: t ∧ okFrom 0 t = true := by
  cases ds with
  | nil => cases hv
  | cons e t =>
    have hv : (decide (e = 0) && okFrom e t) = true := hv
    simp at hv
    obtain ⟨rfl, h⟩ := hv
    exact ⟨t, rfl, h⟩
theorem law_bad {B : Blk} {N g : Nat} {pre ds : List Nat} (hb : ∀ e ∈ pre ++ ds, e ≤ 2000) (hn : ds.length ≤ 9) (hv : valid ds = false) : tells (c_laws_FnLevelsTree_r5 (N + 20) g (.osl 1 pre.length ds.length 1) (mem B ((pre ++ ds).map nI))) = true := by
  have hg : (mem B ((pre ++ ds).map nI)).get 1 = .cells 0 ((pre ++ ds).map nI) := get_push_eq rfl
  have e1 : c_impl_LevelsTree (N + 20) g (.osl 1 pre.length ds.length 1) (mem B ((pre ++ ds).map nI)) = some (noT, mem B ((pre ++ ds).map nI)) := by
    delta c_impl_LevelsTree
    rw [impl_isTree (by omega) hg hb hn hv, bindR_some']
    rfl
  have e2 : c_spec_LevelsTree (N + 20) g (.osl 1 pre.length ds.length 1) (mem B ((pre ++ ds).map nI)) = some (noT, mem B ((pre ++ ds).map nI)) := by
    delta c_spec_LevelsTree
    rw [spec_in hg hb hn hv, bindR_some']
    rfl
  delta c_laws_FnLevelsTree_r5
  rw [e1, bindR_some', aExtract_0, aExtract_1, e2, bindR_some']
  rfl
theorem law_good {B : Blk} {pre ds : List Nat} (hp : pre.length ≤ 1) (hn : ds.length ≤ 9) (hv : valid ds = true) : tells (c_laws_FnLevelsTree_r5 2097152 20 (.osl 1 pre.length ds.length 1) (mem B ((pre ++ ds).map nI))) = true := by
  obtain ⟨t, rfl, hk⟩ := valid_form hv
  have hl : t.length ≤ 8 := by simp at hn; omega
  match pre, hp with
  | [], _ =>
    have h := allV_mem 8 0 (fun l => 0 :: l) t (all0 B) hk hl
    have h : tells (c_laws_FnLevelsTree_r5 2097152 20 (.osl 1 0 (lenL (0 :: t)) 1) (mem B (numL (0 :: t)))) = true := h
    rw [numL_eq, lenL_eq] at h
    exact h
  | [e], _ =>
    have h := allV_mem 8 0 (fun l => 0 :: l) t (all1 B e) hk hl
    have h : tells (c_laws_FnLevelsTree_r5 2097152 20 (.osl 1 1 (lenL (0 :: t)) 1) (mem B (.int 3 (.ofNat e) :: numL (0 :: t)))) = true := h
    rw [numL_eq, lenL_eq] at h
    exact h
  | _ :: _ :: _, hp => simp at hp
theorem law_FnLevelsTree : CodeLaw (c_laws_FnLevelsTree 2097152 20) := by
  intro a0 n L B ha hB hb
  have hlen : ∀ (h : H) (k : AV → H → Option R), aLenK 1 a0 h k = k (nI n) h := fun h k => by rcases ha with ⟨rfl, rfl⟩ | rfl <;> rfl
  apply tells_some
  delta c_laws_FnLevelsTree
  by_cases h20 : 1048576 < n
  · rw [hlen, gtrN, withBool_bool, ble_true (show Nat.succ 1048576 ≤ n from h20), bc_true]; rfl
  · rw [hlen, gtrN, withBool_bool, ble_false (show n < Nat.succ 1048576 by omega), bc_false]
    obtain ⟨pre, ds, hp, hn, hbd, hbp, e⟩ := draw_lev 2097152 20 ha hB hb
    rw [e, bindR_some']
    cases hv : valid ds with
    | true => exact law_good hp hn hv
    | false => exact law_bad (N := 2097132) (fun x hx => by
        rcases List.mem_append.1 hx with h | h
        · exact hbp x h
        · exact hbd x h) hn hv
end
end Go.AI.T
