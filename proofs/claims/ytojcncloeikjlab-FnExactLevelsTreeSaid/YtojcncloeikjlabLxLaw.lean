/- The law FnExactLevelsTree is true whatever the row. -/
import Derived.Test.YtojcncloeikjlabLxV0
import Derived.Test.YtojcncloeikjlabLxV1
import Derived.Test.YtojcncloeikjlabLxV2
import Derived.Test.YtojcncloeikjlabLxV3
import Derived.Test.YtojcncloeikjlabLxV4
import Derived.Test.YtojcncloeikjlabLxV5
import Derived.Test.YtojcncloeikjlabLxV6
import Derived.Test.YtojcncloeikjlabLxV7
namespace Go.AI.T
open Go Go.RowKit Go.AI
set_option linter.unusedVariables false
set_option linter.unusedSimpArgs false
set_option maxRecDepth 100000
noncomputable section
theorem ov0_0123456 (T : List Int) : (t0 T) [0, 1, 2, 3, 4, 5, 6] = true := by kernel_rfl
theorem v0_0123456 (T : List Int) : allV (t0 T) 2 6 (fun l => 0 :: 1 :: 2 :: 3 :: 4 :: 5 :: 6 :: l) = true := by
  show bc ((t0 T) [0, 1, 2, 3, 4, 5, 6]) (bc (allV (t0 T) 1 7 (fun l => 0 :: 1 :: 2 :: 3 :: 4 :: 5 :: 6 :: 7 :: l)) (bc (allV (t0 T) 1 6 (fun l => 0 :: 1 :: 2 :: 3 :: 4 :: 5 :: 6 :: 6 :: l)) (bc (allV (t0 T) 1 5 (fun l => 0 :: 1 :: 2 :: 3 :: 4 :: 5 :: 6 :: 5 :: l)) (bc (allV (t0 T) 1 4 (fun l => 0 :: 1 :: 2 :: 3 :: 4 :: 5 :: 6 :: 4 :: l)) (bc (allV (t0 T) 1 3 (fun l => 0 :: 1 :: 2 :: 3 :: 4 :: 5 :: 6 :: 3 :: l)) (bc (allV (t0 T) 1 2 (fun l => 0 :: 1 :: 2 :: 3 :: 4 :: 5 :: 6 :: 2 :: l)) (bc (allV (t0 T) 1 1 (fun l => 0 :: 1 :: 2 :: 3 :: 4 :: 5 :: 6 :: 1 :: l)) (true) false) false) false) false) false) false) false) false = true
  rw [ov0_0123456, v0_01234567, v0_01234566, v0_01234565, v0_01234564, v0_01234563, v0_01234562, v0_01234561]; rfl
theorem ov0_012345 (T : List Int) : (t0 T) [0, 1, 2, 3, 4, 5] = true := by kernel_rfl
theorem v0_012345 (T : List Int) : allV (t0 T) 3 5 (fun l => 0 :: 1 :: 2 :: 3 :: 4 :: 5 :: l) = true := by
  show bc ((t0 T) [0, 1, 2, 3, 4, 5]) (bc (allV (t0 T) 2 6 (fun l => 0 :: 1 :: 2 :: 3 :: 4 :: 5 :: 6 :: l)) (bc (allV (t0 T) 2 5 (fun l => 0 :: 1 :: 2 :: 3 :: 4 :: 5 :: 5 :: l)) (bc (allV (t0 T) 2 4 (fun l => 0 :: 1 :: 2 :: 3 :: 4 :: 5 :: 4 :: l)) (bc (allV (t0 T) 2 3 (fun l => 0 :: 1 :: 2 :: 3 :: 4 :: 5 :: 3 :: l)) (bc (allV (t0 T) 2 2 (fun l => 0 :: 1 :: 2 :: 3 :: 4 :: 5 :: 2 :: l)) (bc (allV (t0 T) 2 1 (fun l => 0 :: 1 :: 2 :: 3 :: 4 :: 5 :: 1 :: l)) (true) false) false) false) false) false) false) false = true
  rw [ov0_012345, v0_0123456, v0_0123455, v0_0123454, v0_0123453, v0_0123452, v0_0123451]; rfl
theorem ov0_012344 (T : List Int) : (t0 T) [0, 1, 2, 3, 4, 4] = true := by kernel_rfl
theorem v0_012344 (T : List Int) : allV (t0 T) 3 4 (fun l => 0 :: 1 :: 2 :: 3 :: 4 :: 4 :: l) = true := by
  show bc ((t0 T) [0, 1, 2, 3, 4, 4]) (bc (allV (t0 T) 2 5 (fun l => 0 :: 1 :: 2 :: 3 :: 4 :: 4 :: 5 :: l)) (bc (allV (t0 T) 2 4 (fun l => 0 :: 1 :: 2 :: 3 :: 4 :: 4 :: 4 :: l)) (bc (allV (t0 T) 2 3 (fun l => 0 :: 1 :: 2 :: 3 :: 4 :: 4 :: 3 :: l)) (bc (allV (t0 T) 2 2 (fun l => 0 :: 1 :: 2 :: 3 :: 4 :: 4 :: 2 :: l)) (bc (allV (t0 T) 2 1 (fun l => 0 :: 1 :: 2 :: 3 :: 4 :: 4 :: 1 :: l)) (true) false) false) false) false) false) false = true
  rw [ov0_012344, v0_0123445, v0_0123444, v0_0123443, v0_0123442, v0_0123441]; rfl
theorem ov0_012343 (T : List Int) : (t0 T) [0, 1, 2, 3, 4, 3] = true := by kernel_rfl
theorem v0_012343 (T : List Int) : allV (t0 T) 3 3 (fun l => 0 :: 1 :: 2 :: 3 :: 4 :: 3 :: l) = true := by
  show bc ((t0 T) [0, 1, 2, 3, 4, 3]) (bc (allV (t0 T) 2 4 (fun l => 0 :: 1 :: 2 :: 3 :: 4 :: 3 :: 4 :: l)) (bc (allV (t0 T) 2 3 (fun l => 0 :: 1 :: 2 :: 3 :: 4 :: 3 :: 3 :: l)) (bc (allV (t0 T) 2 2 (fun l => 0 :: 1 :: 2 :: 3 :: 4 :: 3 :: 2 :: l)) (bc (allV (t0 T) 2 1 (fun l => 0 :: 1 :: 2 :: 3 :: 4 :: 3 :: 1 :: l)) (true) false) false) false) false) false = true
  rw [ov0_012343, v0_0123434, v0_0123433, v0_0123432, v0_0123431]; rfl
theorem ov0_012342 (T : List Int) : (t0 T) [0, 1, 2, 3, 4, 2] = true := by kernel_rfl
theorem v0_012342 (T : List Int) : allV (t0 T) 3 2 (fun l => 0 :: 1 :: 2 :: 3 :: 4 :: 2 :: l) = true := by
  show bc ((t0 T) [0, 1, 2, 3, 4, 2]) (bc (allV (t0 T) 2 3 (fun l => 0 :: 1 :: 2 :: 3 :: 4 :: 2 :: 3 :: l)) (bc (allV (t0 T) 2 2 (fun l => 0 :: 1 :: 2 :: 3 :: 4 :: 2 :: 2 :: l)) (bc (allV (t0 T) 2 1 (fun l => 0 :: 1 :: 2 :: 3 :: 4 :: 2 :: 1 :: l)) (true) false) false) false) false = true
  rw [ov0_012342, v0_0123423, v0_0123422, v0_0123421]; rfl
theorem ov0_01234 (T : List Int) : (t0 T) [0, 1, 2, 3, 4] = true := by kernel_rfl
theorem v0_01234 (T : List Int) : allV (t0 T) 4 4 (fun l => 0 :: 1 :: 2 :: 3 :: 4 :: l) = true := by
  show bc ((t0 T) [0, 1, 2, 3, 4]) (bc (allV (t0 T) 3 5 (fun l => 0 :: 1 :: 2 :: 3 :: 4 :: 5 :: l)) (bc (allV (t0 T) 3 4 (fun l => 0 :: 1 :: 2 :: 3 :: 4 :: 4 :: l)) (bc (allV (t0 T) 3 3 (fun l => 0 :: 1 :: 2 :: 3 :: 4 :: 3 :: l)) (bc (allV (t0 T) 3 2 (fun l => 0 :: 1 :: 2 :: 3 :: 4 :: 2 :: l)) (bc (allV (t0 T) 3 1 (fun l => 0 :: 1 :: 2 :: 3 :: 4 :: 1 :: l)) (true) false) false) false) false) false) false = true
  rw [ov0_01234, v0_012345, v0_012344, v0_012343, v0_012342, v0_012341]; rfl
theorem ov0_012334 (T : List Int) : (t0 T) [0, 1, 2, 3, 3, 4] = true := by kernel_rfl
theorem v0_012334 (T : List Int) : allV (t0 T) 3 4 (fun l => 0 :: 1 :: 2 :: 3 :: 3 :: 4 :: l) = true := by
  show bc ((t0 T) [0, 1, 2, 3, 3, 4]) (bc (allV (t0 T) 2 5 (fun l => 0 :: 1 :: 2 :: 3 :: 3 :: 4 :: 5 :: l)) (bc (allV (t0 T) 2 4 (fun l => 0 :: 1 :: 2 :: 3 :: 3 :: 4 :: 4 :: l)) (bc (allV (t0 T) 2 3 (fun l => 0 :: 1 :: 2 :: 3 :: 3 :: 4 :: 3 :: l)) (bc (allV (t0 T) 2 2 (fun l => 0 :: 1 :: 2 :: 3 :: 3 :: 4 :: 2 :: l)) (bc (allV (t0 T) 2 1 (fun l => 0 :: 1 :: 2 :: 3 :: 3 :: 4 :: 1 :: l)) (true) false) false) false) false) false) false = true
  rw [ov0_012334, v0_0123345, v0_0123344, v0_0123343, v0_0123342, v0_0123341]; rfl
theorem ov0_012333 (T : List Int) : (t0 T) [0, 1, 2, 3, 3, 3] = true := by kernel_rfl
theorem v0_012333 (T : List Int) : allV (t0 T) 3 3 (fun l => 0 :: 1 :: 2 :: 3 :: 3 :: 3 :: l) = true := by
  show bc ((t0 T) [0, 1, 2, 3, 3, 3]) (bc (allV (t0 T) 2 4 (fun l => 0 :: 1 :: 2 :: 3 :: 3 :: 3 :: 4 :: l)) (bc (allV (t0 T) 2 3 (fun l => 0 :: 1 :: 2 :: 3 :: 3 :: 3 :: 3 :: l)) (bc (allV (t0 T) 2 2 (fun l => 0 :: 1 :: 2 :: 3 :: 3 :: 3 :: 2 :: l)) (bc (allV (t0 T) 2 1 (fun l => 0 :: 1 :: 2 :: 3 :: 3 :: 3 :: 1 :: l)) (true) false) false) false) false) false = true
  rw [ov0_012333, v0_0123334, v0_0123333, v0_0123332, v0_0123331]; rfl
theorem ov0_012332 (T : List Int) : (t0 T) [0, 1, 2, 3, 3, 2] = true := by kernel_rfl
theorem v0_012332 (T : List Int) : allV (t0 T) 3 2 (fun l => 0 :: 1 :: 2 :: 3 :: 3 :: 2 :: l) = true := by
  show bc ((t0 T) [0, 1, 2, 3, 3, 2]) (bc (allV (t0 T) 2 3 (fun l => 0 :: 1 :: 2 :: 3 :: 3 :: 2 :: 3 :: l)) (bc (allV (t0 T) 2 2 (fun l => 0 :: 1 :: 2 :: 3 :: 3 :: 2 :: 2 :: l)) (bc (allV (t0 T) 2 1 (fun l => 0 :: 1 :: 2 :: 3 :: 3 :: 2 :: 1 :: l)) (true) false) false) false) false = true
  rw [ov0_012332, v0_0123323, v0_0123322, v0_0123321]; rfl
theorem ov0_01233 (T : List Int) : (t0 T) [0, 1, 2, 3, 3] = true := by kernel_rfl
theorem v0_01233 (T : List Int) : allV (t0 T) 4 3 (fun l => 0 :: 1 :: 2 :: 3 :: 3 :: l) = true := by
  show bc ((t0 T) [0, 1, 2, 3, 3]) (bc (allV (t0 T) 3 4 (fun l => 0 :: 1 :: 2 :: 3 :: 3 :: 4 :: l)) (bc (allV (t0 T) 3 3 (fun l => 0 :: 1 :: 2 :: 3 :: 3 :: 3 :: l)) (bc (allV (t0 T) 3 2 (fun l => 0 :: 1 :: 2 :: 3 :: 3 :: 2 :: l)) (bc (allV (t0 T) 3 1 (fun l => 0 :: 1 :: 2 :: 3 :: 3 :: 1 :: l)) (true) false) false) false) false) false = true
  rw [ov0_01233, v0_012334, v0_012333, v0_012332, v0_012331]; rfl
theorem ov0_012323 (T : List Int) : (t0 T) [0, 1, 2, 3, 2, 3] = true := by kernel_rfl
theorem v0_012323 (T : List Int) : allV (t0 T) 3 3 (fun l => 0 :: 1 :: 2 :: 3 :: 2 :: 3 :: l) = true := by
  show bc ((t0 T) [0, 1, 2, 3, 2, 3]) (bc (allV (t0 T) 2 4 (fun l => 0 :: 1 :: 2 :: 3 :: 2 :: 3 :: 4 :: l)) (bc (allV (t0 T) 2 3 (fun l => 0 :: 1 :: 2 :: 3 :: 2 :: 3 :: 3 :: l)) (bc (allV (t0 T) 2 2 (fun l => 0 :: 1 :: 2 :: 3 :: 2 :: 3 :: 2 :: l)) (bc (allV (t0 T) 2 1 (fun l => 0 :: 1 :: 2 :: 3 :: 2 :: 3 :: 1 :: l)) (true) false) false) false) false) false = true
  rw [ov0_012323, v0_0123234, v0_0123233, v0_0123232, v0_0123231]; rfl
theorem ov0_012322 (T : List Int) : (t0 T) [0, 1, 2, 3, 2, 2] = true := by kernel_rfl
theorem v0_012322 (T : List Int) : allV (t0 T) 3 2 (fun l => 0 :: 1 :: 2 :: 3 :: 2 :: 2 :: l) = true := by
  show bc ((t0 T) [0, 1, 2, 3, 2, 2]) (bc (allV (t0 T) 2 3 (fun l => 0 :: 1 :: 2 :: 3 :: 2 :: 2 :: 3 :: l)) (bc (allV (t0 T) 2 2 (fun l => 0 :: 1 :: 2 :: 3 :: 2 :: 2 :: 2 :: l)) (bc (allV (t0 T) 2 1 (fun l => 0 :: 1 :: 2 :: 3 :: 2 :: 2 :: 1 :: l)) (true) false) false) false) false = true
  rw [ov0_012322, v0_0123223, v0_0123222, v0_0123221]; rfl
theorem ov0_01232 (T : List Int) : (t0 T) [0, 1, 2, 3, 2] = true := by kernel_rfl
theorem v0_01232 (T : List Int) : allV (t0 T) 4 2 (fun l => 0 :: 1 :: 2 :: 3 :: 2 :: l) = true := by
  show bc ((t0 T) [0, 1, 2, 3, 2]) (bc (allV (t0 T) 3 3 (fun l => 0 :: 1 :: 2 :: 3 :: 2 :: 3 :: l)) (bc (allV (t0 T) 3 2 (fun l => 0 :: 1 :: 2 :: 3 :: 2 :: 2 :: l)) (bc (allV (t0 T) 3 1 (fun l => 0 :: 1 :: 2 :: 3 :: 2 :: 1 :: l)) (true) false) false) false) false = true
  rw [ov0_01232, v0_012323, v0_012322, v0_012321]; rfl
theorem ov0_012312 (T : List Int) : (t0 T) [0, 1, 2, 3, 1, 2] = true := by kernel_rfl
theorem v0_012312 (T : List Int) : allV (t0 T) 3 2 (fun l => 0 :: 1 :: 2 :: 3 :: 1 :: 2 :: l) = true := by
  show bc ((t0 T) [0, 1, 2, 3, 1, 2]) (bc (allV (t0 T) 2 3 (fun l => 0 :: 1 :: 2 :: 3 :: 1 :: 2 :: 3 :: l)) (bc (allV (t0 T) 2 2 (fun l => 0 :: 1 :: 2 :: 3 :: 1 :: 2 :: 2 :: l)) (bc (allV (t0 T) 2 1 (fun l => 0 :: 1 :: 2 :: 3 :: 1 :: 2 :: 1 :: l)) (true) false) false) false) false = true
  rw [ov0_012312, v0_0123123, v0_0123122, v0_0123121]; rfl
theorem ov0_01231 (T : List Int) : (t0 T) [0, 1, 2, 3, 1] = true := by kernel_rfl
theorem v0_01231 (T : List Int) : allV (t0 T) 4 1 (fun l => 0 :: 1 :: 2 :: 3 :: 1 :: l) = true := by
  show bc ((t0 T) [0, 1, 2, 3, 1]) (bc (allV (t0 T) 3 2 (fun l => 0 :: 1 :: 2 :: 3 :: 1 :: 2 :: l)) (bc (allV (t0 T) 3 1 (fun l => 0 :: 1 :: 2 :: 3 :: 1 :: 1 :: l)) (true) false) false) false = true
  rw [ov0_01231, v0_012312, v0_012311]; rfl
theorem ov0_0123 (T : List Int) : (t0 T) [0, 1, 2, 3] = true := by kernel_rfl
theorem v0_0123 (T : List Int) : allV (t0 T) 5 3 (fun l => 0 :: 1 :: 2 :: 3 :: l) = true := by
  show bc ((t0 T) [0, 1, 2, 3]) (bc (allV (t0 T) 4 4 (fun l => 0 :: 1 :: 2 :: 3 :: 4 :: l)) (bc (allV (t0 T) 4 3 (fun l => 0 :: 1 :: 2 :: 3 :: 3 :: l)) (bc (allV (t0 T) 4 2 (fun l => 0 :: 1 :: 2 :: 3 :: 2 :: l)) (bc (allV (t0 T) 4 1 (fun l => 0 :: 1 :: 2 :: 3 :: 1 :: l)) (true) false) false) false) false) false = true
  rw [ov0_0123, v0_01234, v0_01233, v0_01232, v0_01231]; rfl
theorem ov0_012234 (T : List Int) : (t0 T) [0, 1, 2, 2, 3, 4] = true := by kernel_rfl
theorem v0_012234 (T : List Int) : allV (t0 T) 3 4 (fun l => 0 :: 1 :: 2 :: 2 :: 3 :: 4 :: l) = true := by
  show bc ((t0 T) [0, 1, 2, 2, 3, 4]) (bc (allV (t0 T) 2 5 (fun l => 0 :: 1 :: 2 :: 2 :: 3 :: 4 :: 5 :: l)) (bc (allV (t0 T) 2 4 (fun l => 0 :: 1 :: 2 :: 2 :: 3 :: 4 :: 4 :: l)) (bc (allV (t0 T) 2 3 (fun l => 0 :: 1 :: 2 :: 2 :: 3 :: 4 :: 3 :: l)) (bc (allV (t0 T) 2 2 (fun l => 0 :: 1 :: 2 :: 2 :: 3 :: 4 :: 2 :: l)) (bc (allV (t0 T) 2 1 (fun l => 0 :: 1 :: 2 :: 2 :: 3 :: 4 :: 1 :: l)) (true) false) false) false) false) false) false = true
  rw [ov0_012234, v0_0122345, v0_0122344, v0_0122343, v0_0122342, v0_0122341]; rfl
theorem ov0_012233 (T : List Int) : (t0 T) [0, 1, 2, 2, 3, 3] = true := by kernel_rfl
theorem v0_012233 (T : List Int) : allV (t0 T) 3 3 (fun l => 0 :: 1 :: 2 :: 2 :: 3 :: 3 :: l) = true := by
  show bc ((t0 T) [0, 1, 2, 2, 3, 3]) (bc (allV (t0 T) 2 4 (fun l => 0 :: 1 :: 2 :: 2 :: 3 :: 3 :: 4 :: l)) (bc (allV (t0 T) 2 3 (fun l => 0 :: 1 :: 2 :: 2 :: 3 :: 3 :: 3 :: l)) (bc (allV (t0 T) 2 2 (fun l => 0 :: 1 :: 2 :: 2 :: 3 :: 3 :: 2 :: l)) (bc (allV (t0 T) 2 1 (fun l => 0 :: 1 :: 2 :: 2 :: 3 :: 3 :: 1 :: l)) (true) false) false) false) false) false = true
  rw [ov0_012233, v0_0122334, v0_0122333, v0_0122332, v0_0122331]; rfl
theorem ov0_012232 (T : List Int) : (t0 T) [0, 1, 2, 2, 3, 2] = true := by kernel_rfl
theorem v0_012232 (T : List Int) : allV (t0 T) 3 2 (fun l => 0 :: 1 :: 2 :: 2 :: 3 :: 2 :: l) = true := by
  show bc ((t0 T) [0, 1, 2, 2, 3, 2]) (bc (allV (t0 T) 2 3 (fun l => 0 :: 1 :: 2 :: 2 :: 3 :: 2 :: 3 :: l)) (bc (allV (t0 T) 2 2 (fun l => 0 :: 1 :: 2 :: 2 :: 3 :: 2 :: 2 :: l)) (bc (allV (t0 T) 2 1 (fun l => 0 :: 1 :: 2 :: 2 :: 3 :: 2 :: 1 :: l)) (true) false) false) false) false = true
  rw [ov0_012232, v0_0122323, v0_0122322, v0_0122321]; rfl
theorem ov0_01223 (T : List Int) : (t0 T) [0, 1, 2, 2, 3] = true := by kernel_rfl
theorem v0_01223 (T : List Int) : allV (t0 T) 4 3 (fun l => 0 :: 1 :: 2 :: 2 :: 3 :: l) = true := by
  show bc ((t0 T) [0, 1, 2, 2, 3]) (bc (allV (t0 T) 3 4 (fun l => 0 :: 1 :: 2 :: 2 :: 3 :: 4 :: l)) (bc (allV (t0 T) 3 3 (fun l => 0 :: 1 :: 2 :: 2 :: 3 :: 3 :: l)) (bc (allV (t0 T) 3 2 (fun l => 0 :: 1 :: 2 :: 2 :: 3 :: 2 :: l)) (bc (allV (t0 T) 3 1 (fun l => 0 :: 1 :: 2 :: 2 :: 3 :: 1 :: l)) (true) false) false) false) false) false = true
  rw [ov0_01223, v0_012234, v0_012233, v0_012232, v0_012231]; rfl
theorem ov0_012223 (T : List Int) : (t0 T) [0, 1, 2, 2, 2, 3] = true := by kernel_rfl
theorem v0_012223 (T : List Int) : allV (t0 T) 3 3 (fun l => 0 :: 1 :: 2 :: 2 :: 2 :: 3 :: l) = true := by
  show bc ((t0 T) [0, 1, 2, 2, 2, 3]) (bc (allV (t0 T) 2 4 (fun l => 0 :: 1 :: 2 :: 2 :: 2 :: 3 :: 4 :: l)) (bc (allV (t0 T) 2 3 (fun l => 0 :: 1 :: 2 :: 2 :: 2 :: 3 :: 3 :: l)) (bc (allV (t0 T) 2 2 (fun l => 0 :: 1 :: 2 :: 2 :: 2 :: 3 :: 2 :: l)) (bc (allV (t0 T) 2 1 (fun l => 0 :: 1 :: 2 :: 2 :: 2 :: 3 :: 1 :: l)) (true) false) false) false) false) false = true
  rw [ov0_012223, v0_0122234, v0_0122233, v0_0122232, v0_0122231]; rfl
theorem ov0_012222 (T : List Int) : (t0 T) [0, 1, 2, 2, 2, 2] = true := by kernel_rfl
theorem v0_012222 (T : List Int) : allV (t0 T) 3 2 (fun l => 0 :: 1 :: 2 :: 2 :: 2 :: 2 :: l) = true := by
  show bc ((t0 T) [0, 1, 2, 2, 2, 2]) (bc (allV (t0 T) 2 3 (fun l => 0 :: 1 :: 2 :: 2 :: 2 :: 2 :: 3 :: l)) (bc (allV (t0 T) 2 2 (fun l => 0 :: 1 :: 2 :: 2 :: 2 :: 2 :: 2 :: l)) (bc (allV (t0 T) 2 1 (fun l => 0 :: 1 :: 2 :: 2 :: 2 :: 2 :: 1 :: l)) (true) false) false) false) false = true
  rw [ov0_012222, v0_0122223, v0_0122222, v0_0122221]; rfl
theorem ov0_01222 (T : List Int) : (t0 T) [0, 1, 2, 2, 2] = true := by kernel_rfl
theorem v0_01222 (T : List Int) : allV (t0 T) 4 2 (fun l => 0 :: 1 :: 2 :: 2 :: 2 :: l) = true := by
  show bc ((t0 T) [0, 1, 2, 2, 2]) (bc (allV (t0 T) 3 3 (fun l => 0 :: 1 :: 2 :: 2 :: 2 :: 3 :: l)) (bc (allV (t0 T) 3 2 (fun l => 0 :: 1 :: 2 :: 2 :: 2 :: 2 :: l)) (bc (allV (t0 T) 3 1 (fun l => 0 :: 1 :: 2 :: 2 :: 2 :: 1 :: l)) (true) false) false) false) false = true
  rw [ov0_01222, v0_012223, v0_012222, v0_012221]; rfl
theorem ov0_012212 (T : List Int) : (t0 T) [0, 1, 2, 2, 1, 2] = true := by kernel_rfl
theorem v0_012212 (T : List Int) : allV (t0 T) 3 2 (fun l => 0 :: 1 :: 2 :: 2 :: 1 :: 2 :: l) = true := by
  show bc ((t0 T) [0, 1, 2, 2, 1, 2]) (bc (allV (t0 T) 2 3 (fun l => 0 :: 1 :: 2 :: 2 :: 1 :: 2 :: 3 :: l)) (bc (allV (t0 T) 2 2 (fun l => 0 :: 1 :: 2 :: 2 :: 1 :: 2 :: 2 :: l)) (bc (allV (t0 T) 2 1 (fun l => 0 :: 1 :: 2 :: 2 :: 1 :: 2 :: 1 :: l)) (true) false) false) false) false = true
  rw [ov0_012212, v0_0122123, v0_0122122, v0_0122121]; rfl
theorem ov0_01221 (T : List Int) : (t0 T) [0, 1, 2, 2, 1] = true := by kernel_rfl
theorem v0_01221 (T : List Int) : allV (t0 T) 4 1 (fun l => 0 :: 1 :: 2 :: 2 :: 1 :: l) = true := by
  show bc ((t0 T) [0, 1, 2, 2, 1]) (bc (allV (t0 T) 3 2 (fun l => 0 :: 1 :: 2 :: 2 :: 1 :: 2 :: l)) (bc (allV (t0 T) 3 1 (fun l => 0 :: 1 :: 2 :: 2 :: 1 :: 1 :: l)) (true) false) false) false = true
  rw [ov0_01221, v0_012212, v0_012211]; rfl
theorem ov0_0122 (T : List Int) : (t0 T) [0, 1, 2, 2] = true := by kernel_rfl
theorem v0_0122 (T : List Int) : allV (t0 T) 5 2 (fun l => 0 :: 1 :: 2 :: 2 :: l) = true := by
  show bc ((t0 T) [0, 1, 2, 2]) (bc (allV (t0 T) 4 3 (fun l => 0 :: 1 :: 2 :: 2 :: 3 :: l)) (bc (allV (t0 T) 4 2 (fun l => 0 :: 1 :: 2 :: 2 :: 2 :: l)) (bc (allV (t0 T) 4 1 (fun l => 0 :: 1 :: 2 :: 2 :: 1 :: l)) (true) false) false) false) false = true
  rw [ov0_0122, v0_01223, v0_01222, v0_01221]; rfl
theorem ov0_012123 (T : List Int) : (t0 T) [0, 1, 2, 1, 2, 3] = true := by kernel_rfl
theorem v0_012123 (T : List Int) : allV (t0 T) 3 3 (fun l => 0 :: 1 :: 2 :: 1 :: 2 :: 3 :: l) = true := by
  show bc ((t0 T) [0, 1, 2, 1, 2, 3]) (bc (allV (t0 T) 2 4 (fun l => 0 :: 1 :: 2 :: 1 :: 2 :: 3 :: 4 :: l)) (bc (allV (t0 T) 2 3 (fun l => 0 :: 1 :: 2 :: 1 :: 2 :: 3 :: 3 :: l)) (bc (allV (t0 T) 2 2 (fun l => 0 :: 1 :: 2 :: 1 :: 2 :: 3 :: 2 :: l)) (bc (allV (t0 T) 2 1 (fun l => 0 :: 1 :: 2 :: 1 :: 2 :: 3 :: 1 :: l)) (true) false) false) false) false) false = true
  rw [ov0_012123, v0_0121234, v0_0121233, v0_0121232, v0_0121231]; rfl
theorem ov0_012122 (T : List Int) : (t0 T) [0, 1, 2, 1, 2, 2] = true := by kernel_rfl
theorem v0_012122 (T : List Int) : allV (t0 T) 3 2 (fun l => 0 :: 1 :: 2 :: 1 :: 2 :: 2 :: l) = true := by
  show bc ((t0 T) [0, 1, 2, 1, 2, 2]) (bc (allV (t0 T) 2 3 (fun l => 0 :: 1 :: 2 :: 1 :: 2 :: 2 :: 3 :: l)) (bc (allV (t0 T) 2 2 (fun l => 0 :: 1 :: 2 :: 1 :: 2 :: 2 :: 2 :: l)) (bc (allV (t0 T) 2 1 (fun l => 0 :: 1 :: 2 :: 1 :: 2 :: 2 :: 1 :: l)) (true) false) false) false) false = true
  rw [ov0_012122, v0_0121223, v0_0121222, v0_0121221]; rfl
theorem ov0_01212 (T : List Int) : (t0 T) [0, 1, 2, 1, 2] = true := by kernel_rfl
theorem v0_01212 (T : List Int) : allV (t0 T) 4 2 (fun l => 0 :: 1 :: 2 :: 1 :: 2 :: l) = true := by
  show bc ((t0 T) [0, 1, 2, 1, 2]) (bc (allV (t0 T) 3 3 (fun l => 0 :: 1 :: 2 :: 1 :: 2 :: 3 :: l)) (bc (allV (t0 T) 3 2 (fun l => 0 :: 1 :: 2 :: 1 :: 2 :: 2 :: l)) (bc (allV (t0 T) 3 1 (fun l => 0 :: 1 :: 2 :: 1 :: 2 :: 1 :: l)) (true) false) false) false) false = true
  rw [ov0_01212, v0_012123, v0_012122, v0_012121]; rfl
theorem ov0_012112 (T : List Int) : (t0 T) [0, 1, 2, 1, 1, 2] = true := by kernel_rfl
theorem v0_012112 (T : List Int) : allV (t0 T) 3 2 (fun l => 0 :: 1 :: 2 :: 1 :: 1 :: 2 :: l) = true := by
  show bc ((t0 T) [0, 1, 2, 1, 1, 2]) (bc (allV (t0 T) 2 3 (fun l => 0 :: 1 :: 2 :: 1 :: 1 :: 2 :: 3 :: l)) (bc (allV (t0 T) 2 2 (fun l => 0 :: 1 :: 2 :: 1 :: 1 :: 2 :: 2 :: l)) (bc (allV (t0 T) 2 1 (fun l => 0 :: 1 :: 2 :: 1 :: 1 :: 2 :: 1 :: l)) (true) false) false) false) false = true
  rw [ov0_012112, v0_0121123, v0_0121122, v0_0121121]; rfl
theorem ov0_01211 (T : List Int) : (t0 T) [0, 1, 2, 1, 1] = true := by kernel_rfl
theorem v0_01211 (T : List Int) : allV (t0 T) 4 1 (fun l => 0 :: 1 :: 2 :: 1 :: 1 :: l) = true := by
  show bc ((t0 T) [0, 1, 2, 1, 1]) (bc (allV (t0 T) 3 2 (fun l => 0 :: 1 :: 2 :: 1 :: 1 :: 2 :: l)) (bc (allV (t0 T) 3 1 (fun l => 0 :: 1 :: 2 :: 1 :: 1 :: 1 :: l)) (true) false) false) false = true
  rw [ov0_01211, v0_012112, v0_012111]; rfl
theorem ov0_0121 (T : List Int) : (t0 T) [0, 1, 2, 1] = true := by kernel_rfl
theorem v0_0121 (T : List Int) : allV (t0 T) 5 1 (fun l => 0 :: 1 :: 2 :: 1 :: l) = true := by
  show bc ((t0 T) [0, 1, 2, 1]) (bc (allV (t0 T) 4 2 (fun l => 0 :: 1 :: 2 :: 1 :: 2 :: l)) (bc (allV (t0 T) 4 1 (fun l => 0 :: 1 :: 2 :: 1 :: 1 :: l)) (true) false) false) false = true
  rw [ov0_0121, v0_01212, v0_01211]; rfl
theorem ov0_012 (T : List Int) : (t0 T) [0, 1, 2] = true := by kernel_rfl
theorem v0_012 (T : List Int) : allV (t0 T) 6 2 (fun l => 0 :: 1 :: 2 :: l) = true := by
  show bc ((t0 T) [0, 1, 2]) (bc (allV (t0 T) 5 3 (fun l => 0 :: 1 :: 2 :: 3 :: l)) (bc (allV (t0 T) 5 2 (fun l => 0 :: 1 :: 2 :: 2 :: l)) (bc (allV (t0 T) 5 1 (fun l => 0 :: 1 :: 2 :: 1 :: l)) (true) false) false) false) false = true
  rw [ov0_012, v0_0123, v0_0122, v0_0121]; rfl
theorem ov0_011234 (T : List Int) : (t0 T) [0, 1, 1, 2, 3, 4] = true := by kernel_rfl
theorem v0_011234 (T : List Int) : allV (t0 T) 3 4 (fun l => 0 :: 1 :: 1 :: 2 :: 3 :: 4 :: l) = true := by
  show bc ((t0 T) [0, 1, 1, 2, 3, 4]) (bc (allV (t0 T) 2 5 (fun l => 0 :: 1 :: 1 :: 2 :: 3 :: 4 :: 5 :: l)) (bc (allV (t0 T) 2 4 (fun l => 0 :: 1 :: 1 :: 2 :: 3 :: 4 :: 4 :: l)) (bc (allV (t0 T) 2 3 (fun l => 0 :: 1 :: 1 :: 2 :: 3 :: 4 :: 3 :: l)) (bc (allV (t0 T) 2 2 (fun l => 0 :: 1 :: 1 :: 2 :: 3 :: 4 :: 2 :: l)) (bc (allV (t0 T) 2 1 (fun l => 0 :: 1 :: 1 :: 2 :: 3 :: 4 :: 1 :: l)) (true) false) false) false) false) false) false = true
  rw [ov0_011234, v0_0112345, v0_0112344, v0_0112343, v0_0112342, v0_0112341]; rfl
theorem ov0_011233 (T : List Int) : (t0 T) [0, 1, 1, 2, 3, 3] = true := by kernel_rfl
theorem v0_011233 (T : List Int) : allV (t0 T) 3 3 (fun l => 0 :: 1 :: 1 :: 2 :: 3 :: 3 :: l) = true := by
  show bc ((t0 T) [0, 1, 1, 2, 3, 3]) (bc (allV (t0 T) 2 4 (fun l => 0 :: 1 :: 1 :: 2 :: 3 :: 3 :: 4 :: l)) (bc (allV (t0 T) 2 3 (fun l => 0 :: 1 :: 1 :: 2 :: 3 :: 3 :: 3 :: l)) (bc (allV (t0 T) 2 2 (fun l => 0 :: 1 :: 1 :: 2 :: 3 :: 3 :: 2 :: l)) (bc (allV (t0 T) 2 1 (fun l => 0 :: 1 :: 1 :: 2 :: 3 :: 3 :: 1 :: l)) (true) false) false) false) false) false = true
  rw [ov0_011233, v0_0112334, v0_0112333, v0_0112332, v0_0112331]; rfl
theorem ov0_011232 (T : List Int) : (t0 T) [0, 1, 1, 2, 3, 2] = true := by kernel_rfl
theorem v0_011232 (T : List Int) : allV (t0 T) 3 2 (fun l => 0 :: 1 :: 1 :: 2 :: 3 :: 2 :: l) = true := by
  show bc ((t0 T) [0, 1, 1, 2, 3, 2]) (bc (allV (t0 T) 2 3 (fun l => 0 :: 1 :: 1 :: 2 :: 3 :: 2 :: 3 :: l)) (bc (allV (t0 T) 2 2 (fun l => 0 :: 1 :: 1 :: 2 :: 3 :: 2 :: 2 :: l)) (bc (allV (t0 T) 2 1 (fun l => 0 :: 1 :: 1 :: 2 :: 3 :: 2 :: 1 :: l)) (true) false) false) false) false = true
  rw [ov0_011232, v0_0112323, v0_0112322, v0_0112321]; rfl
theorem ov0_01123 (T : List Int) : (t0 T) [0, 1, 1, 2, 3] = true := by kernel_rfl
theorem v0_01123 (T : List Int) : allV (t0 T) 4 3 (fun l => 0 :: 1 :: 1 :: 2 :: 3 :: l) = true := by
  show bc ((t0 T) [0, 1, 1, 2, 3]) (bc (allV (t0 T) 3 4 (fun l => 0 :: 1 :: 1 :: 2 :: 3 :: 4 :: l)) (bc (allV (t0 T) 3 3 (fun l => 0 :: 1 :: 1 :: 2 :: 3 :: 3 :: l)) (bc (allV (t0 T) 3 2 (fun l => 0 :: 1 :: 1 :: 2 :: 3 :: 2 :: l)) (bc (allV (t0 T) 3 1 (fun l => 0 :: 1 :: 1 :: 2 :: 3 :: 1 :: l)) (true) false) false) false) false) false = true
  rw [ov0_01123, v0_011234, v0_011233, v0_011232, v0_011231]; rfl
theorem ov0_011223 (T : List Int) : (t0 T) [0, 1, 1, 2, 2, 3] = true := by kernel_rfl
theorem v0_011223 (T : List Int) : allV (t0 T) 3 3 (fun l => 0 :: 1 :: 1 :: 2 :: 2 :: 3 :: l) = true := by
  show bc ((t0 T) [0, 1, 1, 2, 2, 3]) (bc (allV (t0 T) 2 4 (fun l => 0 :: 1 :: 1 :: 2 :: 2 :: 3 :: 4 :: l)) (bc (allV (t0 T) 2 3 (fun l => 0 :: 1 :: 1 :: 2 :: 2 :: 3 :: 3 :: l)) (bc (allV (t0 T) 2 2 (fun l => 0 :: 1 :: 1 :: 2 :: 2 :: 3 :: 2 :: l)) (bc (allV (t0 T) 2 1 (fun l => 0 :: 1 :: 1 :: 2 :: 2 :: 3 :: 1 :: l)) (true) false) false) false) false) false = true
  rw [ov0_011223, v0_0112234, v0_0112233, v0_0112232, v0_0112231]; rfl
theorem ov0_011222 (T : List Int) : (t0 T) [0, 1, 1, 2, 2, 2] = true := by kernel_rfl
theorem v0_011222 (T : List Int) : allV (t0 T) 3 2 (fun l => 0 :: 1 :: 1 :: 2 :: 2 :: 2 :: l) = true := by
  show bc ((t0 T) [0, 1, 1, 2, 2, 2]) (bc (allV (t0 T) 2 3 (fun l => 0 :: 1 :: 1 :: 2 :: 2 :: 2 :: 3 :: l)) (bc (allV (t0 T) 2 2 (fun l => 0 :: 1 :: 1 :: 2 :: 2 :: 2 :: 2 :: l)) (bc (allV (t0 T) 2 1 (fun l => 0 :: 1 :: 1 :: 2 :: 2 :: 2 :: 1 :: l)) (true) false) false) false) false = true
  rw [ov0_011222, v0_0112223, v0_0112222, v0_0112221]; rfl
theorem ov0_01122 (T : List Int) : (t0 T) [0, 1, 1, 2, 2] = true := by kernel_rfl
theorem v0_01122 (T : List Int) : allV (t0 T) 4 2 (fun l => 0 :: 1 :: 1 :: 2 :: 2 :: l) = true := by
  show bc ((t0 T) [0, 1, 1, 2, 2]) (bc (allV (t0 T) 3 3 (fun l => 0 :: 1 :: 1 :: 2 :: 2 :: 3 :: l)) (bc (allV (t0 T) 3 2 (fun l => 0 :: 1 :: 1 :: 2 :: 2 :: 2 :: l)) (bc (allV (t0 T) 3 1 (fun l => 0 :: 1 :: 1 :: 2 :: 2 :: 1 :: l)) (true) false) false) false) false = true
  rw [ov0_01122, v0_011223, v0_011222, v0_011221]; rfl
theorem ov0_011212 (T : List Int) : (t0 T) [0, 1, 1, 2, 1, 2] = true := by kernel_rfl
theorem v0_011212 (T : List Int) : allV (t0 T) 3 2 (fun l => 0 :: 1 :: 1 :: 2 :: 1 :: 2 :: l) = true := by
  show bc ((t0 T) [0, 1, 1, 2, 1, 2]) (bc (allV (t0 T) 2 3 (fun l => 0 :: 1 :: 1 :: 2 :: 1 :: 2 :: 3 :: l)) (bc (allV (t0 T) 2 2 (fun l => 0 :: 1 :: 1 :: 2 :: 1 :: 2 :: 2 :: l)) (bc (allV (t0 T) 2 1 (fun l => 0 :: 1 :: 1 :: 2 :: 1 :: 2 :: 1 :: l)) (true) false) false) false) false = true
  rw [ov0_011212, v0_0112123, v0_0112122, v0_0112121]; rfl
theorem ov0_01121 (T : List Int) : (t0 T) [0, 1, 1, 2, 1] = true := by kernel_rfl
theorem v0_01121 (T : List Int) : allV (t0 T) 4 1 (fun l => 0 :: 1 :: 1 :: 2 :: 1 :: l) = true := by
  show bc ((t0 T) [0, 1, 1, 2, 1]) (bc (allV (t0 T) 3 2 (fun l => 0 :: 1 :: 1 :: 2 :: 1 :: 2 :: l)) (bc (allV (t0 T) 3 1 (fun l => 0 :: 1 :: 1 :: 2 :: 1 :: 1 :: l)) (true) false) false) false = true
  rw [ov0_01121, v0_011212, v0_011211]; rfl
theorem ov0_0112 (T : List Int) : (t0 T) [0, 1, 1, 2] = true := by kernel_rfl
theorem v0_0112 (T : List Int) : allV (t0 T) 5 2 (fun l => 0 :: 1 :: 1 :: 2 :: l) = true := by
  show bc ((t0 T) [0, 1, 1, 2]) (bc (allV (t0 T) 4 3 (fun l => 0 :: 1 :: 1 :: 2 :: 3 :: l)) (bc (allV (t0 T) 4 2 (fun l => 0 :: 1 :: 1 :: 2 :: 2 :: l)) (bc (allV (t0 T) 4 1 (fun l => 0 :: 1 :: 1 :: 2 :: 1 :: l)) (true) false) false) false) false = true
  rw [ov0_0112, v0_01123, v0_01122, v0_01121]; rfl
theorem ov0_011123 (T : List Int) : (t0 T) [0, 1, 1, 1, 2, 3] = true := by kernel_rfl
theorem v0_011123 (T : List Int) : allV (t0 T) 3 3 (fun l => 0 :: 1 :: 1 :: 1 :: 2 :: 3 :: l) = true := by
  show bc ((t0 T) [0, 1, 1, 1, 2, 3]) (bc (allV (t0 T) 2 4 (fun l => 0 :: 1 :: 1 :: 1 :: 2 :: 3 :: 4 :: l)) (bc (allV (t0 T) 2 3 (fun l => 0 :: 1 :: 1 :: 1 :: 2 :: 3 :: 3 :: l)) (bc (allV (t0 T) 2 2 (fun l => 0 :: 1 :: 1 :: 1 :: 2 :: 3 :: 2 :: l)) (bc (allV (t0 T) 2 1 (fun l => 0 :: 1 :: 1 :: 1 :: 2 :: 3 :: 1 :: l)) (true) false) false) false) false) false = true
  rw [ov0_011123, v0_0111234, v0_0111233, v0_0111232, v0_0111231]; rfl
theorem ov0_011122 (T : List Int) : (t0 T) [0, 1, 1, 1, 2, 2] = true := by kernel_rfl
theorem v0_011122 (T : List Int) : allV (t0 T) 3 2 (fun l => 0 :: 1 :: 1 :: 1 :: 2 :: 2 :: l) = true := by
  show bc ((t0 T) [0, 1, 1, 1, 2, 2]) (bc (allV (t0 T) 2 3 (fun l => 0 :: 1 :: 1 :: 1 :: 2 :: 2 :: 3 :: l)) (bc (allV (t0 T) 2 2 (fun l => 0 :: 1 :: 1 :: 1 :: 2 :: 2 :: 2 :: l)) (bc (allV (t0 T) 2 1 (fun l => 0 :: 1 :: 1 :: 1 :: 2 :: 2 :: 1 :: l)) (true) false) false) false) false = true
  rw [ov0_011122, v0_0111223, v0_0111222, v0_0111221]; rfl
theorem ov0_01112 (T : List Int) : (t0 T) [0, 1, 1, 1, 2] = true := by kernel_rfl
theorem v0_01112 (T : List Int) : allV (t0 T) 4 2 (fun l => 0 :: 1 :: 1 :: 1 :: 2 :: l) = true := by
  show bc ((t0 T) [0, 1, 1, 1, 2]) (bc (allV (t0 T) 3 3 (fun l => 0 :: 1 :: 1 :: 1 :: 2 :: 3 :: l)) (bc (allV (t0 T) 3 2 (fun l => 0 :: 1 :: 1 :: 1 :: 2 :: 2 :: l)) (bc (allV (t0 T) 3 1 (fun l => 0 :: 1 :: 1 :: 1 :: 2 :: 1 :: l)) (true) false) false) false) false = true
  rw [ov0_01112, v0_011123, v0_011122, v0_011121]; rfl
theorem ov0_011112 (T : List Int) : (t0 T) [0, 1, 1, 1, 1, 2] = true := by kernel_rfl
theorem v0_011112 (T : List Int) : allV (t0 T) 3 2 (fun l => 0 :: 1 :: 1 :: 1 :: 1 :: 2 :: l) = true := by
  show bc ((t0 T) [0, 1, 1, 1, 1, 2]) (bc (allV (t0 T) 2 3 (fun l => 0 :: 1 :: 1 :: 1 :: 1 :: 2 :: 3 :: l)) (bc (allV (t0 T) 2 2 (fun l => 0 :: 1 :: 1 :: 1 :: 1 :: 2 :: 2 :: l)) (bc (allV (t0 T) 2 1 (fun l => 0 :: 1 :: 1 :: 1 :: 1 :: 2 :: 1 :: l)) (true) false) false) false) false = true
  rw [ov0_011112, v0_0111123, v0_0111122, v0_0111121]; rfl
theorem ov0_01111 (T : List Int) : (t0 T) [0, 1, 1, 1, 1] = true := by kernel_rfl
theorem v0_01111 (T : List Int) : allV (t0 T) 4 1 (fun l => 0 :: 1 :: 1 :: 1 :: 1 :: l) = true := by
  show bc ((t0 T) [0, 1, 1, 1, 1]) (bc (allV (t0 T) 3 2 (fun l => 0 :: 1 :: 1 :: 1 :: 1 :: 2 :: l)) (bc (allV (t0 T) 3 1 (fun l => 0 :: 1 :: 1 :: 1 :: 1 :: 1 :: l)) (true) false) false) false = true
  rw [ov0_01111, v0_011112, v0_011111]; rfl
theorem ov0_0111 (T : List Int) : (t0 T) [0, 1, 1, 1] = true := by kernel_rfl
theorem v0_0111 (T : List Int) : allV (t0 T) 5 1 (fun l => 0 :: 1 :: 1 :: 1 :: l) = true := by
  show bc ((t0 T) [0, 1, 1, 1]) (bc (allV (t0 T) 4 2 (fun l => 0 :: 1 :: 1 :: 1 :: 2 :: l)) (bc (allV (t0 T) 4 1 (fun l => 0 :: 1 :: 1 :: 1 :: 1 :: l)) (true) false) false) false = true
  rw [ov0_0111, v0_01112, v0_01111]; rfl
theorem ov0_011 (T : List Int) : (t0 T) [0, 1, 1] = true := by kernel_rfl
theorem v0_011 (T : List Int) : allV (t0 T) 6 1 (fun l => 0 :: 1 :: 1 :: l) = true := by
  show bc ((t0 T) [0, 1, 1]) (bc (allV (t0 T) 5 2 (fun l => 0 :: 1 :: 1 :: 2 :: l)) (bc (allV (t0 T) 5 1 (fun l => 0 :: 1 :: 1 :: 1 :: l)) (true) false) false) false = true
  rw [ov0_011, v0_0112, v0_0111]; rfl
theorem ov0_01 (T : List Int) : (t0 T) [0, 1] = true := by kernel_rfl
theorem v0_01 (T : List Int) : allV (t0 T) 7 1 (fun l => 0 :: 1 :: l) = true := by
  show bc ((t0 T) [0, 1]) (bc (allV (t0 T) 6 2 (fun l => 0 :: 1 :: 2 :: l)) (bc (allV (t0 T) 6 1 (fun l => 0 :: 1 :: 1 :: l)) (true) false) false) false = true
  rw [ov0_01, v0_012, v0_011]; rfl
theorem ov0_0 (T : List Int) : (t0 T) [0] = true := by kernel_rfl
theorem v0_0 (T : List Int) : allV (t0 T) 8 0 (fun l => 0 :: l) = true := by
  show bc ((t0 T) [0]) (bc (allV (t0 T) 7 1 (fun l => 0 :: 1 :: l)) (true) false) false = true
  rw [ov0_0, v0_01]; rfl
theorem all0 (T : List Int) : allV (t0 T) 8 0 (fun l => 0 :: l) = true := v0_0 T
theorem okFrom_nat : ∀ (rest : List Int) (p : Nat), okFrom p rest = true → (rest.map Int.toNat).map Int.ofNat = rest
  | [], _, _ => rfl
  | e :: t, p, h => by
    have h : (decide (1 ≤ e) && decide (e ≤ p + 1) && okFrom e.toNat t) = true := h
    simp at h
    show Int.ofNat e.toNat :: _ = _
    rw [okFrom_nat t _ h.2, show Int.ofNat e.toNat = e by show ((e.toNat : Nat) : Int) = e; omega]
theorem law_good {ds T : List Int} (hn : ds.length ≤ 9) (hv : valid ds = true) : tells (c_laws_FnExactLevelsTree 2097152 20 (.osl 0 0 ds.length 1) (hCode (.cells 2 ((ds ++ T).map zI)))) = true := by
  cases ds with
  | nil => cases hv
  | cons e t =>
    have hv : (decide (e = 0) && okFrom 0 t) = true := hv
    simp at hv
    obtain ⟨rfl, hk⟩ := hv
    have hl : t.length ≤ 8 := by simp at hn; omega
    have h := allV_mem 8 0 (fun l => 0 :: l) t (all0 T) hk hl
    have h : tells (c_laws_FnExactLevelsTree 2097152 20 (.osl 0 0 (lenL (0 :: t.map Int.toNat)) 1) (hCode (.cells 2 (numN T (0 :: t.map Int.toNat))))) = true := h
    rw [numN_eq, lenL_eq, List.map_cons, okFrom_nat t 0 hk] at h
    simp only [List.length_cons, List.length_map] at h ⊢
    exact h
theorem slice1 {b n c : Nat} {h : H} (hn : 1 ≤ n) (hc : n ≤ c) (k : AV → H → Option R) : aSliceV 1 (.leaf (.sl b 0 n c)) (some (nI 1)) none none h k = k (.leaf (.sl b (bc (Nat.beq c 1) 0 1) (n - 1) (c - 1))) h := by
  show bc (Nat.ble 1 n) (bc (Nat.ble n c) (bc (Nat.beq 1 1) (bx (Nat.ble c c) (k (.leaf (.sl b (bc (Nat.beq c 1) 0 (Nat.add 0 (Nat.mul 1 1))) (Nat.sub n 1) (Nat.sub c 1))) h) none) none) none) none = _
  rw [ble_true hn, ble_true hc, ble_true (Nat.le_refl c)]; rfl
theorem law_bad {N g n : Nat} {ds T : List Int} (hN : 1048576 < N) (h1 : 1 ≤ n) (hn : n ≤ 1048576) (hl : ds.length = n) (hv : valid ds = false ∨ 9 < n) : tells (c_laws_FnExactLevelsTree N g (.osl 0 0 n 1) (hCode (.cells 2 ((ds ++ T).map zI)))) = true := by
  have one : ∀ a ∈ ds.map zI, a.one1 = true := fun a ha => by obtain ⟨z, _, rfl⟩ := List.mem_map.1 ha; rfl
  have hb0 : (hCode (.cells 2 ((ds ++ T).map zI))).get 0 = .cells 2 (ds.map zI ++ T.map zI) := by rw [hCode_get, List.map_append]
  have r0 : Rd (.osl 0 0 n 1) 0 n (ds.map zI) (T.map zI) := Rd.osl 0 (by rw [List.length_map, hl])
  have cp : ∀ (h : H), h.get 0 = .cells 2 (ds.map zI ++ T.map zI) → 0 < h.n → ∃ h', c_laws_toIntS N g (.osl 0 0 n 1) h = some (.leaf (.sl h.n 0 n n), h') ∧ h'.get h.n = .cells 0 (ds.map zI) ∧ (∀ c, c < h.n → h'.get c = h.get c) ∧ h'.n = h.n + 1 :=
    fun h hb hn0 => copy_ok (z := .int 3 (.ofNat 0)) (bs := 8) r0 one hn (by omega) hN hb hn0
  have rs : ∀ q, Rd (.leaf (.sl q 0 n n)) q n (ds.map zI) [] := fun q => Rd.sl q n (by rw [List.length_map, hl])
  obtain ⟨h1', e1, g1, k1, n1⟩ := cp _ hb0 Nat.zero_lt_one
  have q0 : (hCode (.cells 2 ((ds ++ T).map zI))).n = 1 := rfl
  rw [q0] at e1 g1 k1 n1
  obtain ⟨h2', e2, g2, k2, n2⟩ := cp h1' (by rw [k1 0 (by omega)]; exact hb0) (by omega)
  rw [n1] at e2 g2 k2 n2
  obtain ⟨h3', e3, g3, k3, n3⟩ := cp h2' (by rw [k2 0 (by omega), k1 0 (by omega)]; exact hb0) (by omega)
  rw [n2] at e3 g3 k3 n3
  have s1 : c_spec_LevelsTree N g (.leaf (.sl 1 0 n n)) h1' = some (noT, h1') := by
    delta c_spec_LevelsTree
    rw [spec_in (fl := 0) (rs 1) hN (by rw [g1, List.append_nil]) hn hv, bindR_some']
    rfl
  have s2 : c_impl_LevelsTree N g (.leaf (.sl (1 + 1) 0 n n)) h2' = some (noT, h2') := by
    delta c_impl_LevelsTree
    rw [impl_isTree (fl := 0) (rs (1 + 1)) (by omega) (by rw [g2, List.append_nil]) hv (fun h1 => ⟨_, slice1 h1 (Nat.le_refl _), fun _ => rfl, fun i e he k => by
      have := (List.getElem?_eq_some_iff.1 he).1
      rw [idxSl (by omega), show Nat.beq n 1 = false by rw [beq_decide, decide_eq_false_iff_not]; omega, bc_false, load_at g2 (by rw [nthO_eq, Nat.add_comm 1 i]; exact at_map he)]⟩), bindR_some']
    rfl
  have s3 : c_laws_eqIntS N g (.leaf (.sl (1 + 1) 0 n n)) (.leaf (.sl (1 + 1 + 1) 0 n n)) h3' = some (.bool true, h3') :=
    eq_rows (cmp := fun a b h k => aCmpI (fun a b => bnot (ieq a b)) a b h k) (fl := 0) (fl' := 0) (T := []) (T' := []) (fun _ _ _ _ _ => rfl) (rs (1 + 1)) (rs (1 + 1 + 1)) (fun a ha h k => by
      obtain ⟨z, _, rfl⟩ := List.mem_map.1 ha
      rw [neqZ, decide_eq_true rfl]; rfl) hn hN (by rw [k3 _ (by omega), g2, List.append_nil]) (by rw [g3, List.append_nil])
  delta c_laws_FnExactLevelsTree
  rw [leOsl, show AV.int 3 (Int.ofNat 1048576) = nI 1048576 from rfl, gtrN, withBool_bool, ble_false (show n < Nat.succ 1048576 by omega), bc_false, e1, bindR_some', s1, bindR_some', aExtract_0, aExtract_1, e2, bindR_some', s2, bindR_some', aExtract_0, aExtract_1]
  refine (show _ = tells (bindR (c_laws_toIntS N g (.osl 0 0 n 1) h2') fun x19 h => bindR (c_laws_eqIntS N g (.leaf (.sl (1 + 1) 0 n n)) x19 h) fun x20 h => aNot x20 h fun x21 h => withBool x21 fun t22 => bc t22 (some ((AV.bool false), h)) (some ((AV.bool true), h))) from rfl).trans ?_
  rw [e3, bindR_some', s3, bindR_some']
  rfl
theorem none_nils (B : Blk) : tells (c_laws_FnExactLevelsTree 2097152 20 (.leaf .nils) (hCode B)) = true := by kernel_rfl
theorem none_osl (B : Blk) : tells (c_laws_FnExactLevelsTree 2097152 20 (.osl 0 0 0 1) (hCode B)) = true := by kernel_rfl
theorem law_FnExactLevelsTree : IntLaw (c_laws_FnExactLevelsTree 2097152 20) := by
  intro a0 n L B ha hB hL
  apply tells_some
  by_cases h0 : n = 0
  · subst h0
    rcases ha with ⟨rfl, _⟩ | rfl
    · exact none_nils B
    · exact none_osl B
  obtain rfl : a0 = .osl 0 0 n 1 := ha.resolve_left fun h => h0 h.2
  have hB := hB (by omega)
  subst hB
  by_cases h20 : 1048576 < n
  · delta c_laws_FnExactLevelsTree
    rw [leOsl, show AV.int 3 (Int.ofNat 1048576) = nI 1048576 from rfl, gtrN, withBool_bool, ble_true (show Nat.succ 1048576 ≤ n from h20), bc_true]; rfl
  have hsp : L = L.take n ++ L.drop n := (List.take_append_drop n L).symm
  have hl : (L.take n).length = n := by rw [List.length_take]; omega
  rw [show L.map (AV.int 3) = (L.take n ++ L.drop n).map zI by rw [← hsp]]
  by_cases hv : valid (L.take n) = true ∧ n ≤ 9
  · have := law_good (T := L.drop n) (by rw [hl]; exact hv.2) hv.1
    rw [hl] at this
    exact this
  · refine law_bad (N := 2097152) (by omega) (by omega) (by omega) hl ?_
    cases hq : valid (L.take n) with
    | false => exact .inl rfl
    | true => exact .inr (Nat.lt_of_not_le fun h => hv ⟨hq, h⟩)
end
end Go.AI.T
