/- Runs of the program at a seat. -/
import Derived.Test.YtnglbchhlpbgkaaSFnExactMeanSignP
namespace Go.Proofs.Ytnglbchhlpbgkaa.fnExactMeanSignRuns
open Go Go.Eng
set_option linter.unusedVariables false
set_option linter.unusedSectionVars false
set_option linter.unusedSimpArgs false
set_option maxRecDepth 100000
theorem y0 : gB pclasses (fun c => run (.row [1, 1, 1, 1, 1, 1]) (.row [2, 2, 1, 1]) c []) = true := by kernel_rfl
theorem y1 : gB pclasses (fun c => run (.row [1, 1, 1, 1, 1, 1]) (.row [2, 2, 2]) c []) = true := by kernel_rfl
theorem y2 : gB pclasses (fun c => run (.row [1, 1, 1, 1, 1, 1]) (.row [3]) c []) = true := by kernel_rfl
theorem y3 : gB pclasses (fun c => run (.row [1, 1, 1, 1, 1, 1]) (.row [3, 1]) c []) = true := by kernel_rfl
theorem y4 : gB pclasses (fun c => run (.row [1, 1, 1, 1, 1, 1]) (.row [3, 1, 1]) c []) = true := by kernel_rfl
theorem y5 : gB pclasses (fun c => run (.row [1, 1, 1, 1, 1, 1]) (.row [3, 1, 1, 1]) c []) = true := by kernel_rfl
theorem y6 : gB pclasses (fun c => run (.row [1, 1, 1, 1, 1, 1]) (.row [3, 2]) c []) = true := by kernel_rfl
theorem y7 : gB pclasses (fun c => run (.row [1, 1, 1, 1, 1, 1]) (.row [3, 2, 1]) c []) = true := by kernel_rfl
theorem y8 : gB pclasses (fun c => run (.row [1, 1, 1, 1, 1, 1]) (.row [3, 3]) c []) = true := by kernel_rfl
theorem gc {f : Cls → Bool} {x : Cls} {l : List Cls} (h : f x = true) (t : gB l f = true) : gB (x :: l) f = true := by
  show sel (f x) (gB l f) false = true
  rw [h]; exact t
theorem w10_2 : gB L10_2 (fun b => gB pclasses (fun c => run (.row [1, 1, 1, 1, 1, 1]) b c [])) = true := gc y0 (gc y1 (gc y2 (gc y3 (gc y4 (gc y5 (gc y6 (gc y7 (gc y8 rfl))))))))
theorem z0 : gB pclasses (fun c => run (.row [1, 1, 1, 1, 1, 1]) (.row [1, 1, 1, 1, 1]) c []) = true := by kernel_rfl
theorem z1 : gB pclasses (fun c => run (.row [1, 1, 1, 1, 1, 1]) (.row [1, 1, 1, 1, 1, 1]) c []) = true := by kernel_rfl
theorem z2 : gB pclasses (fun c => run (.row [1, 1, 1, 1, 1, 1]) (.row [2]) c []) = true := by kernel_rfl
theorem z3 : gB pclasses (fun c => run (.row [1, 1, 1, 1, 1, 1]) (.row [2, 1]) c []) = true := by kernel_rfl
theorem z4 : gB pclasses (fun c => run (.row [1, 1, 1, 1, 1, 1]) (.row [2, 1, 1]) c []) = true := by kernel_rfl
theorem z5 : gB pclasses (fun c => run (.row [1, 1, 1, 1, 1, 1]) (.row [2, 1, 1, 1]) c []) = true := by kernel_rfl
theorem z6 : gB pclasses (fun c => run (.row [1, 1, 1, 1, 1, 1]) (.row [2, 1, 1, 1, 1]) c []) = true := by kernel_rfl
theorem z7 : gB pclasses (fun c => run (.row [1, 1, 1, 1, 1, 1]) (.row [2, 2]) c []) = true := by kernel_rfl
theorem z8 : gB pclasses (fun c => run (.row [1, 1, 1, 1, 1, 1]) (.row [2, 2, 1]) c []) = true := by kernel_rfl
theorem w10_1 : gB L10_1 (fun b => gB pclasses (fun c => run (.row [1, 1, 1, 1, 1, 1]) b c [])) = true := gc z0 (gc z1 (gc z2 (gc z3 (gc z4 (gc z5 (gc z6 (gc z7 (gc z8 rfl))))))))
end Go.Proofs.Ytnglbchhlpbgkaa.fnExactMeanSignRuns
