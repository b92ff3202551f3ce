/- Runs of the program at a seat. -/
import Derived.Test.YtnobdifmnoehbaaSumM
namespace Go.Proofs.Ytnobdifmnoehbaa.sumNoin
open Go Go.Eng
set_option linter.unusedVariables false
set_option linter.unusedSectionVars false
set_option linter.unusedSimpArgs false
set_option maxRecDepth 100000 in
theorem a0 : allBo (fun co => isNo (noRun Try.prog Go.Proofs.Ytnobdifmnoehbaa.sumM.mS 1000 60 92 375 (wV 1 0 0) co)) coAny = true := by kernel_rfl
set_option maxRecDepth 100000 in
theorem a1 : allBo (fun co => isNo (noRun Try.prog Go.Proofs.Ytnobdifmnoehbaa.sumM.mS 1000 60 92 (ostrW 0 0 0) (wV 1 0 0) co)) coAny = true := by kernel_rfl
set_option maxRecDepth 100000 in
theorem b23671_0 : allBo (fun co => isNo (noRun Try.prog Go.Proofs.Ytnobdifmnoehbaa.sumM.mS 1000 60 92 23671 (wV 1 0 549755813887) co)) coAny = true := by kernel_rfl
set_option maxRecDepth 100000 in
theorem b23671_1 : allBo (fun co => isNo (noRun Try.prog Go.Proofs.Ytnobdifmnoehbaa.sumM.mS 1000 60 92 23671 (wV 1 549755813895 0) co)) coAny = true := by kernel_rfl
set_option maxRecDepth 100000 in
theorem c23671_0 : allBo (fun co => isNo (noRun Try.prog Go.Proofs.Ytnobdifmnoehbaa.sumM.mS 1000 60 92 23671 (wI 0) co)) (coOf (npS 0)) = true := by kernel_rfl
set_option maxRecDepth 100000 in
theorem c23671_1 : allBo (fun co => isNo (noRun Try.prog Go.Proofs.Ytnobdifmnoehbaa.sumM.mS 1000 60 92 23671 (wI 1) co)) (coOf (npS 1)) = true := by kernel_rfl
set_option maxRecDepth 100000 in
theorem c23671_2 : allBo (fun co => isNo (noRun Try.prog Go.Proofs.Ytnobdifmnoehbaa.sumM.mS 1000 60 92 23671 (wI 2) co)) (coOf (npS 2)) = true := by kernel_rfl
set_option maxRecDepth 100000 in
theorem c23671_3 : allBo (fun co => isNo (noRun Try.prog Go.Proofs.Ytnobdifmnoehbaa.sumM.mS 1000 60 92 23671 (wI 3) co)) (coOf (npS 3)) = true := by kernel_rfl
set_option maxRecDepth 100000 in
theorem c23671_4 : allBo (fun co => isNo (noRun Try.prog Go.Proofs.Ytnobdifmnoehbaa.sumM.mS 1000 60 92 23671 (wI 4) co)) (coOf (npS 4)) = true := by kernel_rfl
set_option maxRecDepth 100000 in
theorem c23671_5 : allBo (fun co => isNo (noRun Try.prog Go.Proofs.Ytnobdifmnoehbaa.sumM.mS 1000 60 92 23671 (wI 5) co)) (coOf (npS 5)) = true := by kernel_rfl
set_option maxRecDepth 100000 in
theorem c23671_6 : allBo (fun co => isNo (noRun Try.prog Go.Proofs.Ytnobdifmnoehbaa.sumM.mS 1000 60 92 23671 (wI 6) co)) (coOf (npS 6)) = true := by kernel_rfl
set_option maxRecDepth 100000 in
theorem b23159_0 : allBo (fun co => isNo (noRun Try.prog Go.Proofs.Ytnobdifmnoehbaa.sumM.mS 1000 60 92 23159 (wV 1 0 549755813887) co)) coAny = true := by kernel_rfl
set_option maxRecDepth 100000 in
theorem b23159_1 : allBo (fun co => isNo (noRun Try.prog Go.Proofs.Ytnobdifmnoehbaa.sumM.mS 1000 60 92 23159 (wV 1 549755813895 0) co)) coAny = true := by kernel_rfl
set_option maxRecDepth 100000 in
theorem c23159_0 : allBo (fun co => isNo (noRun Try.prog Go.Proofs.Ytnobdifmnoehbaa.sumM.mS 1000 60 92 23159 (wI 0) co)) (coOf (npS 0)) = true := by kernel_rfl
set_option maxRecDepth 100000 in
theorem c23159_1 : allBo (fun co => isNo (noRun Try.prog Go.Proofs.Ytnobdifmnoehbaa.sumM.mS 1000 60 92 23159 (wI 1) co)) (coOf (npS 1)) = true := by kernel_rfl
set_option maxRecDepth 100000 in
theorem c23159_2 : allBo (fun co => isNo (noRun Try.prog Go.Proofs.Ytnobdifmnoehbaa.sumM.mS 1000 60 92 23159 (wI 2) co)) (coOf (npS 2)) = true := by kernel_rfl
set_option maxRecDepth 100000 in
theorem c23159_3 : allBo (fun co => isNo (noRun Try.prog Go.Proofs.Ytnobdifmnoehbaa.sumM.mS 1000 60 92 23159 (wI 3) co)) (coOf (npS 3)) = true := by kernel_rfl
set_option maxRecDepth 100000 in
theorem c23159_4 : allBo (fun co => isNo (noRun Try.prog Go.Proofs.Ytnobdifmnoehbaa.sumM.mS 1000 60 92 23159 (wI 4) co)) (coOf (npS 4)) = true := by kernel_rfl
set_option maxRecDepth 100000 in
theorem c23159_5 : allBo (fun co => isNo (noRun Try.prog Go.Proofs.Ytnobdifmnoehbaa.sumM.mS 1000 60 92 23159 (wI 5) co)) (coOf (npS 5)) = true := by kernel_rfl
set_option maxRecDepth 100000 in
theorem c23159_6 : allBo (fun co => isNo (noRun Try.prog Go.Proofs.Ytnobdifmnoehbaa.sumM.mS 1000 60 92 23159 (wI 6) co)) (coOf (npS 6)) = true := by kernel_rfl
set_option maxRecDepth 100000 in
theorem b23351_0 : allBo (fun co => isNo (noRun Try.prog Go.Proofs.Ytnobdifmnoehbaa.sumM.mS 1000 60 92 23351 (wV 1 0 549755813887) co)) coAny = true := by kernel_rfl
set_option maxRecDepth 100000 in
theorem b23351_1 : allBo (fun co => isNo (noRun Try.prog Go.Proofs.Ytnobdifmnoehbaa.sumM.mS 1000 60 92 23351 (wV 1 549755813895 0) co)) coAny = true := by kernel_rfl
set_option maxRecDepth 100000 in
theorem c23351_0 : allBo (fun co => isNo (noRun Try.prog Go.Proofs.Ytnobdifmnoehbaa.sumM.mS 1000 60 92 23351 (wI 0) co)) (coOf (npS 0)) = true := by kernel_rfl
set_option maxRecDepth 100000 in
theorem c23351_1 : allBo (fun co => isNo (noRun Try.prog Go.Proofs.Ytnobdifmnoehbaa.sumM.mS 1000 60 92 23351 (wI 1) co)) (coOf (npS 1)) = true := by kernel_rfl
set_option maxRecDepth 100000 in
theorem c23351_2 : allBo (fun co => isNo (noRun Try.prog Go.Proofs.Ytnobdifmnoehbaa.sumM.mS 1000 60 92 23351 (wI 2) co)) (coOf (npS 2)) = true := by kernel_rfl
set_option maxRecDepth 100000 in
theorem c23351_3 : allBo (fun co => isNo (noRun Try.prog Go.Proofs.Ytnobdifmnoehbaa.sumM.mS 1000 60 92 23351 (wI 3) co)) (coOf (npS 3)) = true := by kernel_rfl
set_option maxRecDepth 100000 in
theorem c23351_4 : allBo (fun co => isNo (noRun Try.prog Go.Proofs.Ytnobdifmnoehbaa.sumM.mS 1000 60 92 23351 (wI 4) co)) (coOf (npS 4)) = true := by kernel_rfl
set_option maxRecDepth 100000 in
theorem c23351_5 : allBo (fun co => isNo (noRun Try.prog Go.Proofs.Ytnobdifmnoehbaa.sumM.mS 1000 60 92 23351 (wI 5) co)) (coOf (npS 5)) = true := by kernel_rfl
set_option maxRecDepth 100000 in
theorem c23351_6 : allBo (fun co => isNo (noRun Try.prog Go.Proofs.Ytnobdifmnoehbaa.sumM.mS 1000 60 92 23351 (wI 6) co)) (coOf (npS 6)) = true := by kernel_rfl
set_option maxRecDepth 100000 in
theorem b23863_0 : allBo (fun co => isNo (noRun Try.prog Go.Proofs.Ytnobdifmnoehbaa.sumM.mS 1000 60 92 23863 (wV 1 0 549755813887) co)) coAny = true := by kernel_rfl
set_option maxRecDepth 100000 in
theorem b23863_1 : allBo (fun co => isNo (noRun Try.prog Go.Proofs.Ytnobdifmnoehbaa.sumM.mS 1000 60 92 23863 (wV 1 549755813895 0) co)) coAny = true := by kernel_rfl
set_option maxRecDepth 100000 in
theorem c23863_0 : allBo (fun co => isNo (noRun Try.prog Go.Proofs.Ytnobdifmnoehbaa.sumM.mS 1000 60 92 23863 (wI 0) co)) (coOf (npS 0)) = true := by kernel_rfl
set_option maxRecDepth 100000 in
theorem c23863_1 : allBo (fun co => isNo (noRun Try.prog Go.Proofs.Ytnobdifmnoehbaa.sumM.mS 1000 60 92 23863 (wI 1) co)) (coOf (npS 1)) = true := by kernel_rfl
set_option maxRecDepth 100000 in
theorem c23863_2 : allBo (fun co => isNo (noRun Try.prog Go.Proofs.Ytnobdifmnoehbaa.sumM.mS 1000 60 92 23863 (wI 2) co)) (coOf (npS 2)) = true := by kernel_rfl
set_option maxRecDepth 100000 in
theorem c23863_3 : allBo (fun co => isNo (noRun Try.prog Go.Proofs.Ytnobdifmnoehbaa.sumM.mS 1000 60 92 23863 (wI 3) co)) (coOf (npS 3)) = true := by kernel_rfl
set_option maxRecDepth 100000 in
theorem c23863_4 : allBo (fun co => isNo (noRun Try.prog Go.Proofs.Ytnobdifmnoehbaa.sumM.mS 1000 60 92 23863 (wI 4) co)) (coOf (npS 4)) = true := by kernel_rfl
set_option maxRecDepth 100000 in
theorem c23863_5 : allBo (fun co => isNo (noRun Try.prog Go.Proofs.Ytnobdifmnoehbaa.sumM.mS 1000 60 92 23863 (wI 5) co)) (coOf (npS 5)) = true := by kernel_rfl
set_option maxRecDepth 100000 in
theorem c23863_6 : allBo (fun co => isNo (noRun Try.prog Go.Proofs.Ytnobdifmnoehbaa.sumM.mS 1000 60 92 23863 (wI 6) co)) (coOf (npS 6)) = true := by kernel_rfl
set_option maxRecDepth 100000 in
theorem b24055_0 : allBo (fun co => isNo (noRun Try.prog Go.Proofs.Ytnobdifmnoehbaa.sumM.mS 1000 60 92 24055 (wV 1 0 549755813887) co)) coAny = true := by kernel_rfl
set_option maxRecDepth 100000 in
theorem b24055_1 : allBo (fun co => isNo (noRun Try.prog Go.Proofs.Ytnobdifmnoehbaa.sumM.mS 1000 60 92 24055 (wV 1 549755813895 0) co)) coAny = true := by kernel_rfl
set_option maxRecDepth 100000 in
theorem c24055_0 : allBo (fun co => isNo (noRun Try.prog Go.Proofs.Ytnobdifmnoehbaa.sumM.mS 1000 60 92 24055 (wI 0) co)) (coOf (npS 0)) = true := by kernel_rfl
set_option maxRecDepth 100000 in
theorem c24055_1 : allBo (fun co => isNo (noRun Try.prog Go.Proofs.Ytnobdifmnoehbaa.sumM.mS 1000 60 92 24055 (wI 1) co)) (coOf (npS 1)) = true := by kernel_rfl
set_option maxRecDepth 100000 in
theorem c24055_2 : allBo (fun co => isNo (noRun Try.prog Go.Proofs.Ytnobdifmnoehbaa.sumM.mS 1000 60 92 24055 (wI 2) co)) (coOf (npS 2)) = true := by kernel_rfl
set_option maxRecDepth 100000 in
theorem c24055_3 : allBo (fun co => isNo (noRun Try.prog Go.Proofs.Ytnobdifmnoehbaa.sumM.mS 1000 60 92 24055 (wI 3) co)) (coOf (npS 3)) = true := by kernel_rfl
set_option maxRecDepth 100000 in
theorem c24055_4 : allBo (fun co => isNo (noRun Try.prog Go.Proofs.Ytnobdifmnoehbaa.sumM.mS 1000 60 92 24055 (wI 4) co)) (coOf (npS 4)) = true := by kernel_rfl
set_option maxRecDepth 100000 in
theorem c24055_5 : allBo (fun co => isNo (noRun Try.prog Go.Proofs.Ytnobdifmnoehbaa.sumM.mS 1000 60 92 24055 (wI 5) co)) (coOf (npS 5)) = true := by kernel_rfl
set_option maxRecDepth 100000 in
theorem c24055_6 : allBo (fun co => isNo (noRun Try.prog Go.Proofs.Ytnobdifmnoehbaa.sumM.mS 1000 60 92 24055 (wI 6) co)) (coOf (npS 6)) = true := by kernel_rfl
theorem h1 : ∀ x ∈ [375, ostrW 0 0 0], allBo (fun co => isNo (noRun Try.prog Go.Proofs.Ytnobdifmnoehbaa.sumM.mS 1000 60 92 x (wV 1 0 0) co)) coAny = true := List.forall_mem_cons.2 ⟨a0, List.forall_mem_cons.2 ⟨a1, List.forall_mem_nil _⟩⟩
theorem h2 : ∀ x ∈ ways5, ∀ y ∈ [wV 1 0 549755813887, wV 1 549755813895 0], allBo (fun co => isNo (noRun Try.prog Go.Proofs.Ytnobdifmnoehbaa.sumM.mS 1000 60 92 x y co)) coAny = true := by
  unfold ways5
  exact List.forall_mem_cons.2 ⟨List.forall_mem_cons.2 ⟨b23671_0, List.forall_mem_cons.2 ⟨b23671_1, List.forall_mem_nil _⟩⟩, List.forall_mem_cons.2 ⟨List.forall_mem_cons.2 ⟨b23159_0, List.forall_mem_cons.2 ⟨b23159_1, List.forall_mem_nil _⟩⟩, List.forall_mem_cons.2 ⟨List.forall_mem_cons.2 ⟨b23351_0, List.forall_mem_cons.2 ⟨b23351_1, List.forall_mem_nil _⟩⟩, List.forall_mem_cons.2 ⟨List.forall_mem_cons.2 ⟨b23863_0, List.forall_mem_cons.2 ⟨b23863_1, List.forall_mem_nil _⟩⟩, List.forall_mem_cons.2 ⟨List.forall_mem_cons.2 ⟨b24055_0, List.forall_mem_cons.2 ⟨b24055_1, List.forall_mem_nil _⟩⟩, List.forall_mem_nil _⟩⟩⟩⟩⟩
theorem h3 : ∀ x ∈ ways5, ∀ e ∈ degs7, allBo (fun co => isNo (noRun Try.prog Go.Proofs.Ytnobdifmnoehbaa.sumM.mS 1000 60 92 x (wI e) co)) (coOf (npS e)) = true := by
  unfold ways5 degs7
  exact List.forall_mem_cons.2 ⟨List.forall_mem_cons.2 ⟨c23671_0, List.forall_mem_cons.2 ⟨c23671_1, List.forall_mem_cons.2 ⟨c23671_2, List.forall_mem_cons.2 ⟨c23671_3, List.forall_mem_cons.2 ⟨c23671_4, List.forall_mem_cons.2 ⟨c23671_5, List.forall_mem_cons.2 ⟨c23671_6, List.forall_mem_nil _⟩⟩⟩⟩⟩⟩⟩, List.forall_mem_cons.2 ⟨List.forall_mem_cons.2 ⟨c23159_0, List.forall_mem_cons.2 ⟨c23159_1, List.forall_mem_cons.2 ⟨c23159_2, List.forall_mem_cons.2 ⟨c23159_3, List.forall_mem_cons.2 ⟨c23159_4, List.forall_mem_cons.2 ⟨c23159_5, List.forall_mem_cons.2 ⟨c23159_6, List.forall_mem_nil _⟩⟩⟩⟩⟩⟩⟩, List.forall_mem_cons.2 ⟨List.forall_mem_cons.2 ⟨c23351_0, List.forall_mem_cons.2 ⟨c23351_1, List.forall_mem_cons.2 ⟨c23351_2, List.forall_mem_cons.2 ⟨c23351_3, List.forall_mem_cons.2 ⟨c23351_4, List.forall_mem_cons.2 ⟨c23351_5, List.forall_mem_cons.2 ⟨c23351_6, List.forall_mem_nil _⟩⟩⟩⟩⟩⟩⟩, List.forall_mem_cons.2 ⟨List.forall_mem_cons.2 ⟨c23863_0, List.forall_mem_cons.2 ⟨c23863_1, List.forall_mem_cons.2 ⟨c23863_2, List.forall_mem_cons.2 ⟨c23863_3, List.forall_mem_cons.2 ⟨c23863_4, List.forall_mem_cons.2 ⟨c23863_5, List.forall_mem_cons.2 ⟨c23863_6, List.forall_mem_nil _⟩⟩⟩⟩⟩⟩⟩, List.forall_mem_cons.2 ⟨List.forall_mem_cons.2 ⟨c24055_0, List.forall_mem_cons.2 ⟨c24055_1, List.forall_mem_cons.2 ⟨c24055_2, List.forall_mem_cons.2 ⟨c24055_3, List.forall_mem_cons.2 ⟨c24055_4, List.forall_mem_cons.2 ⟨c24055_5, List.forall_mem_cons.2 ⟨c24055_6, List.forall_mem_nil _⟩⟩⟩⟩⟩⟩⟩, List.forall_mem_nil _⟩⟩⟩⟩⟩
end Go.Proofs.Ytnobdifmnoehbaa.sumNoin
