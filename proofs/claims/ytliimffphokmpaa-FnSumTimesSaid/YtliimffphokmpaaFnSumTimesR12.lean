/- Runs of the program at a seat. -/
import Derived.Test.YtliimffphokmpaaFnSumTimesR9
import Derived.Test.YtliimffphokmpaaFnSumTimesR10
import Derived.Test.YtliimffphokmpaaFnSumTimesR11
namespace Go.Proofs.Ytliimffphokmpaa.fnSumTimesRuns
open Go Go.Eng
set_option linter.unusedVariables false
set_option linter.unusedSectionVars false
set_option linter.unusedSimpArgs false
set_option maxRecDepth 100000
open Go.Proofs.Ytliimffphokmpaa.dssumtimes
theorem gu_6 : Good u_6 := .part 14 549755813885 549755813891 [(549755813885, 549755813885), (549755813886, 549755813886), (549755813887, 549755813889), (549755813890, 549755813891)] (by decide) (by decide) (by kernel_rfl) (cm h_6_0 (cm h_6_1 (cm gu_7 (cm h_6_2 (nm)))))
theorem gu_5 : Good u_5 := .part 13 549755813885 549755813891 [(549755813885, 549755813885), (549755813886, 549755813886), (549755813887, 549755813889), (549755813890, 549755813891)] (by decide) (by decide) (by kernel_rfl) (cm h_5_0 (cm h_5_1 (cm gu_6 (cm h_5_2 (nm)))))
theorem gu_4 : Good u_4 := .part 12 549755813885 549755813891 [(549755813885, 549755813885), (549755813886, 549755813886), (549755813887, 549755813889), (549755813890, 549755813891)] (by decide) (by decide) (by kernel_rfl) (cm h_4_0 (cm h_4_1 (cm gu_5 (cm h_4_2 (nm)))))
theorem gu_3 : Good u_3 := .part 11 549755813885 549755813891 [(549755813885, 549755813885), (549755813886, 549755813886), (549755813887, 549755813889), (549755813890, 549755813891)] (by decide) (by decide) (by kernel_rfl) (cm h_3_0 (cm h_3_1 (cm gu_4 (cm h_3_2 (nm)))))
theorem gu_2 : Good u_2 := .part 10 549755813885 549755813891 [(549755813885, 549755813885), (549755813886, 549755813886), (549755813887, 549755813889), (549755813890, 549755813891)] (by decide) (by decide) (by kernel_rfl) (cm h_2_0 (cm h_2_1 (cm gu_3 (cm h_2_2 (nm)))))
theorem gu_1 : Good u_1 := .part 9 549755813885 549755813891 [(549755813885, 549755813885), (549755813886, 549755813886), (549755813887, 549755813889), (549755813890, 549755813891)] (by decide) (by decide) (by kernel_rfl) (cm h_1_0 (cm h_1_1 (cm gu_2 (cm h_1_2 (nm)))))
theorem gu_0 : Good u_0 := .part 8 549755813885 549755813891 [(549755813885, 549755813885), (549755813886, 549755813886), (549755813887, 549755813889), (549755813890, 549755813891)] (by decide) (by decide) (by kernel_rfl) (cm h_0_0 (cm h_0_1 (cm gu_1 (cm h_0_2 (nm)))))
theorem g_a2_5_1_0 : Good (subL (wV (pvIx 4) 549756813884 549756813892) (pieceW 4 (549756813884, 549756813888)) t_a2_5_1) := gu_0
end Go.Proofs.Ytliimffphokmpaa.fnSumTimesRuns
