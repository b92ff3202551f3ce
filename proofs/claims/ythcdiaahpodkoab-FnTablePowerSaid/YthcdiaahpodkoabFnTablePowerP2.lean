/- Runs of the program at a seat. -/
import Derived.Test.YthcdiaahpodkoabFnTablePowerP
namespace Go.Proofs.Ythcdiaahpodkoab.fnTablePowerRuns
open Go Go.Eng
set_option linter.unusedVariables false
set_option linter.unusedSectionVars false
set_option linter.unusedSimpArgs false
set_option maxRecDepth 100000 in
theorem s_6_2 : chkQ run (.part 12299 fun _ => .of 400) [(8212, 1, 19), (4107, 2, 2), (7, 6, 6)] = true := by kernel_rfl
set_option maxRecDepth 100000 in
theorem o_6_2_0 : chkQ run (.part 16385 fun _ => .three 20540 (.of 400) (.of 400) (.of 400)) [(12295, 0, 0), (8212, 0, 0), (4107, 2, 2), (7, 6, 6)] = true := by kernel_rfl
set_option maxRecDepth 100000 in
theorem o_6_2_1 : chkQ run (.part 16385 fun _ => .three 20540 (.of 400) (.of 400) (.of 400)) [(12295, 1, 1), (8212, 0, 0), (4107, 2, 2), (7, 6, 6)] = true := by kernel_rfl
set_option maxRecDepth 100000 in
theorem o_6_2_2 : chkQ run (.part 16386 fun _ => .three 20540 (.of 400) (.of 400) (.of 400)) [(12295, 2, 2), (8212, 0, 0), (4107, 2, 2), (7, 6, 6)] = true := by kernel_rfl
set_option maxRecDepth 100000 in
theorem o_6_2_3 : chkQ run (.part 16387 fun _ => .three 20540 (.of 400) (.of 400) (.of 400)) [(12295, 3, 3), (8212, 0, 0), (4107, 2, 2), (7, 6, 6)] = true := by kernel_rfl
set_option maxRecDepth 100000 in
theorem o_6_2_4 : chkQ run (.part 16389 fun _ => .three 20540 (.of 400) (.of 400) (.of 400)) [(12295, 4, 4), (8212, 0, 0), (4107, 2, 2), (7, 6, 6)] = true := by kernel_rfl
set_option maxRecDepth 100000 in
theorem o_6_2_5 : chkQ run (.part 16391 fun _ => .three 20540 (.of 400) (.of 400) (.of 400)) [(12295, 5, 5), (8212, 0, 0), (4107, 2, 2), (7, 6, 6)] = true := by kernel_rfl
set_option maxRecDepth 100000 in
theorem o_6_2_6 : chkQ run (.part 16395 fun _ => .three 20540 (.of 400) (.of 400) (.of 400)) [(12295, 6, 6), (8212, 0, 0), (4107, 2, 2), (7, 6, 6)] = true := by kernel_rfl
theorem n_6_2 : Covers run [(4107, 2, 2), (7, 6, 6)] := Covers.two 8212 (by kernel_rfl) (Covers.part 12295 (by kernel_rfl) fun e he => by
  have h : e = 0 ∨ e = 1 ∨ e = 2 ∨ e = 3 ∨ e = 4 ∨ e = 5 ∨ e = 6 := by omega
  rcases h with rfl | rfl | rfl | rfl | rfl | rfl | rfl
  · exact .tree _ o_6_2_0
  · exact .tree _ o_6_2_1
  · exact .tree _ o_6_2_2
  · exact .tree _ o_6_2_3
  · exact .tree _ o_6_2_4
  · exact .tree _ o_6_2_5
  · exact .tree _ o_6_2_6
  ) (.tree _ s_6_2)
set_option maxRecDepth 100000 in
theorem s_6_6 : chkQ run (.part 12299 fun _ => .of 400) [(8212, 1, 19), (4107, 6, 6), (7, 6, 6)] = true := by kernel_rfl
set_option maxRecDepth 100000 in
theorem o_6_6_0 : chkQ run (.part 16385 fun _ => .three 20540 (.of 400) (.of 400) (.of 400)) [(12295, 0, 0), (8212, 0, 0), (4107, 6, 6), (7, 6, 6)] = true := by kernel_rfl
set_option maxRecDepth 100000 in
theorem o_6_6_1 : chkQ run (.part 16385 fun _ => .three 20540 (.of 400) (.of 400) (.of 400)) [(12295, 1, 1), (8212, 0, 0), (4107, 6, 6), (7, 6, 6)] = true := by kernel_rfl
set_option maxRecDepth 100000 in
theorem o_6_6_2 : chkQ run (.part 16386 fun _ => .three 20540 (.of 400) (.of 400) (.of 400)) [(12295, 2, 2), (8212, 0, 0), (4107, 6, 6), (7, 6, 6)] = true := by kernel_rfl
set_option maxRecDepth 100000 in
theorem o_6_6_3 : chkQ run (.part 16387 fun _ => .three 20540 (.of 400) (.of 400) (.of 400)) [(12295, 3, 3), (8212, 0, 0), (4107, 6, 6), (7, 6, 6)] = true := by kernel_rfl
set_option maxRecDepth 100000 in
theorem o_6_6_4 : chkQ run (.part 16389 fun _ => .three 20540 (.of 400) (.of 400) (.of 400)) [(12295, 4, 4), (8212, 0, 0), (4107, 6, 6), (7, 6, 6)] = true := by kernel_rfl
set_option maxRecDepth 100000 in
theorem o_6_6_5 : chkQ run (.part 16391 fun _ => .three 20540 (.of 400) (.of 400) (.of 400)) [(12295, 5, 5), (8212, 0, 0), (4107, 6, 6), (7, 6, 6)] = true := by kernel_rfl
set_option maxRecDepth 100000 in
theorem o_6_6_6 : chkQ run (.part 16395 fun _ => .three 20540 (.of 400) (.of 400) (.of 400)) [(12295, 6, 6), (8212, 0, 0), (4107, 6, 6), (7, 6, 6)] = true := by kernel_rfl
theorem n_6_6 : Covers run [(4107, 6, 6), (7, 6, 6)] := Covers.two 8212 (by kernel_rfl) (Covers.part 12295 (by kernel_rfl) fun e he => by
  have h : e = 0 ∨ e = 1 ∨ e = 2 ∨ e = 3 ∨ e = 4 ∨ e = 5 ∨ e = 6 := by omega
  rcases h with rfl | rfl | rfl | rfl | rfl | rfl | rfl
  · exact .tree _ o_6_6_0
  · exact .tree _ o_6_6_1
  · exact .tree _ o_6_6_2
  · exact .tree _ o_6_6_3
  · exact .tree _ o_6_6_4
  · exact .tree _ o_6_6_5
  · exact .tree _ o_6_6_6
  ) (.tree _ s_6_6)
set_option maxRecDepth 100000 in
theorem s_6_10 : chkQ run (.part 12299 fun _ => .of 400) [(8212, 1, 19), (4107, 10, 10), (7, 6, 6)] = true := by kernel_rfl
set_option maxRecDepth 100000 in
theorem o_6_10_0 : chkQ run (.part 16385 fun _ => .three 20540 (.of 400) (.of 400) (.of 400)) [(12295, 0, 0), (8212, 0, 0), (4107, 10, 10), (7, 6, 6)] = true := by kernel_rfl
set_option maxRecDepth 100000 in
theorem o_6_10_1 : chkQ run (.part 16385 fun _ => .three 20540 (.of 400) (.of 400) (.of 400)) [(12295, 1, 1), (8212, 0, 0), (4107, 10, 10), (7, 6, 6)] = true := by kernel_rfl
set_option maxRecDepth 100000 in
theorem o_6_10_2 : chkQ run (.part 16386 fun _ => .three 20540 (.of 400) (.of 400) (.of 400)) [(12295, 2, 2), (8212, 0, 0), (4107, 10, 10), (7, 6, 6)] = true := by kernel_rfl
set_option maxRecDepth 100000 in
theorem o_6_10_3 : chkQ run (.part 16387 fun _ => .three 20540 (.of 400) (.of 400) (.of 400)) [(12295, 3, 3), (8212, 0, 0), (4107, 10, 10), (7, 6, 6)] = true := by kernel_rfl
set_option maxRecDepth 100000 in
theorem o_6_10_4 : chkQ run (.part 16389 fun _ => .three 20540 (.of 400) (.of 400) (.of 400)) [(12295, 4, 4), (8212, 0, 0), (4107, 10, 10), (7, 6, 6)] = true := by kernel_rfl
set_option maxRecDepth 100000 in
theorem o_6_10_5 : chkQ run (.part 16391 fun _ => .three 20540 (.of 400) (.of 400) (.of 400)) [(12295, 5, 5), (8212, 0, 0), (4107, 10, 10), (7, 6, 6)] = true := by kernel_rfl
set_option maxRecDepth 100000 in
theorem o_6_10_6 : chkQ run (.part 16395 fun _ => .three 20540 (.of 400) (.of 400) (.of 400)) [(12295, 6, 6), (8212, 0, 0), (4107, 10, 10), (7, 6, 6)] = true := by kernel_rfl
theorem n_6_10 : Covers run [(4107, 10, 10), (7, 6, 6)] := Covers.two 8212 (by kernel_rfl) (Covers.part 12295 (by kernel_rfl) fun e he => by
  have h : e = 0 ∨ e = 1 ∨ e = 2 ∨ e = 3 ∨ e = 4 ∨ e = 5 ∨ e = 6 := by omega
  rcases h with rfl | rfl | rfl | rfl | rfl | rfl | rfl
  · exact .tree _ o_6_10_0
  · exact .tree _ o_6_10_1
  · exact .tree _ o_6_10_2
  · exact .tree _ o_6_10_3
  · exact .tree _ o_6_10_4
  · exact .tree _ o_6_10_5
  · exact .tree _ o_6_10_6
  ) (.tree _ s_6_10)
set_option maxRecDepth 100000 in
theorem s_5_3 : chkQ run (.part 12295 fun _ => .of 400) [(8212, 1, 19), (4103, 3, 3), (7, 5, 5)] = true := by kernel_rfl
set_option maxRecDepth 100000 in
theorem o_5_3_0 : chkQ run (.part 16385 fun _ => .three 20540 (.of 400) (.of 400) (.of 400)) [(12295, 0, 0), (8212, 0, 0), (4103, 3, 3), (7, 5, 5)] = true := by kernel_rfl
set_option maxRecDepth 100000 in
theorem o_5_3_1 : chkQ run (.part 16385 fun _ => .three 20540 (.of 400) (.of 400) (.of 400)) [(12295, 1, 1), (8212, 0, 0), (4103, 3, 3), (7, 5, 5)] = true := by kernel_rfl
set_option maxRecDepth 100000 in
theorem o_5_3_2 : chkQ run (.part 16386 fun _ => .three 20540 (.of 400) (.of 400) (.of 400)) [(12295, 2, 2), (8212, 0, 0), (4103, 3, 3), (7, 5, 5)] = true := by kernel_rfl
set_option maxRecDepth 100000 in
theorem o_5_3_3 : chkQ run (.part 16387 fun _ => .three 20540 (.of 400) (.of 400) (.of 400)) [(12295, 3, 3), (8212, 0, 0), (4103, 3, 3), (7, 5, 5)] = true := by kernel_rfl
set_option maxRecDepth 100000 in
theorem o_5_3_4 : chkQ run (.part 16389 fun _ => .three 20540 (.of 400) (.of 400) (.of 400)) [(12295, 4, 4), (8212, 0, 0), (4103, 3, 3), (7, 5, 5)] = true := by kernel_rfl
set_option maxRecDepth 100000 in
theorem o_5_3_5 : chkQ run (.part 16391 fun _ => .three 20540 (.of 400) (.of 400) (.of 400)) [(12295, 5, 5), (8212, 0, 0), (4103, 3, 3), (7, 5, 5)] = true := by kernel_rfl
set_option maxRecDepth 100000 in
theorem o_5_3_6 : chkQ run (.part 16395 fun _ => .three 20540 (.of 400) (.of 400) (.of 400)) [(12295, 6, 6), (8212, 0, 0), (4103, 3, 3), (7, 5, 5)] = true := by kernel_rfl
theorem n_5_3 : Covers run [(4103, 3, 3), (7, 5, 5)] := Covers.two 8212 (by kernel_rfl) (Covers.part 12295 (by kernel_rfl) fun e he => by
  have h : e = 0 ∨ e = 1 ∨ e = 2 ∨ e = 3 ∨ e = 4 ∨ e = 5 ∨ e = 6 := by omega
  rcases h with rfl | rfl | rfl | rfl | rfl | rfl | rfl
  · exact .tree _ o_5_3_0
  · exact .tree _ o_5_3_1
  · exact .tree _ o_5_3_2
  · exact .tree _ o_5_3_3
  · exact .tree _ o_5_3_4
  · exact .tree _ o_5_3_5
  · exact .tree _ o_5_3_6
  ) (.tree _ s_5_3)
set_option maxRecDepth 100000 in
theorem s_4_0 : chkQ run (.part 12293 fun _ => .of 400) [(8212, 1, 19), (4101, 0, 0), (7, 4, 4)] = true := by kernel_rfl
set_option maxRecDepth 100000 in
theorem o_4_0_0 : chkQ run (.part 16385 fun _ => .three 20540 (.of 400) (.of 400) (.of 400)) [(12295, 0, 0), (8212, 0, 0), (4101, 0, 0), (7, 4, 4)] = true := by kernel_rfl
set_option maxRecDepth 100000 in
theorem o_4_0_1 : chkQ run (.part 16385 fun _ => .three 20540 (.of 400) (.of 400) (.of 400)) [(12295, 1, 1), (8212, 0, 0), (4101, 0, 0), (7, 4, 4)] = true := by kernel_rfl
set_option maxRecDepth 100000 in
theorem o_4_0_2 : chkQ run (.part 16386 fun _ => .three 20540 (.of 400) (.of 400) (.of 400)) [(12295, 2, 2), (8212, 0, 0), (4101, 0, 0), (7, 4, 4)] = true := by kernel_rfl
set_option maxRecDepth 100000 in
theorem o_4_0_3 : chkQ run (.part 16387 fun _ => .three 20540 (.of 400) (.of 400) (.of 400)) [(12295, 3, 3), (8212, 0, 0), (4101, 0, 0), (7, 4, 4)] = true := by kernel_rfl
set_option maxRecDepth 100000 in
theorem o_4_0_4 : chkQ run (.part 16389 fun _ => .three 20540 (.of 400) (.of 400) (.of 400)) [(12295, 4, 4), (8212, 0, 0), (4101, 0, 0), (7, 4, 4)] = true := by kernel_rfl
set_option maxRecDepth 100000 in
theorem o_4_0_5 : chkQ run (.part 16391 fun _ => .three 20540 (.of 400) (.of 400) (.of 400)) [(12295, 5, 5), (8212, 0, 0), (4101, 0, 0), (7, 4, 4)] = true := by kernel_rfl
set_option maxRecDepth 100000 in
theorem o_4_0_6 : chkQ run (.part 16395 fun _ => .three 20540 (.of 400) (.of 400) (.of 400)) [(12295, 6, 6), (8212, 0, 0), (4101, 0, 0), (7, 4, 4)] = true := by kernel_rfl
theorem n_4_0 : Covers run [(4101, 0, 0), (7, 4, 4)] := Covers.two 8212 (by kernel_rfl) (Covers.part 12295 (by kernel_rfl) fun e he => by
  have h : e = 0 ∨ e = 1 ∨ e = 2 ∨ e = 3 ∨ e = 4 ∨ e = 5 ∨ e = 6 := by omega
  rcases h with rfl | rfl | rfl | rfl | rfl | rfl | rfl
  · exact .tree _ o_4_0_0
  · exact .tree _ o_4_0_1
  · exact .tree _ o_4_0_2
  · exact .tree _ o_4_0_3
  · exact .tree _ o_4_0_4
  · exact .tree _ o_4_0_5
  · exact .tree _ o_4_0_6
  ) (.tree _ s_4_0)
set_option maxRecDepth 100000 in
theorem s_4_4 : chkQ run (.part 12293 fun _ => .of 400) [(8212, 1, 19), (4101, 4, 4), (7, 4, 4)] = true := by kernel_rfl
set_option maxRecDepth 100000 in
theorem o_4_4_0 : chkQ run (.part 16385 fun _ => .three 20540 (.of 400) (.of 400) (.of 400)) [(12295, 0, 0), (8212, 0, 0), (4101, 4, 4), (7, 4, 4)] = true := by kernel_rfl
set_option maxRecDepth 100000 in
theorem o_4_4_1 : chkQ run (.part 16385 fun _ => .three 20540 (.of 400) (.of 400) (.of 400)) [(12295, 1, 1), (8212, 0, 0), (4101, 4, 4), (7, 4, 4)] = true := by kernel_rfl
set_option maxRecDepth 100000 in
theorem o_4_4_2 : chkQ run (.part 16386 fun _ => .three 20540 (.of 400) (.of 400) (.of 400)) [(12295, 2, 2), (8212, 0, 0), (4101, 4, 4), (7, 4, 4)] = true := by kernel_rfl
set_option maxRecDepth 100000 in
theorem o_4_4_3 : chkQ run (.part 16387 fun _ => .three 20540 (.of 400) (.of 400) (.of 400)) [(12295, 3, 3), (8212, 0, 0), (4101, 4, 4), (7, 4, 4)] = true := by kernel_rfl
set_option maxRecDepth 100000 in
theorem o_4_4_4 : chkQ run (.part 16389 fun _ => .three 20540 (.of 400) (.of 400) (.of 400)) [(12295, 4, 4), (8212, 0, 0), (4101, 4, 4), (7, 4, 4)] = true := by kernel_rfl
set_option maxRecDepth 100000 in
theorem o_4_4_5 : chkQ run (.part 16391 fun _ => .three 20540 (.of 400) (.of 400) (.of 400)) [(12295, 5, 5), (8212, 0, 0), (4101, 4, 4), (7, 4, 4)] = true := by kernel_rfl
set_option maxRecDepth 100000 in
theorem o_4_4_6 : chkQ run (.part 16395 fun _ => .three 20540 (.of 400) (.of 400) (.of 400)) [(12295, 6, 6), (8212, 0, 0), (4101, 4, 4), (7, 4, 4)] = true := by kernel_rfl
theorem n_4_4 : Covers run [(4101, 4, 4), (7, 4, 4)] := Covers.two 8212 (by kernel_rfl) (Covers.part 12295 (by kernel_rfl) fun e he => by
  have h : e = 0 ∨ e = 1 ∨ e = 2 ∨ e = 3 ∨ e = 4 ∨ e = 5 ∨ e = 6 := by omega
  rcases h with rfl | rfl | rfl | rfl | rfl | rfl | rfl
  · exact .tree _ o_4_4_0
  · exact .tree _ o_4_4_1
  · exact .tree _ o_4_4_2
  · exact .tree _ o_4_4_3
  · exact .tree _ o_4_4_4
  · exact .tree _ o_4_4_5
  · exact .tree _ o_4_4_6
  ) (.tree _ s_4_4)
set_option maxRecDepth 100000 in
theorem s_2_0 : chkQ run (.part 12290 fun _ => .of 400) [(8212, 1, 19), (4098, 0, 0), (7, 2, 2)] = true := by kernel_rfl
set_option maxRecDepth 100000 in
theorem o_2_0_0 : chkQ run (.part 16385 fun _ => .three 20540 (.of 400) (.of 400) (.of 400)) [(12295, 0, 0), (8212, 0, 0), (4098, 0, 0), (7, 2, 2)] = true := by kernel_rfl
set_option maxRecDepth 100000 in
theorem o_2_0_1 : chkQ run (.part 16385 fun _ => .three 20540 (.of 400) (.of 400) (.of 400)) [(12295, 1, 1), (8212, 0, 0), (4098, 0, 0), (7, 2, 2)] = true := by kernel_rfl
set_option maxRecDepth 100000 in
theorem o_2_0_2 : chkQ run (.part 16386 fun _ => .three 20540 (.of 400) (.of 400) (.of 400)) [(12295, 2, 2), (8212, 0, 0), (4098, 0, 0), (7, 2, 2)] = true := by kernel_rfl
set_option maxRecDepth 100000 in
theorem o_2_0_3 : chkQ run (.part 16387 fun _ => .three 20540 (.of 400) (.of 400) (.of 400)) [(12295, 3, 3), (8212, 0, 0), (4098, 0, 0), (7, 2, 2)] = true := by kernel_rfl
set_option maxRecDepth 100000 in
theorem o_2_0_4 : chkQ run (.part 16389 fun _ => .three 20540 (.of 400) (.of 400) (.of 400)) [(12295, 4, 4), (8212, 0, 0), (4098, 0, 0), (7, 2, 2)] = true := by kernel_rfl
set_option maxRecDepth 100000 in
theorem o_2_0_5 : chkQ run (.part 16391 fun _ => .three 20540 (.of 400) (.of 400) (.of 400)) [(12295, 5, 5), (8212, 0, 0), (4098, 0, 0), (7, 2, 2)] = true := by kernel_rfl
set_option maxRecDepth 100000 in
theorem o_2_0_6 : chkQ run (.part 16395 fun _ => .three 20540 (.of 400) (.of 400) (.of 400)) [(12295, 6, 6), (8212, 0, 0), (4098, 0, 0), (7, 2, 2)] = true := by kernel_rfl
theorem n_2_0 : Covers run [(4098, 0, 0), (7, 2, 2)] := Covers.two 8212 (by kernel_rfl) (Covers.part 12295 (by kernel_rfl) fun e he => by
  have h : e = 0 ∨ e = 1 ∨ e = 2 ∨ e = 3 ∨ e = 4 ∨ e = 5 ∨ e = 6 := by omega
  rcases h with rfl | rfl | rfl | rfl | rfl | rfl | rfl
  · exact .tree _ o_2_0_0
  · exact .tree _ o_2_0_1
  · exact .tree _ o_2_0_2
  · exact .tree _ o_2_0_3
  · exact .tree _ o_2_0_4
  · exact .tree _ o_2_0_5
  · exact .tree _ o_2_0_6
  ) (.tree _ s_2_0)
end Go.Proofs.Ythcdiaahpodkoab.fnTablePowerRuns
