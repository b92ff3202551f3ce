/- Runs of the program at a seat. -/
import Derived.Test.YthcdiaahpodkoabFnTablePowerP
namespace Go.Proofs.Ythcdiaahpodkoab.fnTablePowerRuns
open Go Go.Eng
set_option linter.unusedVariables false
set_option linter.unusedSectionVars false
set_option linter.unusedSimpArgs false
set_option maxRecDepth 100000 in
theorem s_6_3 : chkQ run (.part 12299 fun _ => .of 400) [(8212, 1, 19), (4107, 3, 3), (7, 6, 6)] = true := by kernel_rfl
set_option maxRecDepth 100000 in
theorem o_6_3_0 : chkQ run (.part 16385 fun _ => .three 20540 (.of 400) (.of 400) (.of 400)) [(12295, 0, 0), (8212, 0, 0), (4107, 3, 3), (7, 6, 6)] = true := by kernel_rfl
set_option maxRecDepth 100000 in
theorem o_6_3_1 : chkQ run (.part 16385 fun _ => .three 20540 (.of 400) (.of 400) (.of 400)) [(12295, 1, 1), (8212, 0, 0), (4107, 3, 3), (7, 6, 6)] = true := by kernel_rfl
set_option maxRecDepth 100000 in
theorem o_6_3_2 : chkQ run (.part 16386 fun _ => .three 20540 (.of 400) (.of 400) (.of 400)) [(12295, 2, 2), (8212, 0, 0), (4107, 3, 3), (7, 6, 6)] = true := by kernel_rfl
set_option maxRecDepth 100000 in
theorem o_6_3_3 : chkQ run (.part 16387 fun _ => .three 20540 (.of 400) (.of 400) (.of 400)) [(12295, 3, 3), (8212, 0, 0), (4107, 3, 3), (7, 6, 6)] = true := by kernel_rfl
set_option maxRecDepth 100000 in
theorem o_6_3_4 : chkQ run (.part 16389 fun _ => .three 20540 (.of 400) (.of 400) (.of 400)) [(12295, 4, 4), (8212, 0, 0), (4107, 3, 3), (7, 6, 6)] = true := by kernel_rfl
set_option maxRecDepth 100000 in
theorem o_6_3_5 : chkQ run (.part 16391 fun _ => .three 20540 (.of 400) (.of 400) (.of 400)) [(12295, 5, 5), (8212, 0, 0), (4107, 3, 3), (7, 6, 6)] = true := by kernel_rfl
set_option maxRecDepth 100000 in
theorem o_6_3_6 : chkQ run (.part 16395 fun _ => .three 20540 (.of 400) (.of 400) (.of 400)) [(12295, 6, 6), (8212, 0, 0), (4107, 3, 3), (7, 6, 6)] = true := by kernel_rfl
theorem n_6_3 : Covers run [(4107, 3, 3), (7, 6, 6)] := Covers.two 8212 (by kernel_rfl) (Covers.part 12295 (by kernel_rfl) fun e he => by
  have h : e = 0 ∨ e = 1 ∨ e = 2 ∨ e = 3 ∨ e = 4 ∨ e = 5 ∨ e = 6 := by omega
  rcases h with rfl | rfl | rfl | rfl | rfl | rfl | rfl
  · exact .tree _ o_6_3_0
  · exact .tree _ o_6_3_1
  · exact .tree _ o_6_3_2
  · exact .tree _ o_6_3_3
  · exact .tree _ o_6_3_4
  · exact .tree _ o_6_3_5
  · exact .tree _ o_6_3_6
  ) (.tree _ s_6_3)
set_option maxRecDepth 100000 in
theorem s_6_7 : chkQ run (.part 12299 fun _ => .of 400) [(8212, 1, 19), (4107, 7, 7), (7, 6, 6)] = true := by kernel_rfl
set_option maxRecDepth 100000 in
theorem o_6_7_0 : chkQ run (.part 16385 fun _ => .three 20540 (.of 400) (.of 400) (.of 400)) [(12295, 0, 0), (8212, 0, 0), (4107, 7, 7), (7, 6, 6)] = true := by kernel_rfl
set_option maxRecDepth 100000 in
theorem o_6_7_1 : chkQ run (.part 16385 fun _ => .three 20540 (.of 400) (.of 400) (.of 400)) [(12295, 1, 1), (8212, 0, 0), (4107, 7, 7), (7, 6, 6)] = true := by kernel_rfl
set_option maxRecDepth 100000 in
theorem o_6_7_2 : chkQ run (.part 16386 fun _ => .three 20540 (.of 400) (.of 400) (.of 400)) [(12295, 2, 2), (8212, 0, 0), (4107, 7, 7), (7, 6, 6)] = true := by kernel_rfl
set_option maxRecDepth 100000 in
theorem o_6_7_3 : chkQ run (.part 16387 fun _ => .three 20540 (.of 400) (.of 400) (.of 400)) [(12295, 3, 3), (8212, 0, 0), (4107, 7, 7), (7, 6, 6)] = true := by kernel_rfl
set_option maxRecDepth 100000 in
theorem o_6_7_4 : chkQ run (.part 16389 fun _ => .three 20540 (.of 400) (.of 400) (.of 400)) [(12295, 4, 4), (8212, 0, 0), (4107, 7, 7), (7, 6, 6)] = true := by kernel_rfl
set_option maxRecDepth 100000 in
theorem o_6_7_5 : chkQ run (.part 16391 fun _ => .three 20540 (.of 400) (.of 400) (.of 400)) [(12295, 5, 5), (8212, 0, 0), (4107, 7, 7), (7, 6, 6)] = true := by kernel_rfl
set_option maxRecDepth 100000 in
theorem o_6_7_6 : chkQ run (.part 16395 fun _ => .three 20540 (.of 400) (.of 400) (.of 400)) [(12295, 6, 6), (8212, 0, 0), (4107, 7, 7), (7, 6, 6)] = true := by kernel_rfl
theorem n_6_7 : Covers run [(4107, 7, 7), (7, 6, 6)] := Covers.two 8212 (by kernel_rfl) (Covers.part 12295 (by kernel_rfl) fun e he => by
  have h : e = 0 ∨ e = 1 ∨ e = 2 ∨ e = 3 ∨ e = 4 ∨ e = 5 ∨ e = 6 := by omega
  rcases h with rfl | rfl | rfl | rfl | rfl | rfl | rfl
  · exact .tree _ o_6_7_0
  · exact .tree _ o_6_7_1
  · exact .tree _ o_6_7_2
  · exact .tree _ o_6_7_3
  · exact .tree _ o_6_7_4
  · exact .tree _ o_6_7_5
  · exact .tree _ o_6_7_6
  ) (.tree _ s_6_7)
set_option maxRecDepth 100000 in
theorem s_5_0 : chkQ run (.part 12295 fun _ => .of 400) [(8212, 1, 19), (4103, 0, 0), (7, 5, 5)] = true := by kernel_rfl
set_option maxRecDepth 100000 in
theorem o_5_0_0 : chkQ run (.part 16385 fun _ => .three 20540 (.of 400) (.of 400) (.of 400)) [(12295, 0, 0), (8212, 0, 0), (4103, 0, 0), (7, 5, 5)] = true := by kernel_rfl
set_option maxRecDepth 100000 in
theorem o_5_0_1 : chkQ run (.part 16385 fun _ => .three 20540 (.of 400) (.of 400) (.of 400)) [(12295, 1, 1), (8212, 0, 0), (4103, 0, 0), (7, 5, 5)] = true := by kernel_rfl
set_option maxRecDepth 100000 in
theorem o_5_0_2 : chkQ run (.part 16386 fun _ => .three 20540 (.of 400) (.of 400) (.of 400)) [(12295, 2, 2), (8212, 0, 0), (4103, 0, 0), (7, 5, 5)] = true := by kernel_rfl
set_option maxRecDepth 100000 in
theorem o_5_0_3 : chkQ run (.part 16387 fun _ => .three 20540 (.of 400) (.of 400) (.of 400)) [(12295, 3, 3), (8212, 0, 0), (4103, 0, 0), (7, 5, 5)] = true := by kernel_rfl
set_option maxRecDepth 100000 in
theorem o_5_0_4 : chkQ run (.part 16389 fun _ => .three 20540 (.of 400) (.of 400) (.of 400)) [(12295, 4, 4), (8212, 0, 0), (4103, 0, 0), (7, 5, 5)] = true := by kernel_rfl
set_option maxRecDepth 100000 in
theorem o_5_0_5 : chkQ run (.part 16391 fun _ => .three 20540 (.of 400) (.of 400) (.of 400)) [(12295, 5, 5), (8212, 0, 0), (4103, 0, 0), (7, 5, 5)] = true := by kernel_rfl
set_option maxRecDepth 100000 in
theorem o_5_0_6 : chkQ run (.part 16395 fun _ => .three 20540 (.of 400) (.of 400) (.of 400)) [(12295, 6, 6), (8212, 0, 0), (4103, 0, 0), (7, 5, 5)] = true := by kernel_rfl
theorem n_5_0 : Covers run [(4103, 0, 0), (7, 5, 5)] := Covers.two 8212 (by kernel_rfl) (Covers.part 12295 (by kernel_rfl) fun e he => by
  have h : e = 0 ∨ e = 1 ∨ e = 2 ∨ e = 3 ∨ e = 4 ∨ e = 5 ∨ e = 6 := by omega
  rcases h with rfl | rfl | rfl | rfl | rfl | rfl | rfl
  · exact .tree _ o_5_0_0
  · exact .tree _ o_5_0_1
  · exact .tree _ o_5_0_2
  · exact .tree _ o_5_0_3
  · exact .tree _ o_5_0_4
  · exact .tree _ o_5_0_5
  · exact .tree _ o_5_0_6
  ) (.tree _ s_5_0)
set_option maxRecDepth 100000 in
theorem s_5_4 : chkQ run (.part 12295 fun _ => .of 400) [(8212, 1, 19), (4103, 4, 4), (7, 5, 5)] = true := by kernel_rfl
set_option maxRecDepth 100000 in
theorem o_5_4_0 : chkQ run (.part 16385 fun _ => .three 20540 (.of 400) (.of 400) (.of 400)) [(12295, 0, 0), (8212, 0, 0), (4103, 4, 4), (7, 5, 5)] = true := by kernel_rfl
set_option maxRecDepth 100000 in
theorem o_5_4_1 : chkQ run (.part 16385 fun _ => .three 20540 (.of 400) (.of 400) (.of 400)) [(12295, 1, 1), (8212, 0, 0), (4103, 4, 4), (7, 5, 5)] = true := by kernel_rfl
set_option maxRecDepth 100000 in
theorem o_5_4_2 : chkQ run (.part 16386 fun _ => .three 20540 (.of 400) (.of 400) (.of 400)) [(12295, 2, 2), (8212, 0, 0), (4103, 4, 4), (7, 5, 5)] = true := by kernel_rfl
set_option maxRecDepth 100000 in
theorem o_5_4_3 : chkQ run (.part 16387 fun _ => .three 20540 (.of 400) (.of 400) (.of 400)) [(12295, 3, 3), (8212, 0, 0), (4103, 4, 4), (7, 5, 5)] = true := by kernel_rfl
set_option maxRecDepth 100000 in
theorem o_5_4_4 : chkQ run (.part 16389 fun _ => .three 20540 (.of 400) (.of 400) (.of 400)) [(12295, 4, 4), (8212, 0, 0), (4103, 4, 4), (7, 5, 5)] = true := by kernel_rfl
set_option maxRecDepth 100000 in
theorem o_5_4_5 : chkQ run (.part 16391 fun _ => .three 20540 (.of 400) (.of 400) (.of 400)) [(12295, 5, 5), (8212, 0, 0), (4103, 4, 4), (7, 5, 5)] = true := by kernel_rfl
set_option maxRecDepth 100000 in
theorem o_5_4_6 : chkQ run (.part 16395 fun _ => .three 20540 (.of 400) (.of 400) (.of 400)) [(12295, 6, 6), (8212, 0, 0), (4103, 4, 4), (7, 5, 5)] = true := by kernel_rfl
theorem n_5_4 : Covers run [(4103, 4, 4), (7, 5, 5)] := Covers.two 8212 (by kernel_rfl) (Covers.part 12295 (by kernel_rfl) fun e he => by
  have h : e = 0 ∨ e = 1 ∨ e = 2 ∨ e = 3 ∨ e = 4 ∨ e = 5 ∨ e = 6 := by omega
  rcases h with rfl | rfl | rfl | rfl | rfl | rfl | rfl
  · exact .tree _ o_5_4_0
  · exact .tree _ o_5_4_1
  · exact .tree _ o_5_4_2
  · exact .tree _ o_5_4_3
  · exact .tree _ o_5_4_4
  · exact .tree _ o_5_4_5
  · exact .tree _ o_5_4_6
  ) (.tree _ s_5_4)
set_option maxRecDepth 100000 in
theorem s_4_1 : chkQ run (.part 12293 fun _ => .of 400) [(8212, 1, 19), (4101, 1, 1), (7, 4, 4)] = true := by kernel_rfl
set_option maxRecDepth 100000 in
theorem o_4_1_0 : chkQ run (.part 16385 fun _ => .three 20540 (.of 400) (.of 400) (.of 400)) [(12295, 0, 0), (8212, 0, 0), (4101, 1, 1), (7, 4, 4)] = true := by kernel_rfl
set_option maxRecDepth 100000 in
theorem o_4_1_1 : chkQ run (.part 16385 fun _ => .three 20540 (.of 400) (.of 400) (.of 400)) [(12295, 1, 1), (8212, 0, 0), (4101, 1, 1), (7, 4, 4)] = true := by kernel_rfl
set_option maxRecDepth 100000 in
theorem o_4_1_2 : chkQ run (.part 16386 fun _ => .three 20540 (.of 400) (.of 400) (.of 400)) [(12295, 2, 2), (8212, 0, 0), (4101, 1, 1), (7, 4, 4)] = true := by kernel_rfl
set_option maxRecDepth 100000 in
theorem o_4_1_3 : chkQ run (.part 16387 fun _ => .three 20540 (.of 400) (.of 400) (.of 400)) [(12295, 3, 3), (8212, 0, 0), (4101, 1, 1), (7, 4, 4)] = true := by kernel_rfl
set_option maxRecDepth 100000 in
theorem o_4_1_4 : chkQ run (.part 16389 fun _ => .three 20540 (.of 400) (.of 400) (.of 400)) [(12295, 4, 4), (8212, 0, 0), (4101, 1, 1), (7, 4, 4)] = true := by kernel_rfl
set_option maxRecDepth 100000 in
theorem o_4_1_5 : chkQ run (.part 16391 fun _ => .three 20540 (.of 400) (.of 400) (.of 400)) [(12295, 5, 5), (8212, 0, 0), (4101, 1, 1), (7, 4, 4)] = true := by kernel_rfl
set_option maxRecDepth 100000 in
theorem o_4_1_6 : chkQ run (.part 16395 fun _ => .three 20540 (.of 400) (.of 400) (.of 400)) [(12295, 6, 6), (8212, 0, 0), (4101, 1, 1), (7, 4, 4)] = true := by kernel_rfl
theorem n_4_1 : Covers run [(4101, 1, 1), (7, 4, 4)] := Covers.two 8212 (by kernel_rfl) (Covers.part 12295 (by kernel_rfl) fun e he => by
  have h : e = 0 ∨ e = 1 ∨ e = 2 ∨ e = 3 ∨ e = 4 ∨ e = 5 ∨ e = 6 := by omega
  rcases h with rfl | rfl | rfl | rfl | rfl | rfl | rfl
  · exact .tree _ o_4_1_0
  · exact .tree _ o_4_1_1
  · exact .tree _ o_4_1_2
  · exact .tree _ o_4_1_3
  · exact .tree _ o_4_1_4
  · exact .tree _ o_4_1_5
  · exact .tree _ o_4_1_6
  ) (.tree _ s_4_1)
set_option maxRecDepth 100000 in
theorem s_3_0 : chkQ run (.part 12291 fun _ => .of 400) [(8212, 1, 19), (4099, 0, 0), (7, 3, 3)] = true := by kernel_rfl
set_option maxRecDepth 100000 in
theorem o_3_0_0 : chkQ run (.part 16385 fun _ => .three 20540 (.of 400) (.of 400) (.of 400)) [(12295, 0, 0), (8212, 0, 0), (4099, 0, 0), (7, 3, 3)] = true := by kernel_rfl
set_option maxRecDepth 100000 in
theorem o_3_0_1 : chkQ run (.part 16385 fun _ => .three 20540 (.of 400) (.of 400) (.of 400)) [(12295, 1, 1), (8212, 0, 0), (4099, 0, 0), (7, 3, 3)] = true := by kernel_rfl
set_option maxRecDepth 100000 in
theorem o_3_0_2 : chkQ run (.part 16386 fun _ => .three 20540 (.of 400) (.of 400) (.of 400)) [(12295, 2, 2), (8212, 0, 0), (4099, 0, 0), (7, 3, 3)] = true := by kernel_rfl
set_option maxRecDepth 100000 in
theorem o_3_0_3 : chkQ run (.part 16387 fun _ => .three 20540 (.of 400) (.of 400) (.of 400)) [(12295, 3, 3), (8212, 0, 0), (4099, 0, 0), (7, 3, 3)] = true := by kernel_rfl
set_option maxRecDepth 100000 in
theorem o_3_0_4 : chkQ run (.part 16389 fun _ => .three 20540 (.of 400) (.of 400) (.of 400)) [(12295, 4, 4), (8212, 0, 0), (4099, 0, 0), (7, 3, 3)] = true := by kernel_rfl
set_option maxRecDepth 100000 in
theorem o_3_0_5 : chkQ run (.part 16391 fun _ => .three 20540 (.of 400) (.of 400) (.of 400)) [(12295, 5, 5), (8212, 0, 0), (4099, 0, 0), (7, 3, 3)] = true := by kernel_rfl
set_option maxRecDepth 100000 in
theorem o_3_0_6 : chkQ run (.part 16395 fun _ => .three 20540 (.of 400) (.of 400) (.of 400)) [(12295, 6, 6), (8212, 0, 0), (4099, 0, 0), (7, 3, 3)] = true := by kernel_rfl
theorem n_3_0 : Covers run [(4099, 0, 0), (7, 3, 3)] := Covers.two 8212 (by kernel_rfl) (Covers.part 12295 (by kernel_rfl) fun e he => by
  have h : e = 0 ∨ e = 1 ∨ e = 2 ∨ e = 3 ∨ e = 4 ∨ e = 5 ∨ e = 6 := by omega
  rcases h with rfl | rfl | rfl | rfl | rfl | rfl | rfl
  · exact .tree _ o_3_0_0
  · exact .tree _ o_3_0_1
  · exact .tree _ o_3_0_2
  · exact .tree _ o_3_0_3
  · exact .tree _ o_3_0_4
  · exact .tree _ o_3_0_5
  · exact .tree _ o_3_0_6
  ) (.tree _ s_3_0)
set_option maxRecDepth 100000 in
theorem s_2_1 : chkQ run (.part 12290 fun _ => .of 400) [(8212, 1, 19), (4098, 1, 1), (7, 2, 2)] = true := by kernel_rfl
set_option maxRecDepth 100000 in
theorem o_2_1_0 : chkQ run (.part 16385 fun _ => .three 20540 (.of 400) (.of 400) (.of 400)) [(12295, 0, 0), (8212, 0, 0), (4098, 1, 1), (7, 2, 2)] = true := by kernel_rfl
set_option maxRecDepth 100000 in
theorem o_2_1_1 : chkQ run (.part 16385 fun _ => .three 20540 (.of 400) (.of 400) (.of 400)) [(12295, 1, 1), (8212, 0, 0), (4098, 1, 1), (7, 2, 2)] = true := by kernel_rfl
set_option maxRecDepth 100000 in
theorem o_2_1_2 : chkQ run (.part 16386 fun _ => .three 20540 (.of 400) (.of 400) (.of 400)) [(12295, 2, 2), (8212, 0, 0), (4098, 1, 1), (7, 2, 2)] = true := by kernel_rfl
set_option maxRecDepth 100000 in
theorem o_2_1_3 : chkQ run (.part 16387 fun _ => .three 20540 (.of 400) (.of 400) (.of 400)) [(12295, 3, 3), (8212, 0, 0), (4098, 1, 1), (7, 2, 2)] = true := by kernel_rfl
set_option maxRecDepth 100000 in
theorem o_2_1_4 : chkQ run (.part 16389 fun _ => .three 20540 (.of 400) (.of 400) (.of 400)) [(12295, 4, 4), (8212, 0, 0), (4098, 1, 1), (7, 2, 2)] = true := by kernel_rfl
set_option maxRecDepth 100000 in
theorem o_2_1_5 : chkQ run (.part 16391 fun _ => .three 20540 (.of 400) (.of 400) (.of 400)) [(12295, 5, 5), (8212, 0, 0), (4098, 1, 1), (7, 2, 2)] = true := by kernel_rfl
set_option maxRecDepth 100000 in
theorem o_2_1_6 : chkQ run (.part 16395 fun _ => .three 20540 (.of 400) (.of 400) (.of 400)) [(12295, 6, 6), (8212, 0, 0), (4098, 1, 1), (7, 2, 2)] = true := by kernel_rfl
theorem n_2_1 : Covers run [(4098, 1, 1), (7, 2, 2)] := Covers.two 8212 (by kernel_rfl) (Covers.part 12295 (by kernel_rfl) fun e he => by
  have h : e = 0 ∨ e = 1 ∨ e = 2 ∨ e = 3 ∨ e = 4 ∨ e = 5 ∨ e = 6 := by omega
  rcases h with rfl | rfl | rfl | rfl | rfl | rfl | rfl
  · exact .tree _ o_2_1_0
  · exact .tree _ o_2_1_1
  · exact .tree _ o_2_1_2
  · exact .tree _ o_2_1_3
  · exact .tree _ o_2_1_4
  · exact .tree _ o_2_1_5
  · exact .tree _ o_2_1_6
  ) (.tree _ s_2_1)
end Go.Proofs.Ythcdiaahpodkoab.fnTablePowerRuns
