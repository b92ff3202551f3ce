/- Runs of the program at a seat. -/
import Derived.Test.YthcdiaahpodkoabFnTablePowerP
namespace Go.Proofs.Ythcdiaahpodkoab.fnTablePowerRuns
open Go Go.Eng
set_option linter.unusedVariables false
set_option linter.unusedSectionVars false
set_option linter.unusedSimpArgs false
set_option maxRecDepth 100000 in
theorem s_6_1 : chkQ run (.part 12299 fun _ => .of 400) [(8212, 1, 19), (4107, 1, 1), (7, 6, 6)] = true := by kernel_rfl
set_option maxRecDepth 100000 in
theorem o_6_1_0 : chkQ run (.part 16385 fun _ => .three 20540 (.of 400) (.of 400) (.of 400)) [(12295, 0, 0), (8212, 0, 0), (4107, 1, 1), (7, 6, 6)] = true := by kernel_rfl
set_option maxRecDepth 100000 in
theorem o_6_1_1 : chkQ run (.part 16385 fun _ => .three 20540 (.of 400) (.of 400) (.of 400)) [(12295, 1, 1), (8212, 0, 0), (4107, 1, 1), (7, 6, 6)] = true := by kernel_rfl
set_option maxRecDepth 100000 in
theorem o_6_1_2 : chkQ run (.part 16386 fun _ => .three 20540 (.of 400) (.of 400) (.of 400)) [(12295, 2, 2), (8212, 0, 0), (4107, 1, 1), (7, 6, 6)] = true := by kernel_rfl
set_option maxRecDepth 100000 in
theorem o_6_1_3 : chkQ run (.part 16387 fun _ => .three 20540 (.of 400) (.of 400) (.of 400)) [(12295, 3, 3), (8212, 0, 0), (4107, 1, 1), (7, 6, 6)] = true := by kernel_rfl
set_option maxRecDepth 100000 in
theorem o_6_1_4 : chkQ run (.part 16389 fun _ => .three 20540 (.of 400) (.of 400) (.of 400)) [(12295, 4, 4), (8212, 0, 0), (4107, 1, 1), (7, 6, 6)] = true := by kernel_rfl
set_option maxRecDepth 100000 in
theorem o_6_1_5 : chkQ run (.part 16391 fun _ => .three 20540 (.of 400) (.of 400) (.of 400)) [(12295, 5, 5), (8212, 0, 0), (4107, 1, 1), (7, 6, 6)] = true := by kernel_rfl
set_option maxRecDepth 100000 in
theorem o_6_1_6 : chkQ run (.part 16395 fun _ => .three 20540 (.of 400) (.of 400) (.of 400)) [(12295, 6, 6), (8212, 0, 0), (4107, 1, 1), (7, 6, 6)] = true := by kernel_rfl
theorem n_6_1 : Covers run [(4107, 1, 1), (7, 6, 6)] := Covers.two 8212 (by kernel_rfl) (Covers.part 12295 (by kernel_rfl) fun e he => by
  have h : e = 0 ∨ e = 1 ∨ e = 2 ∨ e = 3 ∨ e = 4 ∨ e = 5 ∨ e = 6 := by omega
  rcases h with rfl | rfl | rfl | rfl | rfl | rfl | rfl
  · exact .tree _ o_6_1_0
  · exact .tree _ o_6_1_1
  · exact .tree _ o_6_1_2
  · exact .tree _ o_6_1_3
  · exact .tree _ o_6_1_4
  · exact .tree _ o_6_1_5
  · exact .tree _ o_6_1_6
  ) (.tree _ s_6_1)
set_option maxRecDepth 100000 in
theorem s_6_5 : chkQ run (.part 12299 fun _ => .of 400) [(8212, 1, 19), (4107, 5, 5), (7, 6, 6)] = true := by kernel_rfl
set_option maxRecDepth 100000 in
theorem o_6_5_0 : chkQ run (.part 16385 fun _ => .three 20540 (.of 400) (.of 400) (.of 400)) [(12295, 0, 0), (8212, 0, 0), (4107, 5, 5), (7, 6, 6)] = true := by kernel_rfl
set_option maxRecDepth 100000 in
theorem o_6_5_1 : chkQ run (.part 16385 fun _ => .three 20540 (.of 400) (.of 400) (.of 400)) [(12295, 1, 1), (8212, 0, 0), (4107, 5, 5), (7, 6, 6)] = true := by kernel_rfl
set_option maxRecDepth 100000 in
theorem o_6_5_2 : chkQ run (.part 16386 fun _ => .three 20540 (.of 400) (.of 400) (.of 400)) [(12295, 2, 2), (8212, 0, 0), (4107, 5, 5), (7, 6, 6)] = true := by kernel_rfl
set_option maxRecDepth 100000 in
theorem o_6_5_3 : chkQ run (.part 16387 fun _ => .three 20540 (.of 400) (.of 400) (.of 400)) [(12295, 3, 3), (8212, 0, 0), (4107, 5, 5), (7, 6, 6)] = true := by kernel_rfl
set_option maxRecDepth 100000 in
theorem o_6_5_4 : chkQ run (.part 16389 fun _ => .three 20540 (.of 400) (.of 400) (.of 400)) [(12295, 4, 4), (8212, 0, 0), (4107, 5, 5), (7, 6, 6)] = true := by kernel_rfl
set_option maxRecDepth 100000 in
theorem o_6_5_5 : chkQ run (.part 16391 fun _ => .three 20540 (.of 400) (.of 400) (.of 400)) [(12295, 5, 5), (8212, 0, 0), (4107, 5, 5), (7, 6, 6)] = true := by kernel_rfl
set_option maxRecDepth 100000 in
theorem o_6_5_6 : chkQ run (.part 16395 fun _ => .three 20540 (.of 400) (.of 400) (.of 400)) [(12295, 6, 6), (8212, 0, 0), (4107, 5, 5), (7, 6, 6)] = true := by kernel_rfl
theorem n_6_5 : Covers run [(4107, 5, 5), (7, 6, 6)] := Covers.two 8212 (by kernel_rfl) (Covers.part 12295 (by kernel_rfl) fun e he => by
  have h : e = 0 ∨ e = 1 ∨ e = 2 ∨ e = 3 ∨ e = 4 ∨ e = 5 ∨ e = 6 := by omega
  rcases h with rfl | rfl | rfl | rfl | rfl | rfl | rfl
  · exact .tree _ o_6_5_0
  · exact .tree _ o_6_5_1
  · exact .tree _ o_6_5_2
  · exact .tree _ o_6_5_3
  · exact .tree _ o_6_5_4
  · exact .tree _ o_6_5_5
  · exact .tree _ o_6_5_6
  ) (.tree _ s_6_5)
set_option maxRecDepth 100000 in
theorem s_6_9 : chkQ run (.part 12299 fun _ => .of 400) [(8212, 1, 19), (4107, 9, 9), (7, 6, 6)] = true := by kernel_rfl
set_option maxRecDepth 100000 in
theorem o_6_9_0 : chkQ run (.part 16385 fun _ => .three 20540 (.of 400) (.of 400) (.of 400)) [(12295, 0, 0), (8212, 0, 0), (4107, 9, 9), (7, 6, 6)] = true := by kernel_rfl
set_option maxRecDepth 100000 in
theorem o_6_9_1 : chkQ run (.part 16385 fun _ => .three 20540 (.of 400) (.of 400) (.of 400)) [(12295, 1, 1), (8212, 0, 0), (4107, 9, 9), (7, 6, 6)] = true := by kernel_rfl
set_option maxRecDepth 100000 in
theorem o_6_9_2 : chkQ run (.part 16386 fun _ => .three 20540 (.of 400) (.of 400) (.of 400)) [(12295, 2, 2), (8212, 0, 0), (4107, 9, 9), (7, 6, 6)] = true := by kernel_rfl
set_option maxRecDepth 100000 in
theorem o_6_9_3 : chkQ run (.part 16387 fun _ => .three 20540 (.of 400) (.of 400) (.of 400)) [(12295, 3, 3), (8212, 0, 0), (4107, 9, 9), (7, 6, 6)] = true := by kernel_rfl
set_option maxRecDepth 100000 in
theorem o_6_9_4 : chkQ run (.part 16389 fun _ => .three 20540 (.of 400) (.of 400) (.of 400)) [(12295, 4, 4), (8212, 0, 0), (4107, 9, 9), (7, 6, 6)] = true := by kernel_rfl
set_option maxRecDepth 100000 in
theorem o_6_9_5 : chkQ run (.part 16391 fun _ => .three 20540 (.of 400) (.of 400) (.of 400)) [(12295, 5, 5), (8212, 0, 0), (4107, 9, 9), (7, 6, 6)] = true := by kernel_rfl
set_option maxRecDepth 100000 in
theorem o_6_9_6 : chkQ run (.part 16395 fun _ => .three 20540 (.of 400) (.of 400) (.of 400)) [(12295, 6, 6), (8212, 0, 0), (4107, 9, 9), (7, 6, 6)] = true := by kernel_rfl
theorem n_6_9 : Covers run [(4107, 9, 9), (7, 6, 6)] := Covers.two 8212 (by kernel_rfl) (Covers.part 12295 (by kernel_rfl) fun e he => by
  have h : e = 0 ∨ e = 1 ∨ e = 2 ∨ e = 3 ∨ e = 4 ∨ e = 5 ∨ e = 6 := by omega
  rcases h with rfl | rfl | rfl | rfl | rfl | rfl | rfl
  · exact .tree _ o_6_9_0
  · exact .tree _ o_6_9_1
  · exact .tree _ o_6_9_2
  · exact .tree _ o_6_9_3
  · exact .tree _ o_6_9_4
  · exact .tree _ o_6_9_5
  · exact .tree _ o_6_9_6
  ) (.tree _ s_6_9)
set_option maxRecDepth 100000 in
theorem s_5_2 : chkQ run (.part 12295 fun _ => .of 400) [(8212, 1, 19), (4103, 2, 2), (7, 5, 5)] = true := by kernel_rfl
set_option maxRecDepth 100000 in
theorem o_5_2_0 : chkQ run (.part 16385 fun _ => .three 20540 (.of 400) (.of 400) (.of 400)) [(12295, 0, 0), (8212, 0, 0), (4103, 2, 2), (7, 5, 5)] = true := by kernel_rfl
set_option maxRecDepth 100000 in
theorem o_5_2_1 : chkQ run (.part 16385 fun _ => .three 20540 (.of 400) (.of 400) (.of 400)) [(12295, 1, 1), (8212, 0, 0), (4103, 2, 2), (7, 5, 5)] = true := by kernel_rfl
set_option maxRecDepth 100000 in
theorem o_5_2_2 : chkQ run (.part 16386 fun _ => .three 20540 (.of 400) (.of 400) (.of 400)) [(12295, 2, 2), (8212, 0, 0), (4103, 2, 2), (7, 5, 5)] = true := by kernel_rfl
set_option maxRecDepth 100000 in
theorem o_5_2_3 : chkQ run (.part 16387 fun _ => .three 20540 (.of 400) (.of 400) (.of 400)) [(12295, 3, 3), (8212, 0, 0), (4103, 2, 2), (7, 5, 5)] = true := by kernel_rfl
set_option maxRecDepth 100000 in
theorem o_5_2_4 : chkQ run (.part 16389 fun _ => .three 20540 (.of 400) (.of 400) (.of 400)) [(12295, 4, 4), (8212, 0, 0), (4103, 2, 2), (7, 5, 5)] = true := by kernel_rfl
set_option maxRecDepth 100000 in
theorem o_5_2_5 : chkQ run (.part 16391 fun _ => .three 20540 (.of 400) (.of 400) (.of 400)) [(12295, 5, 5), (8212, 0, 0), (4103, 2, 2), (7, 5, 5)] = true := by kernel_rfl
set_option maxRecDepth 100000 in
theorem o_5_2_6 : chkQ run (.part 16395 fun _ => .three 20540 (.of 400) (.of 400) (.of 400)) [(12295, 6, 6), (8212, 0, 0), (4103, 2, 2), (7, 5, 5)] = true := by kernel_rfl
theorem n_5_2 : Covers run [(4103, 2, 2), (7, 5, 5)] := Covers.two 8212 (by kernel_rfl) (Covers.part 12295 (by kernel_rfl) fun e he => by
  have h : e = 0 ∨ e = 1 ∨ e = 2 ∨ e = 3 ∨ e = 4 ∨ e = 5 ∨ e = 6 := by omega
  rcases h with rfl | rfl | rfl | rfl | rfl | rfl | rfl
  · exact .tree _ o_5_2_0
  · exact .tree _ o_5_2_1
  · exact .tree _ o_5_2_2
  · exact .tree _ o_5_2_3
  · exact .tree _ o_5_2_4
  · exact .tree _ o_5_2_5
  · exact .tree _ o_5_2_6
  ) (.tree _ s_5_2)
set_option maxRecDepth 100000 in
theorem s_5_6 : chkQ run (.part 12295 fun _ => .of 400) [(8212, 1, 19), (4103, 6, 6), (7, 5, 5)] = true := by kernel_rfl
set_option maxRecDepth 100000 in
theorem o_5_6_0 : chkQ run (.part 16385 fun _ => .three 20540 (.of 400) (.of 400) (.of 400)) [(12295, 0, 0), (8212, 0, 0), (4103, 6, 6), (7, 5, 5)] = true := by kernel_rfl
set_option maxRecDepth 100000 in
theorem o_5_6_1 : chkQ run (.part 16385 fun _ => .three 20540 (.of 400) (.of 400) (.of 400)) [(12295, 1, 1), (8212, 0, 0), (4103, 6, 6), (7, 5, 5)] = true := by kernel_rfl
set_option maxRecDepth 100000 in
theorem o_5_6_2 : chkQ run (.part 16386 fun _ => .three 20540 (.of 400) (.of 400) (.of 400)) [(12295, 2, 2), (8212, 0, 0), (4103, 6, 6), (7, 5, 5)] = true := by kernel_rfl
set_option maxRecDepth 100000 in
theorem o_5_6_3 : chkQ run (.part 16387 fun _ => .three 20540 (.of 400) (.of 400) (.of 400)) [(12295, 3, 3), (8212, 0, 0), (4103, 6, 6), (7, 5, 5)] = true := by kernel_rfl
set_option maxRecDepth 100000 in
theorem o_5_6_4 : chkQ run (.part 16389 fun _ => .three 20540 (.of 400) (.of 400) (.of 400)) [(12295, 4, 4), (8212, 0, 0), (4103, 6, 6), (7, 5, 5)] = true := by kernel_rfl
set_option maxRecDepth 100000 in
theorem o_5_6_5 : chkQ run (.part 16391 fun _ => .three 20540 (.of 400) (.of 400) (.of 400)) [(12295, 5, 5), (8212, 0, 0), (4103, 6, 6), (7, 5, 5)] = true := by kernel_rfl
set_option maxRecDepth 100000 in
theorem o_5_6_6 : chkQ run (.part 16395 fun _ => .three 20540 (.of 400) (.of 400) (.of 400)) [(12295, 6, 6), (8212, 0, 0), (4103, 6, 6), (7, 5, 5)] = true := by kernel_rfl
theorem n_5_6 : Covers run [(4103, 6, 6), (7, 5, 5)] := Covers.two 8212 (by kernel_rfl) (Covers.part 12295 (by kernel_rfl) fun e he => by
  have h : e = 0 ∨ e = 1 ∨ e = 2 ∨ e = 3 ∨ e = 4 ∨ e = 5 ∨ e = 6 := by omega
  rcases h with rfl | rfl | rfl | rfl | rfl | rfl | rfl
  · exact .tree _ o_5_6_0
  · exact .tree _ o_5_6_1
  · exact .tree _ o_5_6_2
  · exact .tree _ o_5_6_3
  · exact .tree _ o_5_6_4
  · exact .tree _ o_5_6_5
  · exact .tree _ o_5_6_6
  ) (.tree _ s_5_6)
set_option maxRecDepth 100000 in
theorem s_4_3 : chkQ run (.part 12293 fun _ => .of 400) [(8212, 1, 19), (4101, 3, 3), (7, 4, 4)] = true := by kernel_rfl
set_option maxRecDepth 100000 in
theorem o_4_3_0 : chkQ run (.part 16385 fun _ => .three 20540 (.of 400) (.of 400) (.of 400)) [(12295, 0, 0), (8212, 0, 0), (4101, 3, 3), (7, 4, 4)] = true := by kernel_rfl
set_option maxRecDepth 100000 in
theorem o_4_3_1 : chkQ run (.part 16385 fun _ => .three 20540 (.of 400) (.of 400) (.of 400)) [(12295, 1, 1), (8212, 0, 0), (4101, 3, 3), (7, 4, 4)] = true := by kernel_rfl
set_option maxRecDepth 100000 in
theorem o_4_3_2 : chkQ run (.part 16386 fun _ => .three 20540 (.of 400) (.of 400) (.of 400)) [(12295, 2, 2), (8212, 0, 0), (4101, 3, 3), (7, 4, 4)] = true := by kernel_rfl
set_option maxRecDepth 100000 in
theorem o_4_3_3 : chkQ run (.part 16387 fun _ => .three 20540 (.of 400) (.of 400) (.of 400)) [(12295, 3, 3), (8212, 0, 0), (4101, 3, 3), (7, 4, 4)] = true := by kernel_rfl
set_option maxRecDepth 100000 in
theorem o_4_3_4 : chkQ run (.part 16389 fun _ => .three 20540 (.of 400) (.of 400) (.of 400)) [(12295, 4, 4), (8212, 0, 0), (4101, 3, 3), (7, 4, 4)] = true := by kernel_rfl
set_option maxRecDepth 100000 in
theorem o_4_3_5 : chkQ run (.part 16391 fun _ => .three 20540 (.of 400) (.of 400) (.of 400)) [(12295, 5, 5), (8212, 0, 0), (4101, 3, 3), (7, 4, 4)] = true := by kernel_rfl
set_option maxRecDepth 100000 in
theorem o_4_3_6 : chkQ run (.part 16395 fun _ => .three 20540 (.of 400) (.of 400) (.of 400)) [(12295, 6, 6), (8212, 0, 0), (4101, 3, 3), (7, 4, 4)] = true := by kernel_rfl
theorem n_4_3 : Covers run [(4101, 3, 3), (7, 4, 4)] := Covers.two 8212 (by kernel_rfl) (Covers.part 12295 (by kernel_rfl) fun e he => by
  have h : e = 0 ∨ e = 1 ∨ e = 2 ∨ e = 3 ∨ e = 4 ∨ e = 5 ∨ e = 6 := by omega
  rcases h with rfl | rfl | rfl | rfl | rfl | rfl | rfl
  · exact .tree _ o_4_3_0
  · exact .tree _ o_4_3_1
  · exact .tree _ o_4_3_2
  · exact .tree _ o_4_3_3
  · exact .tree _ o_4_3_4
  · exact .tree _ o_4_3_5
  · exact .tree _ o_4_3_6
  ) (.tree _ s_4_3)
set_option maxRecDepth 100000 in
theorem s_3_2 : chkQ run (.part 12291 fun _ => .of 400) [(8212, 1, 19), (4099, 2, 2), (7, 3, 3)] = true := by kernel_rfl
set_option maxRecDepth 100000 in
theorem o_3_2_0 : chkQ run (.part 16385 fun _ => .three 20540 (.of 400) (.of 400) (.of 400)) [(12295, 0, 0), (8212, 0, 0), (4099, 2, 2), (7, 3, 3)] = true := by kernel_rfl
set_option maxRecDepth 100000 in
theorem o_3_2_1 : chkQ run (.part 16385 fun _ => .three 20540 (.of 400) (.of 400) (.of 400)) [(12295, 1, 1), (8212, 0, 0), (4099, 2, 2), (7, 3, 3)] = true := by kernel_rfl
set_option maxRecDepth 100000 in
theorem o_3_2_2 : chkQ run (.part 16386 fun _ => .three 20540 (.of 400) (.of 400) (.of 400)) [(12295, 2, 2), (8212, 0, 0), (4099, 2, 2), (7, 3, 3)] = true := by kernel_rfl
set_option maxRecDepth 100000 in
theorem o_3_2_3 : chkQ run (.part 16387 fun _ => .three 20540 (.of 400) (.of 400) (.of 400)) [(12295, 3, 3), (8212, 0, 0), (4099, 2, 2), (7, 3, 3)] = true := by kernel_rfl
set_option maxRecDepth 100000 in
theorem o_3_2_4 : chkQ run (.part 16389 fun _ => .three 20540 (.of 400) (.of 400) (.of 400)) [(12295, 4, 4), (8212, 0, 0), (4099, 2, 2), (7, 3, 3)] = true := by kernel_rfl
set_option maxRecDepth 100000 in
theorem o_3_2_5 : chkQ run (.part 16391 fun _ => .three 20540 (.of 400) (.of 400) (.of 400)) [(12295, 5, 5), (8212, 0, 0), (4099, 2, 2), (7, 3, 3)] = true := by kernel_rfl
set_option maxRecDepth 100000 in
theorem o_3_2_6 : chkQ run (.part 16395 fun _ => .three 20540 (.of 400) (.of 400) (.of 400)) [(12295, 6, 6), (8212, 0, 0), (4099, 2, 2), (7, 3, 3)] = true := by kernel_rfl
theorem n_3_2 : Covers run [(4099, 2, 2), (7, 3, 3)] := Covers.two 8212 (by kernel_rfl) (Covers.part 12295 (by kernel_rfl) fun e he => by
  have h : e = 0 ∨ e = 1 ∨ e = 2 ∨ e = 3 ∨ e = 4 ∨ e = 5 ∨ e = 6 := by omega
  rcases h with rfl | rfl | rfl | rfl | rfl | rfl | rfl
  · exact .tree _ o_3_2_0
  · exact .tree _ o_3_2_1
  · exact .tree _ o_3_2_2
  · exact .tree _ o_3_2_3
  · exact .tree _ o_3_2_4
  · exact .tree _ o_3_2_5
  · exact .tree _ o_3_2_6
  ) (.tree _ s_3_2)
set_option maxRecDepth 100000 in
theorem s_0_0 : chkQ run (.part 12289 fun _ => .of 400) [(8212, 1, 19), (4097, 0, 0), (7, 0, 0)] = true := by kernel_rfl
set_option maxRecDepth 100000 in
theorem o_0_0_0 : chkQ run (.part 16385 fun _ => .three 20540 (.of 400) (.of 400) (.of 400)) [(12295, 0, 0), (8212, 0, 0), (4097, 0, 0), (7, 0, 0)] = true := by kernel_rfl
set_option maxRecDepth 100000 in
theorem o_0_0_1 : chkQ run (.part 16385 fun _ => .three 20540 (.of 400) (.of 400) (.of 400)) [(12295, 1, 1), (8212, 0, 0), (4097, 0, 0), (7, 0, 0)] = true := by kernel_rfl
set_option maxRecDepth 100000 in
theorem o_0_0_2 : chkQ run (.part 16386 fun _ => .three 20540 (.of 400) (.of 400) (.of 400)) [(12295, 2, 2), (8212, 0, 0), (4097, 0, 0), (7, 0, 0)] = true := by kernel_rfl
set_option maxRecDepth 100000 in
theorem o_0_0_3 : chkQ run (.part 16387 fun _ => .three 20540 (.of 400) (.of 400) (.of 400)) [(12295, 3, 3), (8212, 0, 0), (4097, 0, 0), (7, 0, 0)] = true := by kernel_rfl
set_option maxRecDepth 100000 in
theorem o_0_0_4 : chkQ run (.part 16389 fun _ => .three 20540 (.of 400) (.of 400) (.of 400)) [(12295, 4, 4), (8212, 0, 0), (4097, 0, 0), (7, 0, 0)] = true := by kernel_rfl
set_option maxRecDepth 100000 in
theorem o_0_0_5 : chkQ run (.part 16391 fun _ => .three 20540 (.of 400) (.of 400) (.of 400)) [(12295, 5, 5), (8212, 0, 0), (4097, 0, 0), (7, 0, 0)] = true := by kernel_rfl
set_option maxRecDepth 100000 in
theorem o_0_0_6 : chkQ run (.part 16395 fun _ => .three 20540 (.of 400) (.of 400) (.of 400)) [(12295, 6, 6), (8212, 0, 0), (4097, 0, 0), (7, 0, 0)] = true := by kernel_rfl
theorem n_0_0 : Covers run [(4097, 0, 0), (7, 0, 0)] := Covers.two 8212 (by kernel_rfl) (Covers.part 12295 (by kernel_rfl) fun e he => by
  have h : e = 0 ∨ e = 1 ∨ e = 2 ∨ e = 3 ∨ e = 4 ∨ e = 5 ∨ e = 6 := by omega
  rcases h with rfl | rfl | rfl | rfl | rfl | rfl | rfl
  · exact .tree _ o_0_0_0
  · exact .tree _ o_0_0_1
  · exact .tree _ o_0_0_2
  · exact .tree _ o_0_0_3
  · exact .tree _ o_0_0_4
  · exact .tree _ o_0_0_5
  · exact .tree _ o_0_0_6
  ) (.tree _ s_0_0)
end Go.Proofs.Ythcdiaahpodkoab.fnTablePowerRuns
