/- Runs of the program at a seat. -/
import Derived.Test.YthcdiaahpodkoabFnTablePowerP
namespace Go.Proofs.Ythcdiaahpodkoab.fnTablePowerRuns
open Go Go.Eng
set_option linter.unusedVariables false
set_option linter.unusedSectionVars false
set_option linter.unusedSimpArgs false
set_option maxRecDepth 100000 in
theorem s_6_0 : chkQ run (.part 12299 fun _ => .of 400) [(8212, 1, 19), (4107, 0, 0), (7, 6, 6)] = true := by kernel_rfl
set_option maxRecDepth 100000 in
theorem o_6_0_0 : chkQ run (.part 16385 fun _ => .three 20540 (.of 400) (.of 400) (.of 400)) [(12295, 0, 0), (8212, 0, 0), (4107, 0, 0), (7, 6, 6)] = true := by kernel_rfl
set_option maxRecDepth 100000 in
theorem o_6_0_1 : chkQ run (.part 16385 fun _ => .three 20540 (.of 400) (.of 400) (.of 400)) [(12295, 1, 1), (8212, 0, 0), (4107, 0, 0), (7, 6, 6)] = true := by kernel_rfl
set_option maxRecDepth 100000 in
theorem o_6_0_2 : chkQ run (.part 16386 fun _ => .three 20540 (.of 400) (.of 400) (.of 400)) [(12295, 2, 2), (8212, 0, 0), (4107, 0, 0), (7, 6, 6)] = true := by kernel_rfl
set_option maxRecDepth 100000 in
theorem o_6_0_3 : chkQ run (.part 16387 fun _ => .three 20540 (.of 400) (.of 400) (.of 400)) [(12295, 3, 3), (8212, 0, 0), (4107, 0, 0), (7, 6, 6)] = true := by kernel_rfl
set_option maxRecDepth 100000 in
theorem o_6_0_4 : chkQ run (.part 16389 fun _ => .three 20540 (.of 400) (.of 400) (.of 400)) [(12295, 4, 4), (8212, 0, 0), (4107, 0, 0), (7, 6, 6)] = true := by kernel_rfl
set_option maxRecDepth 100000 in
theorem o_6_0_5 : chkQ run (.part 16391 fun _ => .three 20540 (.of 400) (.of 400) (.of 400)) [(12295, 5, 5), (8212, 0, 0), (4107, 0, 0), (7, 6, 6)] = true := by kernel_rfl
set_option maxRecDepth 100000 in
theorem o_6_0_6 : chkQ run (.part 16395 fun _ => .three 20540 (.of 400) (.of 400) (.of 400)) [(12295, 6, 6), (8212, 0, 0), (4107, 0, 0), (7, 6, 6)] = true := by kernel_rfl
theorem n_6_0 : Covers run [(4107, 0, 0), (7, 6, 6)] := Covers.two 8212 (by kernel_rfl) (Covers.part 12295 (by kernel_rfl) fun e he => by
  have h : e = 0 ∨ e = 1 ∨ e = 2 ∨ e = 3 ∨ e = 4 ∨ e = 5 ∨ e = 6 := by omega
  rcases h with rfl | rfl | rfl | rfl | rfl | rfl | rfl
  · exact .tree _ o_6_0_0
  · exact .tree _ o_6_0_1
  · exact .tree _ o_6_0_2
  · exact .tree _ o_6_0_3
  · exact .tree _ o_6_0_4
  · exact .tree _ o_6_0_5
  · exact .tree _ o_6_0_6
  ) (.tree _ s_6_0)
set_option maxRecDepth 100000 in
theorem s_6_4 : chkQ run (.part 12299 fun _ => .of 400) [(8212, 1, 19), (4107, 4, 4), (7, 6, 6)] = true := by kernel_rfl
set_option maxRecDepth 100000 in
theorem o_6_4_0 : chkQ run (.part 16385 fun _ => .three 20540 (.of 400) (.of 400) (.of 400)) [(12295, 0, 0), (8212, 0, 0), (4107, 4, 4), (7, 6, 6)] = true := by kernel_rfl
set_option maxRecDepth 100000 in
theorem o_6_4_1 : chkQ run (.part 16385 fun _ => .three 20540 (.of 400) (.of 400) (.of 400)) [(12295, 1, 1), (8212, 0, 0), (4107, 4, 4), (7, 6, 6)] = true := by kernel_rfl
set_option maxRecDepth 100000 in
theorem o_6_4_2 : chkQ run (.part 16386 fun _ => .three 20540 (.of 400) (.of 400) (.of 400)) [(12295, 2, 2), (8212, 0, 0), (4107, 4, 4), (7, 6, 6)] = true := by kernel_rfl
set_option maxRecDepth 100000 in
theorem o_6_4_3 : chkQ run (.part 16387 fun _ => .three 20540 (.of 400) (.of 400) (.of 400)) [(12295, 3, 3), (8212, 0, 0), (4107, 4, 4), (7, 6, 6)] = true := by kernel_rfl
set_option maxRecDepth 100000 in
theorem o_6_4_4 : chkQ run (.part 16389 fun _ => .three 20540 (.of 400) (.of 400) (.of 400)) [(12295, 4, 4), (8212, 0, 0), (4107, 4, 4), (7, 6, 6)] = true := by kernel_rfl
set_option maxRecDepth 100000 in
theorem o_6_4_5 : chkQ run (.part 16391 fun _ => .three 20540 (.of 400) (.of 400) (.of 400)) [(12295, 5, 5), (8212, 0, 0), (4107, 4, 4), (7, 6, 6)] = true := by kernel_rfl
set_option maxRecDepth 100000 in
theorem o_6_4_6 : chkQ run (.part 16395 fun _ => .three 20540 (.of 400) (.of 400) (.of 400)) [(12295, 6, 6), (8212, 0, 0), (4107, 4, 4), (7, 6, 6)] = true := by kernel_rfl
theorem n_6_4 : Covers run [(4107, 4, 4), (7, 6, 6)] := Covers.two 8212 (by kernel_rfl) (Covers.part 12295 (by kernel_rfl) fun e he => by
  have h : e = 0 ∨ e = 1 ∨ e = 2 ∨ e = 3 ∨ e = 4 ∨ e = 5 ∨ e = 6 := by omega
  rcases h with rfl | rfl | rfl | rfl | rfl | rfl | rfl
  · exact .tree _ o_6_4_0
  · exact .tree _ o_6_4_1
  · exact .tree _ o_6_4_2
  · exact .tree _ o_6_4_3
  · exact .tree _ o_6_4_4
  · exact .tree _ o_6_4_5
  · exact .tree _ o_6_4_6
  ) (.tree _ s_6_4)
set_option maxRecDepth 100000 in
theorem s_6_8 : chkQ run (.part 12299 fun _ => .of 400) [(8212, 1, 19), (4107, 8, 8), (7, 6, 6)] = true := by kernel_rfl
set_option maxRecDepth 100000 in
theorem o_6_8_0 : chkQ run (.part 16385 fun _ => .three 20540 (.of 400) (.of 400) (.of 400)) [(12295, 0, 0), (8212, 0, 0), (4107, 8, 8), (7, 6, 6)] = true := by kernel_rfl
set_option maxRecDepth 100000 in
theorem o_6_8_1 : chkQ run (.part 16385 fun _ => .three 20540 (.of 400) (.of 400) (.of 400)) [(12295, 1, 1), (8212, 0, 0), (4107, 8, 8), (7, 6, 6)] = true := by kernel_rfl
set_option maxRecDepth 100000 in
theorem o_6_8_2 : chkQ run (.part 16386 fun _ => .three 20540 (.of 400) (.of 400) (.of 400)) [(12295, 2, 2), (8212, 0, 0), (4107, 8, 8), (7, 6, 6)] = true := by kernel_rfl
set_option maxRecDepth 100000 in
theorem o_6_8_3 : chkQ run (.part 16387 fun _ => .three 20540 (.of 400) (.of 400) (.of 400)) [(12295, 3, 3), (8212, 0, 0), (4107, 8, 8), (7, 6, 6)] = true := by kernel_rfl
set_option maxRecDepth 100000 in
theorem o_6_8_4 : chkQ run (.part 16389 fun _ => .three 20540 (.of 400) (.of 400) (.of 400)) [(12295, 4, 4), (8212, 0, 0), (4107, 8, 8), (7, 6, 6)] = true := by kernel_rfl
set_option maxRecDepth 100000 in
theorem o_6_8_5 : chkQ run (.part 16391 fun _ => .three 20540 (.of 400) (.of 400) (.of 400)) [(12295, 5, 5), (8212, 0, 0), (4107, 8, 8), (7, 6, 6)] = true := by kernel_rfl
set_option maxRecDepth 100000 in
theorem o_6_8_6 : chkQ run (.part 16395 fun _ => .three 20540 (.of 400) (.of 400) (.of 400)) [(12295, 6, 6), (8212, 0, 0), (4107, 8, 8), (7, 6, 6)] = true := by kernel_rfl
theorem n_6_8 : Covers run [(4107, 8, 8), (7, 6, 6)] := Covers.two 8212 (by kernel_rfl) (Covers.part 12295 (by kernel_rfl) fun e he => by
  have h : e = 0 ∨ e = 1 ∨ e = 2 ∨ e = 3 ∨ e = 4 ∨ e = 5 ∨ e = 6 := by omega
  rcases h with rfl | rfl | rfl | rfl | rfl | rfl | rfl
  · exact .tree _ o_6_8_0
  · exact .tree _ o_6_8_1
  · exact .tree _ o_6_8_2
  · exact .tree _ o_6_8_3
  · exact .tree _ o_6_8_4
  · exact .tree _ o_6_8_5
  · exact .tree _ o_6_8_6
  ) (.tree _ s_6_8)
set_option maxRecDepth 100000 in
theorem s_5_1 : chkQ run (.part 12295 fun _ => .of 400) [(8212, 1, 19), (4103, 1, 1), (7, 5, 5)] = true := by kernel_rfl
set_option maxRecDepth 100000 in
theorem o_5_1_0 : chkQ run (.part 16385 fun _ => .three 20540 (.of 400) (.of 400) (.of 400)) [(12295, 0, 0), (8212, 0, 0), (4103, 1, 1), (7, 5, 5)] = true := by kernel_rfl
set_option maxRecDepth 100000 in
theorem o_5_1_1 : chkQ run (.part 16385 fun _ => .three 20540 (.of 400) (.of 400) (.of 400)) [(12295, 1, 1), (8212, 0, 0), (4103, 1, 1), (7, 5, 5)] = true := by kernel_rfl
set_option maxRecDepth 100000 in
theorem o_5_1_2 : chkQ run (.part 16386 fun _ => .three 20540 (.of 400) (.of 400) (.of 400)) [(12295, 2, 2), (8212, 0, 0), (4103, 1, 1), (7, 5, 5)] = true := by kernel_rfl
set_option maxRecDepth 100000 in
theorem o_5_1_3 : chkQ run (.part 16387 fun _ => .three 20540 (.of 400) (.of 400) (.of 400)) [(12295, 3, 3), (8212, 0, 0), (4103, 1, 1), (7, 5, 5)] = true := by kernel_rfl
set_option maxRecDepth 100000 in
theorem o_5_1_4 : chkQ run (.part 16389 fun _ => .three 20540 (.of 400) (.of 400) (.of 400)) [(12295, 4, 4), (8212, 0, 0), (4103, 1, 1), (7, 5, 5)] = true := by kernel_rfl
set_option maxRecDepth 100000 in
theorem o_5_1_5 : chkQ run (.part 16391 fun _ => .three 20540 (.of 400) (.of 400) (.of 400)) [(12295, 5, 5), (8212, 0, 0), (4103, 1, 1), (7, 5, 5)] = true := by kernel_rfl
set_option maxRecDepth 100000 in
theorem o_5_1_6 : chkQ run (.part 16395 fun _ => .three 20540 (.of 400) (.of 400) (.of 400)) [(12295, 6, 6), (8212, 0, 0), (4103, 1, 1), (7, 5, 5)] = true := by kernel_rfl
theorem n_5_1 : Covers run [(4103, 1, 1), (7, 5, 5)] := Covers.two 8212 (by kernel_rfl) (Covers.part 12295 (by kernel_rfl) fun e he => by
  have h : e = 0 ∨ e = 1 ∨ e = 2 ∨ e = 3 ∨ e = 4 ∨ e = 5 ∨ e = 6 := by omega
  rcases h with rfl | rfl | rfl | rfl | rfl | rfl | rfl
  · exact .tree _ o_5_1_0
  · exact .tree _ o_5_1_1
  · exact .tree _ o_5_1_2
  · exact .tree _ o_5_1_3
  · exact .tree _ o_5_1_4
  · exact .tree _ o_5_1_5
  · exact .tree _ o_5_1_6
  ) (.tree _ s_5_1)
set_option maxRecDepth 100000 in
theorem s_5_5 : chkQ run (.part 12295 fun _ => .of 400) [(8212, 1, 19), (4103, 5, 5), (7, 5, 5)] = true := by kernel_rfl
set_option maxRecDepth 100000 in
theorem o_5_5_0 : chkQ run (.part 16385 fun _ => .three 20540 (.of 400) (.of 400) (.of 400)) [(12295, 0, 0), (8212, 0, 0), (4103, 5, 5), (7, 5, 5)] = true := by kernel_rfl
set_option maxRecDepth 100000 in
theorem o_5_5_1 : chkQ run (.part 16385 fun _ => .three 20540 (.of 400) (.of 400) (.of 400)) [(12295, 1, 1), (8212, 0, 0), (4103, 5, 5), (7, 5, 5)] = true := by kernel_rfl
set_option maxRecDepth 100000 in
theorem o_5_5_2 : chkQ run (.part 16386 fun _ => .three 20540 (.of 400) (.of 400) (.of 400)) [(12295, 2, 2), (8212, 0, 0), (4103, 5, 5), (7, 5, 5)] = true := by kernel_rfl
set_option maxRecDepth 100000 in
theorem o_5_5_3 : chkQ run (.part 16387 fun _ => .three 20540 (.of 400) (.of 400) (.of 400)) [(12295, 3, 3), (8212, 0, 0), (4103, 5, 5), (7, 5, 5)] = true := by kernel_rfl
set_option maxRecDepth 100000 in
theorem o_5_5_4 : chkQ run (.part 16389 fun _ => .three 20540 (.of 400) (.of 400) (.of 400)) [(12295, 4, 4), (8212, 0, 0), (4103, 5, 5), (7, 5, 5)] = true := by kernel_rfl
set_option maxRecDepth 100000 in
theorem o_5_5_5 : chkQ run (.part 16391 fun _ => .three 20540 (.of 400) (.of 400) (.of 400)) [(12295, 5, 5), (8212, 0, 0), (4103, 5, 5), (7, 5, 5)] = true := by kernel_rfl
set_option maxRecDepth 100000 in
theorem o_5_5_6 : chkQ run (.part 16395 fun _ => .three 20540 (.of 400) (.of 400) (.of 400)) [(12295, 6, 6), (8212, 0, 0), (4103, 5, 5), (7, 5, 5)] = true := by kernel_rfl
theorem n_5_5 : Covers run [(4103, 5, 5), (7, 5, 5)] := Covers.two 8212 (by kernel_rfl) (Covers.part 12295 (by kernel_rfl) fun e he => by
  have h : e = 0 ∨ e = 1 ∨ e = 2 ∨ e = 3 ∨ e = 4 ∨ e = 5 ∨ e = 6 := by omega
  rcases h with rfl | rfl | rfl | rfl | rfl | rfl | rfl
  · exact .tree _ o_5_5_0
  · exact .tree _ o_5_5_1
  · exact .tree _ o_5_5_2
  · exact .tree _ o_5_5_3
  · exact .tree _ o_5_5_4
  · exact .tree _ o_5_5_5
  · exact .tree _ o_5_5_6
  ) (.tree _ s_5_5)
set_option maxRecDepth 100000 in
theorem s_4_2 : chkQ run (.part 12293 fun _ => .of 400) [(8212, 1, 19), (4101, 2, 2), (7, 4, 4)] = true := by kernel_rfl
set_option maxRecDepth 100000 in
theorem o_4_2_0 : chkQ run (.part 16385 fun _ => .three 20540 (.of 400) (.of 400) (.of 400)) [(12295, 0, 0), (8212, 0, 0), (4101, 2, 2), (7, 4, 4)] = true := by kernel_rfl
set_option maxRecDepth 100000 in
theorem o_4_2_1 : chkQ run (.part 16385 fun _ => .three 20540 (.of 400) (.of 400) (.of 400)) [(12295, 1, 1), (8212, 0, 0), (4101, 2, 2), (7, 4, 4)] = true := by kernel_rfl
set_option maxRecDepth 100000 in
theorem o_4_2_2 : chkQ run (.part 16386 fun _ => .three 20540 (.of 400) (.of 400) (.of 400)) [(12295, 2, 2), (8212, 0, 0), (4101, 2, 2), (7, 4, 4)] = true := by kernel_rfl
set_option maxRecDepth 100000 in
theorem o_4_2_3 : chkQ run (.part 16387 fun _ => .three 20540 (.of 400) (.of 400) (.of 400)) [(12295, 3, 3), (8212, 0, 0), (4101, 2, 2), (7, 4, 4)] = true := by kernel_rfl
set_option maxRecDepth 100000 in
theorem o_4_2_4 : chkQ run (.part 16389 fun _ => .three 20540 (.of 400) (.of 400) (.of 400)) [(12295, 4, 4), (8212, 0, 0), (4101, 2, 2), (7, 4, 4)] = true := by kernel_rfl
set_option maxRecDepth 100000 in
theorem o_4_2_5 : chkQ run (.part 16391 fun _ => .three 20540 (.of 400) (.of 400) (.of 400)) [(12295, 5, 5), (8212, 0, 0), (4101, 2, 2), (7, 4, 4)] = true := by kernel_rfl
set_option maxRecDepth 100000 in
theorem o_4_2_6 : chkQ run (.part 16395 fun _ => .three 20540 (.of 400) (.of 400) (.of 400)) [(12295, 6, 6), (8212, 0, 0), (4101, 2, 2), (7, 4, 4)] = true := by kernel_rfl
theorem n_4_2 : Covers run [(4101, 2, 2), (7, 4, 4)] := Covers.two 8212 (by kernel_rfl) (Covers.part 12295 (by kernel_rfl) fun e he => by
  have h : e = 0 ∨ e = 1 ∨ e = 2 ∨ e = 3 ∨ e = 4 ∨ e = 5 ∨ e = 6 := by omega
  rcases h with rfl | rfl | rfl | rfl | rfl | rfl | rfl
  · exact .tree _ o_4_2_0
  · exact .tree _ o_4_2_1
  · exact .tree _ o_4_2_2
  · exact .tree _ o_4_2_3
  · exact .tree _ o_4_2_4
  · exact .tree _ o_4_2_5
  · exact .tree _ o_4_2_6
  ) (.tree _ s_4_2)
set_option maxRecDepth 100000 in
theorem s_3_1 : chkQ run (.part 12291 fun _ => .of 400) [(8212, 1, 19), (4099, 1, 1), (7, 3, 3)] = true := by kernel_rfl
set_option maxRecDepth 100000 in
theorem o_3_1_0 : chkQ run (.part 16385 fun _ => .three 20540 (.of 400) (.of 400) (.of 400)) [(12295, 0, 0), (8212, 0, 0), (4099, 1, 1), (7, 3, 3)] = true := by kernel_rfl
set_option maxRecDepth 100000 in
theorem o_3_1_1 : chkQ run (.part 16385 fun _ => .three 20540 (.of 400) (.of 400) (.of 400)) [(12295, 1, 1), (8212, 0, 0), (4099, 1, 1), (7, 3, 3)] = true := by kernel_rfl
set_option maxRecDepth 100000 in
theorem o_3_1_2 : chkQ run (.part 16386 fun _ => .three 20540 (.of 400) (.of 400) (.of 400)) [(12295, 2, 2), (8212, 0, 0), (4099, 1, 1), (7, 3, 3)] = true := by kernel_rfl
set_option maxRecDepth 100000 in
theorem o_3_1_3 : chkQ run (.part 16387 fun _ => .three 20540 (.of 400) (.of 400) (.of 400)) [(12295, 3, 3), (8212, 0, 0), (4099, 1, 1), (7, 3, 3)] = true := by kernel_rfl
set_option maxRecDepth 100000 in
theorem o_3_1_4 : chkQ run (.part 16389 fun _ => .three 20540 (.of 400) (.of 400) (.of 400)) [(12295, 4, 4), (8212, 0, 0), (4099, 1, 1), (7, 3, 3)] = true := by kernel_rfl
set_option maxRecDepth 100000 in
theorem o_3_1_5 : chkQ run (.part 16391 fun _ => .three 20540 (.of 400) (.of 400) (.of 400)) [(12295, 5, 5), (8212, 0, 0), (4099, 1, 1), (7, 3, 3)] = true := by kernel_rfl
set_option maxRecDepth 100000 in
theorem o_3_1_6 : chkQ run (.part 16395 fun _ => .three 20540 (.of 400) (.of 400) (.of 400)) [(12295, 6, 6), (8212, 0, 0), (4099, 1, 1), (7, 3, 3)] = true := by kernel_rfl
theorem n_3_1 : Covers run [(4099, 1, 1), (7, 3, 3)] := Covers.two 8212 (by kernel_rfl) (Covers.part 12295 (by kernel_rfl) fun e he => by
  have h : e = 0 ∨ e = 1 ∨ e = 2 ∨ e = 3 ∨ e = 4 ∨ e = 5 ∨ e = 6 := by omega
  rcases h with rfl | rfl | rfl | rfl | rfl | rfl | rfl
  · exact .tree _ o_3_1_0
  · exact .tree _ o_3_1_1
  · exact .tree _ o_3_1_2
  · exact .tree _ o_3_1_3
  · exact .tree _ o_3_1_4
  · exact .tree _ o_3_1_5
  · exact .tree _ o_3_1_6
  ) (.tree _ s_3_1)
set_option maxRecDepth 100000 in
theorem s_1_0 : chkQ run (.part 12289 fun _ => .of 400) [(8212, 1, 19), (4097, 0, 0), (7, 1, 1)] = true := by kernel_rfl
set_option maxRecDepth 100000 in
theorem o_1_0_0 : chkQ run (.part 16385 fun _ => .three 20540 (.of 400) (.of 400) (.of 400)) [(12295, 0, 0), (8212, 0, 0), (4097, 0, 0), (7, 1, 1)] = true := by kernel_rfl
set_option maxRecDepth 100000 in
theorem o_1_0_1 : chkQ run (.part 16385 fun _ => .three 20540 (.of 400) (.of 400) (.of 400)) [(12295, 1, 1), (8212, 0, 0), (4097, 0, 0), (7, 1, 1)] = true := by kernel_rfl
set_option maxRecDepth 100000 in
theorem o_1_0_2 : chkQ run (.part 16386 fun _ => .three 20540 (.of 400) (.of 400) (.of 400)) [(12295, 2, 2), (8212, 0, 0), (4097, 0, 0), (7, 1, 1)] = true := by kernel_rfl
set_option maxRecDepth 100000 in
theorem o_1_0_3 : chkQ run (.part 16387 fun _ => .three 20540 (.of 400) (.of 400) (.of 400)) [(12295, 3, 3), (8212, 0, 0), (4097, 0, 0), (7, 1, 1)] = true := by kernel_rfl
set_option maxRecDepth 100000 in
theorem o_1_0_4 : chkQ run (.part 16389 fun _ => .three 20540 (.of 400) (.of 400) (.of 400)) [(12295, 4, 4), (8212, 0, 0), (4097, 0, 0), (7, 1, 1)] = true := by kernel_rfl
set_option maxRecDepth 100000 in
theorem o_1_0_5 : chkQ run (.part 16391 fun _ => .three 20540 (.of 400) (.of 400) (.of 400)) [(12295, 5, 5), (8212, 0, 0), (4097, 0, 0), (7, 1, 1)] = true := by kernel_rfl
set_option maxRecDepth 100000 in
theorem o_1_0_6 : chkQ run (.part 16395 fun _ => .three 20540 (.of 400) (.of 400) (.of 400)) [(12295, 6, 6), (8212, 0, 0), (4097, 0, 0), (7, 1, 1)] = true := by kernel_rfl
theorem n_1_0 : Covers run [(4097, 0, 0), (7, 1, 1)] := Covers.two 8212 (by kernel_rfl) (Covers.part 12295 (by kernel_rfl) fun e he => by
  have h : e = 0 ∨ e = 1 ∨ e = 2 ∨ e = 3 ∨ e = 4 ∨ e = 5 ∨ e = 6 := by omega
  rcases h with rfl | rfl | rfl | rfl | rfl | rfl | rfl
  · exact .tree _ o_1_0_0
  · exact .tree _ o_1_0_1
  · exact .tree _ o_1_0_2
  · exact .tree _ o_1_0_3
  · exact .tree _ o_1_0_4
  · exact .tree _ o_1_0_5
  · exact .tree _ o_1_0_6
  ) (.tree _ s_1_0)
end Go.Proofs.Ythcdiaahpodkoab.fnTablePowerRuns
