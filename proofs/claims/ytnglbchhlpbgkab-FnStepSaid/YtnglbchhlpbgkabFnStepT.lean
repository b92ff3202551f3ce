/- Runs of the program at a seat. -/
import Derived.Test.YtnglbchhlpbgkabStepD0
import Derived.Test.YtnglbchhlpbgkabStepD1
import Derived.Test.YtnglbchhlpbgkabStepD2
import Derived.Test.YtnglbchhlpbgkabFnStepR0
import Derived.Test.YtnglbchhlpbgkabFnStepR1
import Derived.Test.YtnglbchhlpbgkabFnStepR2
namespace Go.Proofs.Ytnglbchhlpbgkab.fnStepRuns
open Go Go.Eng
set_option linter.unusedVariables false
set_option linter.unusedSectionVars false
set_option linter.unusedSimpArgs false
open Go.Proofs.Ytnglbchhlpbgkab.stepDrawn
theorem a_ls0 : A ls0 := ⟨r_d0, r_d1, r_d2, r_d3, r_d4, r_d5, r_d6, r_d7, r_d8, r_d9, r_d10, r_d11, r_d12, r_d13, r_d14, r_d15, trivial⟩
theorem a_ls1 : A ls1 := ⟨r_d16, r_d17, r_d18, r_d2, r_d3, r_d4, r_d5, r_d6, r_d7, r_d8, r_d9, r_d10, r_d11, r_d12, r_d13, r_d14, r_d15, trivial⟩
theorem a_ls2 : A ls2 := ⟨r_d19, r_d20, r_d21, r_d2, r_d3, r_d4, r_d5, r_d6, r_d7, r_d8, r_d9, r_d10, r_d11, r_d12, r_d13, r_d14, r_d15, trivial⟩
theorem a_ls3 : A ls3 := ⟨r_d22, r_d23, r_d24, r_d25, r_d26, r_d27, r_d28, r_d2, r_d3, r_d4, r_d5, r_d6, r_d7, r_d8, r_d9, r_d10, r_d11, r_d12, r_d13, r_d14, r_d15, trivial⟩
theorem a_ls4 : A ls4 := ⟨r_d29, r_d30, r_d31, r_d2, r_d3, r_d4, r_d5, r_d6, r_d7, r_d8, r_d9, r_d10, r_d11, r_d12, r_d13, r_d14, r_d15, trivial⟩
theorem a_ls5 : A ls5 := ⟨r_d32, r_d33, r_d34, r_d35, r_d36, r_d37, r_d38, r_d2, r_d3, r_d4, r_d5, r_d6, r_d7, r_d8, r_d9, r_d10, r_d11, r_d12, r_d13, r_d14, r_d15, trivial⟩
theorem a_ls6 : A ls6 := ⟨r_d39, r_d40, r_d41, r_d42, r_d43, r_d44, r_d45, r_d46, r_d47, r_d48, r_d49, r_d50, r_d2, r_d3, r_d4, r_d5, r_d6, r_d7, r_d8, r_d9, r_d10, r_d11, r_d12, r_d13, r_d14, r_d15, trivial⟩
theorem a_ls7 : A ls7 := ⟨r_d51, r_d52, r_d53, r_d2, r_d3, r_d4, r_d5, r_d6, r_d7, r_d8, r_d9, r_d10, r_d11, r_d12, r_d13, r_d14, r_d15, trivial⟩
theorem a_ls8 : A ls8 := ⟨r_d54, r_d55, r_d56, r_d57, r_d58, r_d59, r_d60, r_d2, r_d3, r_d4, r_d5, r_d6, r_d7, r_d8, r_d9, r_d10, r_d11, r_d12, r_d13, r_d14, r_d15, trivial⟩
theorem a_ls9 : A ls9 := ⟨r_d61, r_d62, r_d63, r_d64, r_d65, r_d66, r_d67, r_d2, r_d3, r_d4, r_d5, r_d6, r_d7, r_d8, r_d9, r_d10, r_d11, r_d12, r_d13, r_d14, r_d15, trivial⟩
theorem a_ls10 : A ls10 := ⟨r_d68, r_d69, r_d70, r_d71, r_d72, r_d73, r_d74, r_d75, r_d76, r_d77, r_d78, r_d79, r_d2, r_d3, r_d4, r_d5, r_d6, r_d7, r_d8, r_d9, r_d10, r_d11, r_d12, r_d13, r_d14, r_d15, trivial⟩
theorem a_ls11 : A ls11 := ⟨r_d80, r_d81, r_d82, r_d83, r_d84, r_d85, r_d86, r_d87, r_d88, r_d89, r_d90, r_d91, r_d92, r_d93, r_d94, r_d95, r_d96, r_d97, r_d2, r_d3, r_d4, r_d5, r_d6, r_d7, r_d8, r_d9, r_d10, r_d11, r_d12, r_d13, r_d14, r_d15, trivial⟩
theorem a_ls12 : A ls12 := ⟨r_d98, r_d99, r_d100, r_d2, r_d3, r_d4, r_d5, r_d6, r_d7, r_d8, r_d9, r_d10, r_d11, r_d12, r_d13, r_d14, r_d15, trivial⟩
theorem a_ls13 : A ls13 := ⟨r_d101, r_d102, r_d103, r_d104, r_d105, r_d106, r_d107, r_d2, r_d3, r_d4, r_d5, r_d6, r_d7, r_d8, r_d9, r_d10, r_d11, r_d12, r_d13, r_d14, r_d15, trivial⟩
theorem a_ls14 : A ls14 := ⟨r_d108, r_d109, r_d110, r_d111, r_d112, r_d113, r_d114, r_d2, r_d3, r_d4, r_d5, r_d6, r_d7, r_d8, r_d9, r_d10, r_d11, r_d12, r_d13, r_d14, r_d15, trivial⟩
theorem a_ls15 : A ls15 := ⟨r_d115, r_d116, r_d117, r_d118, r_d119, r_d120, r_d121, r_d122, r_d123, r_d124, r_d125, r_d126, r_d2, r_d3, r_d4, r_d5, r_d6, r_d7, r_d8, r_d9, r_d10, r_d11, r_d12, r_d13, r_d14, r_d15, trivial⟩
theorem a_ls16 : A ls16 := ⟨r_d127, r_d128, r_d129, r_d130, r_d131, r_d132, r_d133, r_d134, r_d135, r_d136, r_d137, r_d138, r_d2, r_d3, r_d4, r_d5, r_d6, r_d7, r_d8, r_d9, r_d10, r_d11, r_d12, r_d13, r_d14, r_d15, trivial⟩
theorem a_ls17 : A ls17 := ⟨r_d139, r_d140, r_d141, r_d142, r_d143, r_d144, r_d145, r_d146, r_d147, r_d148, r_d149, r_d150, r_d151, r_d152, r_d153, r_d154, r_d155, r_d156, r_d2, r_d3, r_d4, r_d5, r_d6, r_d7, r_d8, r_d9, r_d10, r_d11, r_d12, r_d13, r_d14, r_d15, trivial⟩
theorem a_ls18 : A ls18 := ⟨r_d157, r_d158, r_d159, r_d160, r_d161, r_d162, r_d163, r_d164, r_d165, r_d166, r_d167, r_d168, r_d169, r_d170, r_d171, r_d172, r_d173, r_d174, r_d175, r_d176, r_d177, r_d178, r_d179, r_d180, r_d181, r_d2, r_d3, r_d4, r_d5, r_d6, r_d7, r_d8, r_d9, r_d10, r_d11, r_d12, r_d13, r_d14, r_d15, trivial⟩
theorem a_ls19 : A ls19 := ⟨r_d182, r_d183, r_d184, r_d2, r_d3, r_d4, r_d5, r_d6, r_d7, r_d8, r_d9, r_d10, r_d11, r_d12, r_d13, r_d14, r_d15, trivial⟩
theorem a_ls20 : A ls20 := ⟨r_d185, r_d186, r_d187, r_d188, r_d189, r_d190, r_d191, r_d2, r_d3, r_d4, r_d5, r_d6, r_d7, r_d8, r_d9, r_d10, r_d11, r_d12, r_d13, r_d14, r_d15, trivial⟩
theorem a_ls21 : A ls21 := ⟨r_d192, r_d193, r_d194, r_d195, r_d196, r_d197, r_d198, r_d2, r_d3, r_d4, r_d5, r_d6, r_d7, r_d8, r_d9, r_d10, r_d11, r_d12, r_d13, r_d14, r_d15, trivial⟩
theorem a_ls22 : A ls22 := ⟨r_d199, r_d200, r_d201, r_d202, r_d203, r_d204, r_d205, r_d206, r_d207, r_d208, r_d209, r_d210, r_d2, r_d3, r_d4, r_d5, r_d6, r_d7, r_d8, r_d9, r_d10, r_d11, r_d12, r_d13, r_d14, r_d15, trivial⟩
theorem a_ls23 : A ls23 := ⟨r_d211, r_d212, r_d213, r_d214, r_d215, r_d216, r_d217, r_d2, r_d3, r_d4, r_d5, r_d6, r_d7, r_d8, r_d9, r_d10, r_d11, r_d12, r_d13, r_d14, r_d15, trivial⟩
theorem a_ls24 : A ls24 := ⟨r_d218, r_d219, r_d220, r_d221, r_d222, r_d223, r_d224, r_d225, r_d226, r_d227, r_d228, r_d229, r_d2, r_d3, r_d4, r_d5, r_d6, r_d7, r_d8, r_d9, r_d10, r_d11, r_d12, r_d13, r_d14, r_d15, trivial⟩
theorem a_ls25 : A ls25 := ⟨r_d230, r_d231, r_d232, r_d233, r_d234, r_d235, r_d236, r_d237, r_d238, r_d239, r_d240, r_d241, r_d242, r_d243, r_d244, r_d245, r_d246, r_d247, r_d2, r_d3, r_d4, r_d5, r_d6, r_d7, r_d8, r_d9, r_d10, r_d11, r_d12, r_d13, r_d14, r_d15, trivial⟩
theorem a_ls26 : A ls26 := ⟨r_d248, r_d249, r_d250, r_d251, r_d252, r_d253, r_d254, r_d255, r_d256, r_d257, r_d258, r_d259, r_d2, r_d3, r_d4, r_d5, r_d6, r_d7, r_d8, r_d9, r_d10, r_d11, r_d12, r_d13, r_d14, r_d15, trivial⟩
theorem a_ls27 : A ls27 := ⟨r_d260, r_d261, r_d262, r_d263, r_d264, r_d265, r_d266, r_d267, r_d268, r_d269, r_d270, r_d271, r_d272, r_d273, r_d274, r_d275, r_d276, r_d277, r_d2, r_d3, r_d4, r_d5, r_d6, r_d7, r_d8, r_d9, r_d10, r_d11, r_d12, r_d13, r_d14, r_d15, trivial⟩
theorem a_ls28 : A ls28 := ⟨r_d278, r_d279, r_d280, r_d281, r_d282, r_d283, r_d284, r_d285, r_d286, r_d287, r_d288, r_d289, r_d290, r_d291, r_d292, r_d293, r_d294, r_d295, r_d296, r_d297, r_d298, r_d299, r_d300, r_d301, r_d302, r_d2, r_d3, r_d4, r_d5, r_d6, r_d7, r_d8, r_d9, r_d10, r_d11, r_d12, r_d13, r_d14, r_d15, trivial⟩
theorem a_ls29 : A ls29 := ⟨r_d303, r_d304, r_d305, r_d306, r_d307, r_d308, r_d309, r_d310, r_d311, r_d312, r_d313, r_d314, r_d315, r_d316, r_d317, r_d318, r_d319, r_d320, r_d321, r_d322, r_d323, r_d324, r_d325, r_d326, r_d327, r_d328, r_d329, r_d330, r_d331, r_d332, r_d333, r_d334, r_d335, r_d2, r_d3, r_d4, r_d5, r_d6, r_d7, r_d8, r_d9, r_d10, r_d11, r_d12, r_d13, r_d14, r_d15, trivial⟩
theorem n_0 : G [(7, 2, 2)] := CoversG.part 4098 (by kernel_rfl) fun v hv => by
  have h : v = 0 ∨ v = 1 := by omega
  rcases h with rfl | rfl
  · exact .drew (.ask (.tree _ c2_0)) a_ls2
  · exact .drew (.ask (.tree _ c2_1)) a_ls3
theorem n_1 : G [(7, 3, 3)] := CoversG.part 4099 (by kernel_rfl) fun v hv => by
  have h : v = 0 ∨ v = 1 ∨ v = 2 := by omega
  rcases h with rfl | rfl | rfl
  · exact .drew (.ask (.tree _ c3_0)) a_ls4
  · exact .drew (.ask (.tree _ c3_1)) a_ls5
  · exact .drew (.ask (.tree _ c3_2)) a_ls6
theorem n_2 : G [(7, 4, 4)] := CoversG.part 4101 (by kernel_rfl) fun v hv => by
  have h : v = 0 ∨ v = 1 ∨ v = 2 ∨ v = 3 ∨ v = 4 := by omega
  rcases h with rfl | rfl | rfl | rfl | rfl
  · exact .drew (.ask (.tree _ c4_0)) a_ls7
  · exact .drew (.ask (.tree _ c4_1)) a_ls8
  · exact .drew (.ask (.tree _ c4_2)) a_ls9
  · exact .drew (.ask (.tree _ c4_3)) a_ls10
  · exact .drew (.ask (.tree _ c4_4)) a_ls11
theorem n_3 : G [(7, 5, 5)] := CoversG.part 4103 (by kernel_rfl) fun v hv => by
  have h : v = 0 ∨ v = 1 ∨ v = 2 ∨ v = 3 ∨ v = 4 ∨ v = 5 ∨ v = 6 := by omega
  rcases h with rfl | rfl | rfl | rfl | rfl | rfl | rfl
  · exact .drew (.ask (.tree _ c5_0)) a_ls12
  · exact .drew (.ask (.tree _ c5_1)) a_ls13
  · exact .drew (.ask (.tree _ c5_2)) a_ls14
  · exact .drew (.ask (.tree _ c5_3)) a_ls15
  · exact .drew (.ask (.tree _ c5_4)) a_ls16
  · exact .drew (.ask (.tree _ c5_5)) a_ls17
  · exact .drew (.ask (.tree _ c5_6)) a_ls18
theorem n_4 : G [(7, 6, 6)] := CoversG.part 4107 (by kernel_rfl) fun v hv => by
  have h : v = 0 ∨ v = 1 ∨ v = 2 ∨ v = 3 ∨ v = 4 ∨ v = 5 ∨ v = 6 ∨ v = 7 ∨ v = 8 ∨ v = 9 ∨ v = 10 := by omega
  rcases h with rfl | rfl | rfl | rfl | rfl | rfl | rfl | rfl | rfl | rfl | rfl
  · exact .drew (.ask (.tree _ c6_0)) a_ls19
  · exact .drew (.ask (.tree _ c6_1)) a_ls20
  · exact .drew (.ask (.tree _ c6_2)) a_ls21
  · exact .drew (.ask (.tree _ c6_3)) a_ls22
  · exact .drew (.ask (.tree _ c6_4)) a_ls23
  · exact .drew (.ask (.tree _ c6_5)) a_ls24
  · exact .drew (.ask (.tree _ c6_6)) a_ls25
  · exact .drew (.ask (.tree _ c6_7)) a_ls26
  · exact .drew (.ask (.tree _ c6_8)) a_ls27
  · exact .drew (.ask (.tree _ c6_9)) a_ls28
  · exact .drew (.ask (.tree _ c6_10)) a_ls29
theorem n_5 : G [] := CoversG.part 7 (by kernel_rfl) fun v hv => by
  have h : v = 0 ∨ v = 1 ∨ v = 2 ∨ v = 3 ∨ v = 4 ∨ v = 5 ∨ v = 6 := by omega
  rcases h with rfl | rfl | rfl | rfl | rfl | rfl | rfl
  · exact .drew (.ask (.tree _ c0_0)) a_ls0
  · exact .drew (.ask (.tree _ c1_0)) a_ls1
  · exact n_0
  · exact n_1
  · exact n_2
  · exact n_3
  · exact n_4
end Go.Proofs.Ytnglbchhlpbgkab.fnStepRuns
