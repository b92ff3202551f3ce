/- Runs of the program at a seat. -/
import Derived.Test.YtcjemdcffmfloabPnumberD0
import Derived.Test.YtcjemdcffmfloabPnumberD1
import Derived.Test.YtcjemdcffmfloabPnumberD2
import Derived.Test.YtcjemdcffmfloabPnumberD3
import Derived.Test.YtcjemdcffmfloabFnNumberR0
import Derived.Test.YtcjemdcffmfloabFnNumberR1
import Derived.Test.YtcjemdcffmfloabFnNumberR2
import Derived.Test.YtcjemdcffmfloabFnNumberR3
namespace Go.Proofs.Ytcjemdcffmfloab.fnNumberRuns
open Go Go.Eng
set_option linter.unusedVariables false
set_option linter.unusedSectionVars false
set_option linter.unusedSimpArgs false
open Go.Proofs.Ytcjemdcffmfloab.pnumberDrawn
theorem a_ls0 : A ls0 := ⟨r_d0, r_d1, trivial⟩
theorem a_ls1 : A ls1 := ⟨r_d2, r_d3, r_d4, trivial⟩
theorem a_ls2 : A ls2 := ⟨r_d5, r_d6, r_d7, r_d8, r_d9, trivial⟩
theorem a_ls3 : A ls3 := ⟨r_d10, r_d11, r_d12, r_d13, r_d14, trivial⟩
theorem a_ls4 : A ls4 := ⟨r_d15, r_d16, r_d17, r_d18, r_d19, r_d20, r_d21, r_d22, trivial⟩
theorem a_ls5 : A ls5 := ⟨r_d23, r_d24, r_d25, r_d26, r_d27, r_d28, r_d29, r_d30, trivial⟩
theorem a_ls6 : A ls6 := ⟨r_d31, r_d32, r_d33, r_d34, r_d35, r_d36, r_d37, r_d38, trivial⟩
theorem a_ls7 : A ls7 := ⟨r_d39, r_d40, r_d41, trivial⟩
theorem a_ls8 : A ls8 := ⟨r_d42, r_d43, r_d44, r_d45, r_d46, trivial⟩
theorem a_ls9 : A ls9 := ⟨r_d47, r_d48, r_d49, r_d50, r_d51, r_d52, r_d53, r_d54, trivial⟩
theorem a_ls10 : A ls10 := ⟨r_d55, r_d56, r_d57, r_d58, r_d59, r_d60, r_d61, r_d62, trivial⟩
theorem a_ls11 : A ls11 := ⟨r_d63, r_d64, r_d65, r_d66, r_d67, r_d68, r_d69, r_d70, r_d71, r_d72, r_d73, r_d74, trivial⟩
theorem a_ls12 : A ls12 := ⟨r_d75, r_d76, r_d77, r_d78, r_d79, r_d80, r_d81, r_d82, r_d83, r_d84, r_d85, r_d86, trivial⟩
theorem a_ls13 : A ls13 := ⟨r_d87, r_d88, r_d89, r_d90, r_d91, r_d92, r_d93, r_d94, r_d95, r_d96, r_d97, r_d98, trivial⟩
theorem a_ls14 : A ls14 := ⟨r_d99, r_d100, r_d101, r_d102, r_d103, trivial⟩
theorem a_ls15 : A ls15 := ⟨r_d104, r_d105, r_d106, r_d107, r_d108, r_d109, r_d110, r_d111, trivial⟩
theorem a_ls16 : A ls16 := ⟨r_d112, r_d113, r_d114, r_d115, r_d116, r_d117, r_d118, r_d119, r_d120, r_d121, r_d122, r_d123, trivial⟩
theorem a_ls17 : A ls17 := ⟨r_d124, r_d125, r_d126, r_d127, r_d128, r_d129, r_d130, r_d131, r_d132, r_d133, r_d134, r_d135, trivial⟩
theorem a_ls18 : A ls18 := ⟨r_d136, r_d137, r_d138, r_d139, r_d140, r_d141, r_d142, r_d143, r_d144, r_d145, r_d146, r_d147, r_d148, r_d149, r_d150, r_d151, r_d152, r_d153, trivial⟩
theorem a_ls19 : A ls19 := ⟨r_d154, r_d155, r_d156, r_d157, r_d158, r_d159, r_d160, r_d161, r_d162, r_d163, r_d164, r_d165, r_d166, r_d167, r_d168, r_d169, r_d170, r_d171, trivial⟩
theorem a_ls20 : A ls20 := ⟨r_d172, r_d173, r_d174, r_d175, r_d176, r_d177, r_d178, r_d179, r_d180, r_d181, r_d182, r_d183, r_d184, r_d185, r_d186, r_d187, r_d188, r_d189, trivial⟩
theorem a_ls21 : A ls21 := ⟨r_d190, r_d191, r_d192, r_d193, r_d194, trivial⟩
theorem a_ls22 : A ls22 := ⟨r_d195, r_d196, r_d197, r_d198, r_d199, r_d200, r_d201, r_d202, trivial⟩
theorem a_ls23 : A ls23 := ⟨r_d203, r_d204, r_d205, r_d206, r_d207, r_d208, r_d209, r_d210, r_d211, r_d212, r_d213, r_d214, trivial⟩
theorem a_ls24 : A ls24 := ⟨r_d215, r_d216, r_d217, r_d218, r_d219, r_d220, r_d221, r_d222, r_d223, r_d224, r_d225, r_d226, trivial⟩
theorem a_ls25 : A ls25 := ⟨r_d227, r_d228, r_d229, r_d230, r_d231, r_d232, r_d233, r_d234, r_d235, r_d236, r_d237, r_d238, r_d239, r_d240, r_d241, r_d242, r_d243, r_d244, trivial⟩
theorem a_ls26 : A ls26 := ⟨r_d245, r_d246, r_d247, r_d248, r_d249, r_d250, r_d251, r_d252, r_d253, r_d254, r_d255, r_d256, r_d257, r_d258, r_d259, r_d260, r_d261, r_d262, trivial⟩
theorem a_ls27 : A ls27 := ⟨r_d263, r_d264, r_d265, r_d266, r_d267, r_d268, r_d269, r_d270, r_d271, r_d272, r_d273, r_d274, r_d275, r_d276, r_d277, r_d278, r_d279, r_d280, trivial⟩
theorem a_ls28 : A ls28 := ⟨r_d281, r_d282, r_d283, r_d284, r_d285, r_d286, r_d287, r_d288, trivial⟩
theorem a_ls29 : A ls29 := ⟨r_d289, r_d290, r_d291, r_d292, r_d293, r_d294, r_d295, r_d296, r_d297, r_d298, r_d299, r_d300, trivial⟩
theorem a_ls30 : A ls30 := ⟨r_d301, r_d302, r_d303, r_d304, r_d305, r_d306, r_d307, r_d308, r_d309, r_d310, r_d311, r_d312, r_d313, r_d314, r_d315, r_d316, r_d317, r_d318, trivial⟩
theorem a_ls31 : A ls31 := ⟨r_d319, r_d320, r_d321, r_d322, r_d323, r_d324, r_d325, r_d326, r_d327, r_d328, r_d329, r_d330, r_d331, r_d332, r_d333, r_d334, r_d335, r_d336, trivial⟩
theorem a_ls32 : A ls32 := ⟨r_d337, r_d338, r_d339, r_d340, r_d341, r_d342, r_d343, r_d344, r_d345, r_d346, r_d347, trivial⟩
theorem a_ls33 : A ls33 := ⟨r_d348, r_d349, r_d350, r_d351, r_d352, r_d353, r_d354, r_d355, r_d356, r_d357, r_d358, trivial⟩
theorem a_ls34 : A ls34 := ⟨r_d359, r_d360, r_d361, r_d362, r_d363, r_d364, r_d365, r_d366, r_d367, r_d368, r_d369, trivial⟩
theorem a_ls35 : A ls35 := ⟨r_d370, r_d371, r_d372, r_d373, r_d374, r_d375, r_d376, r_d377, trivial⟩
theorem a_ls36 : A ls36 := ⟨r_d378, r_d379, r_d380, r_d381, r_d382, r_d383, r_d384, r_d385, r_d386, r_d387, r_d388, r_d389, trivial⟩
theorem a_ls37 : A ls37 := ⟨r_d390, r_d391, r_d392, r_d393, r_d394, r_d395, r_d396, r_d397, r_d398, r_d399, r_d400, r_d401, r_d402, r_d403, r_d404, r_d405, r_d406, r_d407, trivial⟩
theorem a_ls38 : A ls38 := ⟨r_d408, r_d409, r_d410, r_d411, r_d412, r_d413, r_d414, r_d415, r_d416, r_d417, r_d418, r_d419, r_d420, r_d421, r_d422, r_d423, r_d424, r_d425, trivial⟩
theorem a_ls39 : A ls39 := ⟨r_d426, r_d427, r_d428, r_d429, r_d430, r_d431, r_d432, r_d433, r_d434, r_d435, r_d436, trivial⟩
theorem a_ls40 : A ls40 := ⟨r_d437, r_d438, r_d439, r_d440, r_d441, r_d442, r_d443, r_d444, r_d445, r_d446, r_d447, trivial⟩
theorem a_ls41 : A ls41 := ⟨r_d448, r_d449, r_d450, r_d451, r_d452, r_d453, r_d454, r_d455, r_d456, r_d457, r_d458, trivial⟩
theorem a_ls42 : A ls42 := ⟨r_d459, r_d460, r_d461, r_d462, r_d463, r_d464, r_d465, r_d466, trivial⟩
theorem a_ls43 : A ls43 := ⟨r_d467, r_d468, r_d469, r_d470, r_d471, r_d472, r_d473, r_d474, r_d475, r_d476, r_d477, r_d478, trivial⟩
theorem a_ls44 : A ls44 := ⟨r_d479, r_d480, r_d481, r_d482, r_d483, r_d484, r_d485, r_d486, r_d487, r_d488, r_d489, r_d490, r_d491, r_d492, r_d493, r_d494, r_d495, r_d496, trivial⟩
theorem a_ls45 : A ls45 := ⟨r_d497, r_d498, r_d499, r_d500, r_d501, r_d502, r_d503, r_d504, r_d505, r_d506, r_d507, r_d508, r_d509, r_d510, r_d511, r_d512, r_d513, r_d514, trivial⟩
theorem a_ls46 : A ls46 := ⟨r_d515, r_d516, r_d517, r_d518, r_d519, r_d520, r_d521, r_d522, r_d523, r_d524, r_d525, trivial⟩
theorem a_ls47 : A ls47 := ⟨r_d526, r_d527, r_d528, r_d529, r_d530, r_d531, r_d532, r_d533, r_d534, r_d535, r_d536, trivial⟩
theorem a_ls48 : A ls48 := ⟨r_d537, r_d538, r_d539, r_d540, r_d541, r_d542, r_d543, r_d544, r_d545, r_d546, r_d547, trivial⟩
theorem n_0 : G [(8196, 2, 2), (4, 0, 0)] := CoversG.part 12290 (by kernel_rfl) fun v hv => by
  have h : v = 0 ∨ v = 1 := by omega
  rcases h with rfl | rfl
  · exact .drew (.tree _ c_2) a_ls2
  · exact .drew (.tree _ c_11) a_ls3
theorem n_1 : G [(8196, 3, 3), (4, 0, 0)] := CoversG.part 12291 (by kernel_rfl) fun v hv => by
  have h : v = 0 ∨ v = 1 ∨ v = 2 := by omega
  rcases h with rfl | rfl | rfl
  · exact .drew (.tree _ c_3) a_ls4
  · exact .drew (.tree _ c_21) a_ls5
  · exact .drew (.tree _ c_111) a_ls6
theorem n_2 : G [(4, 0, 0)] := CoversG.part 8196 (by kernel_rfl) fun v hv => by
  have h : v = 0 ∨ v = 1 ∨ v = 2 ∨ v = 3 := by omega
  rcases h with rfl | rfl | rfl | rfl
  · exact .drew (.tree _ c_) a_ls0
  · exact .drew (.tree _ c_1) a_ls1
  · exact n_0
  · exact n_1
theorem n_3 : G [(8196, 2, 2), (4, 1, 1)] := CoversG.part 12290 (by kernel_rfl) fun v hv => by
  have h : v = 0 ∨ v = 1 := by omega
  rcases h with rfl | rfl
  · exact .drew (.tree _ c1_2) a_ls9
  · exact .drew (.tree _ c1_11) a_ls10
theorem n_4 : G [(8196, 3, 3), (4, 1, 1)] := CoversG.part 12291 (by kernel_rfl) fun v hv => by
  have h : v = 0 ∨ v = 1 ∨ v = 2 := by omega
  rcases h with rfl | rfl | rfl
  · exact .drew (.tree _ c1_3) a_ls11
  · exact .drew (.tree _ c1_21) a_ls12
  · exact .drew (.tree _ c1_111) a_ls13
theorem n_5 : G [(4, 1, 1)] := CoversG.part 8196 (by kernel_rfl) fun v hv => by
  have h : v = 0 ∨ v = 1 ∨ v = 2 ∨ v = 3 := by omega
  rcases h with rfl | rfl | rfl | rfl
  · exact .drew (.tree _ c1_) a_ls7
  · exact .drew (.tree _ c1_1) a_ls8
  · exact n_3
  · exact n_4
theorem n_6 : G [(8196, 2, 2), (4098, 0, 0), (4, 2, 2)] := CoversG.part 12290 (by kernel_rfl) fun v hv => by
  have h : v = 0 ∨ v = 1 := by omega
  rcases h with rfl | rfl
  · exact .drew (.tree _ c2_2) a_ls16
  · exact .drew (.tree _ c2_11) a_ls17
theorem n_7 : G [(8196, 3, 3), (4098, 0, 0), (4, 2, 2)] := CoversG.part 12291 (by kernel_rfl) fun v hv => by
  have h : v = 0 ∨ v = 1 ∨ v = 2 := by omega
  rcases h with rfl | rfl | rfl
  · exact .drew (.tree _ c2_3) a_ls18
  · exact .drew (.tree _ c2_21) a_ls19
  · exact .drew (.tree _ c2_111) a_ls20
theorem n_8 : G [(4098, 0, 0), (4, 2, 2)] := CoversG.part 8196 (by kernel_rfl) fun v hv => by
  have h : v = 0 ∨ v = 1 ∨ v = 2 ∨ v = 3 := by omega
  rcases h with rfl | rfl | rfl | rfl
  · exact .drew (.tree _ c2_) a_ls14
  · exact .drew (.tree _ c2_1) a_ls15
  · exact n_6
  · exact n_7
theorem n_9 : G [(8196, 2, 2), (4098, 1, 1), (4, 2, 2)] := CoversG.part 12290 (by kernel_rfl) fun v hv => by
  have h : v = 0 ∨ v = 1 := by omega
  rcases h with rfl | rfl
  · exact .drew (.tree _ c11_2) a_ls23
  · exact .drew (.tree _ c11_11) a_ls24
theorem n_10 : G [(8196, 3, 3), (4098, 1, 1), (4, 2, 2)] := CoversG.part 12291 (by kernel_rfl) fun v hv => by
  have h : v = 0 ∨ v = 1 ∨ v = 2 := by omega
  rcases h with rfl | rfl | rfl
  · exact .drew (.tree _ c11_3) a_ls25
  · exact .drew (.tree _ c11_21) a_ls26
  · exact .drew (.tree _ c11_111) a_ls27
theorem n_11 : G [(4098, 1, 1), (4, 2, 2)] := CoversG.part 8196 (by kernel_rfl) fun v hv => by
  have h : v = 0 ∨ v = 1 ∨ v = 2 ∨ v = 3 := by omega
  rcases h with rfl | rfl | rfl | rfl
  · exact .drew (.tree _ c11_) a_ls21
  · exact .drew (.tree _ c11_1) a_ls22
  · exact n_9
  · exact n_10
theorem n_12 : G [(4, 2, 2)] := CoversG.part 4098 (by kernel_rfl) fun v hv => by
  have h : v = 0 ∨ v = 1 := by omega
  rcases h with rfl | rfl
  · exact n_8
  · exact n_11
theorem n_13 : G [(8196, 2, 2), (4099, 0, 0), (4, 3, 3)] := CoversG.part 12290 (by kernel_rfl) fun v hv => by
  have h : v = 0 ∨ v = 1 := by omega
  rcases h with rfl | rfl
  · exact .drew (.tree _ c3_2) a_ls30
  · exact .drew (.tree _ c3_11) a_ls31
theorem n_14 : G [(8196, 3, 3), (4099, 0, 0), (4, 3, 3)] := CoversG.part 12291 (by kernel_rfl) fun v hv => by
  have h : v = 0 ∨ v = 1 ∨ v = 2 := by omega
  rcases h with rfl | rfl | rfl
  · exact .drew (.tree _ c3_3) a_ls32
  · exact .drew (.tree _ c3_21) a_ls33
  · exact .drew (.tree _ c3_111) a_ls34
theorem n_15 : G [(4099, 0, 0), (4, 3, 3)] := CoversG.part 8196 (by kernel_rfl) fun v hv => by
  have h : v = 0 ∨ v = 1 ∨ v = 2 ∨ v = 3 := by omega
  rcases h with rfl | rfl | rfl | rfl
  · exact .drew (.tree _ c3_) a_ls28
  · exact .drew (.tree _ c3_1) a_ls29
  · exact n_13
  · exact n_14
theorem n_16 : G [(8196, 2, 2), (4099, 1, 1), (4, 3, 3)] := CoversG.part 12290 (by kernel_rfl) fun v hv => by
  have h : v = 0 ∨ v = 1 := by omega
  rcases h with rfl | rfl
  · exact .drew (.tree _ c21_2) a_ls37
  · exact .drew (.tree _ c21_11) a_ls38
theorem n_17 : G [(8196, 3, 3), (4099, 1, 1), (4, 3, 3)] := CoversG.part 12291 (by kernel_rfl) fun v hv => by
  have h : v = 0 ∨ v = 1 ∨ v = 2 := by omega
  rcases h with rfl | rfl | rfl
  · exact .drew (.tree _ c21_3) a_ls39
  · exact .drew (.tree _ c21_21) a_ls40
  · exact .drew (.tree _ c21_111) a_ls41
theorem n_18 : G [(4099, 1, 1), (4, 3, 3)] := CoversG.part 8196 (by kernel_rfl) fun v hv => by
  have h : v = 0 ∨ v = 1 ∨ v = 2 ∨ v = 3 := by omega
  rcases h with rfl | rfl | rfl | rfl
  · exact .drew (.tree _ c21_) a_ls35
  · exact .drew (.tree _ c21_1) a_ls36
  · exact n_16
  · exact n_17
theorem n_19 : G [(8196, 2, 2), (4099, 2, 2), (4, 3, 3)] := CoversG.part 12290 (by kernel_rfl) fun v hv => by
  have h : v = 0 ∨ v = 1 := by omega
  rcases h with rfl | rfl
  · exact .drew (.tree _ c111_2) a_ls44
  · exact .drew (.tree _ c111_11) a_ls45
theorem n_20 : G [(8196, 3, 3), (4099, 2, 2), (4, 3, 3)] := CoversG.part 12291 (by kernel_rfl) fun v hv => by
  have h : v = 0 ∨ v = 1 ∨ v = 2 := by omega
  rcases h with rfl | rfl | rfl
  · exact .drew (.tree _ c111_3) a_ls46
  · exact .drew (.tree _ c111_21) a_ls47
  · exact .drew (.tree _ c111_111) a_ls48
theorem n_21 : G [(4099, 2, 2), (4, 3, 3)] := CoversG.part 8196 (by kernel_rfl) fun v hv => by
  have h : v = 0 ∨ v = 1 ∨ v = 2 ∨ v = 3 := by omega
  rcases h with rfl | rfl | rfl | rfl
  · exact .drew (.tree _ c111_) a_ls42
  · exact .drew (.tree _ c111_1) a_ls43
  · exact n_19
  · exact n_20
theorem n_22 : G [(4, 3, 3)] := CoversG.part 4099 (by kernel_rfl) fun v hv => by
  have h : v = 0 ∨ v = 1 ∨ v = 2 := by omega
  rcases h with rfl | rfl | rfl
  · exact n_15
  · exact n_18
  · exact n_21
theorem n_23 : G [] := CoversG.part 4 (by kernel_rfl) fun v hv => by
  have h : v = 0 ∨ v = 1 ∨ v = 2 ∨ v = 3 := by omega
  rcases h with rfl | rfl | rfl | rfl
  · exact n_2
  · exact n_5
  · exact n_12
  · exact n_22
end Go.Proofs.Ytcjemdcffmfloab.fnNumberRuns
