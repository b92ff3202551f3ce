/- Runs of the program at a seat. -/
import Derived.Test.YthggbkoccgigaaaPairD0
import Derived.Test.YthggbkoccgigaaaPairD1
import Derived.Test.YthggbkoccgigaaaPairD2
import Derived.Test.YthggbkoccgigaaaPairD3
import Derived.Test.YthggbkoccgigaaaFnTableFullR0
import Derived.Test.YthggbkoccgigaaaFnTableFullR1
import Derived.Test.YthggbkoccgigaaaFnTableFullR2
import Derived.Test.YthggbkoccgigaaaFnTableFullR3
namespace Go.Proofs.Ythggbkoccgigaaa.fnTableFullRuns
open Go Go.Eng
set_option linter.unusedVariables false
set_option linter.unusedSectionVars false
set_option linter.unusedSimpArgs false
open Go.Proofs.Ythggbkoccgigaaa.pairDrawn
theorem a_ls0 : A ls0 := ⟨r_d0, r_d1, r_d2, r_d3, r_d4, r_d5, r_d6, r_d7, r_d8, r_d9, r_d10, r_d11, r_d12, r_d13, r_d14, r_d15, r_d16, r_d17, r_d18, r_d19, r_d20, r_d21, r_d22, r_d23, r_d24, r_d25, r_d26, r_d27, r_d28, r_d29, r_d30, r_d31, trivial⟩
theorem a_ls1 : A ls1 := ⟨r_d32, r_d33, r_d34, r_d35, r_d36, r_d37, r_d38, r_d39, r_d40, r_d41, r_d42, r_d43, r_d44, r_d45, r_d46, r_d47, r_d48, r_d49, r_d50, r_d51, r_d52, r_d53, r_d54, r_d55, r_d56, r_d57, r_d58, r_d59, r_d60, r_d61, r_d62, r_d63, trivial⟩
theorem a_ls2 : A ls2 := ⟨r_d64, r_d65, r_d66, r_d67, r_d68, r_d69, r_d70, r_d71, r_d72, r_d73, r_d74, r_d75, r_d76, r_d77, r_d78, r_d79, r_d80, r_d81, r_d82, r_d83, r_d84, r_d85, r_d86, r_d87, r_d88, r_d89, r_d90, r_d91, r_d92, r_d93, r_d94, r_d95, trivial⟩
theorem a_ls3 : A ls3 := ⟨r_d96, r_d97, r_d98, r_d99, r_d100, r_d101, r_d102, r_d103, r_d104, r_d105, r_d106, r_d107, r_d108, r_d109, r_d110, r_d111, r_d112, r_d113, r_d114, r_d115, r_d116, r_d117, r_d118, r_d119, r_d120, r_d121, r_d122, r_d123, r_d124, r_d125, r_d126, r_d127, trivial⟩
theorem a_ls4 : A ls4 := ⟨r_d128, r_d129, r_d130, r_d131, r_d132, r_d133, r_d134, r_d135, r_d136, r_d137, r_d138, r_d139, r_d140, r_d141, r_d142, r_d143, r_d144, r_d145, r_d146, r_d147, r_d148, r_d149, r_d150, r_d151, r_d152, r_d153, r_d154, r_d155, r_d156, r_d157, r_d158, r_d159, trivial⟩
theorem a_ls5 : A ls5 := ⟨r_d160, r_d161, r_d162, r_d163, r_d164, r_d165, r_d166, r_d167, r_d168, r_d169, r_d170, r_d171, r_d172, r_d173, r_d174, r_d175, r_d176, r_d177, r_d178, r_d179, r_d180, r_d181, r_d182, r_d183, r_d184, r_d185, r_d186, r_d187, r_d188, r_d189, r_d190, r_d191, trivial⟩
theorem a_ls6 : A ls6 := ⟨r_d192, r_d193, r_d194, r_d195, r_d196, r_d197, r_d198, r_d199, r_d200, r_d201, r_d202, r_d203, r_d204, r_d205, r_d206, r_d207, r_d208, r_d209, r_d210, r_d211, r_d212, r_d213, r_d214, r_d215, r_d216, r_d217, r_d218, r_d219, r_d220, r_d221, r_d222, r_d223, trivial⟩
theorem a_ls7 : A ls7 := ⟨r_d224, r_d225, r_d226, r_d227, r_d228, r_d229, r_d230, r_d231, r_d232, r_d233, r_d234, r_d235, r_d236, r_d237, r_d238, r_d239, r_d240, r_d241, r_d242, r_d243, r_d244, r_d245, r_d246, r_d247, r_d248, r_d249, r_d250, r_d251, r_d252, r_d253, r_d254, r_d255, trivial⟩
theorem a_ls8 : A ls8 := ⟨r_d256, r_d257, r_d258, r_d259, r_d260, r_d261, r_d262, r_d263, r_d264, r_d265, r_d266, r_d267, r_d268, r_d269, r_d270, r_d271, r_d272, r_d273, r_d274, r_d275, r_d276, r_d277, r_d278, r_d279, r_d280, r_d281, r_d282, r_d283, r_d284, r_d285, r_d286, r_d287, trivial⟩
theorem a_ls9 : A ls9 := ⟨r_d288, r_d289, r_d290, r_d291, r_d292, r_d293, r_d294, r_d295, r_d296, r_d297, r_d298, r_d299, r_d300, r_d301, r_d302, r_d303, r_d304, r_d305, r_d306, r_d307, r_d308, r_d309, r_d310, r_d311, r_d312, r_d313, r_d314, r_d315, r_d316, r_d317, r_d318, r_d319, trivial⟩
theorem a_ls10 : A ls10 := ⟨r_d320, r_d321, r_d322, r_d323, r_d324, r_d325, r_d326, r_d327, r_d328, r_d329, r_d330, r_d331, r_d332, r_d333, r_d334, r_d335, r_d336, r_d337, r_d338, r_d339, r_d340, r_d341, r_d342, r_d343, r_d344, r_d345, r_d346, r_d347, r_d348, r_d349, r_d350, r_d351, trivial⟩
theorem a_ls11 : A ls11 := ⟨r_d352, r_d353, r_d354, r_d355, r_d356, r_d357, r_d358, r_d359, r_d360, r_d361, r_d362, r_d363, r_d364, r_d365, r_d366, r_d367, r_d368, r_d369, r_d370, r_d371, r_d372, r_d373, r_d374, r_d375, r_d376, r_d377, r_d378, r_d379, r_d380, r_d381, r_d382, r_d383, trivial⟩
theorem a_ls12 : A ls12 := ⟨r_d384, r_d385, r_d386, r_d387, r_d388, r_d389, r_d390, r_d391, r_d392, r_d393, r_d394, r_d395, r_d396, r_d397, r_d398, r_d399, r_d400, r_d401, r_d402, r_d403, r_d404, r_d405, r_d406, r_d407, r_d408, r_d409, r_d410, r_d411, r_d412, r_d413, r_d414, r_d415, trivial⟩
theorem a_ls13 : A ls13 := ⟨r_d416, r_d417, r_d418, r_d419, r_d420, r_d421, r_d422, r_d423, r_d424, r_d425, r_d426, r_d427, r_d428, r_d429, r_d430, r_d431, r_d432, r_d433, r_d434, r_d435, r_d436, r_d437, r_d438, r_d439, r_d440, r_d441, r_d442, r_d443, r_d444, r_d445, r_d446, r_d447, trivial⟩
theorem a_ls14 : A ls14 := ⟨r_d448, r_d449, r_d450, r_d451, r_d452, r_d453, r_d454, r_d455, r_d456, r_d457, r_d458, r_d459, r_d460, r_d461, r_d462, r_d463, r_d464, r_d465, r_d466, r_d467, r_d468, r_d469, r_d470, r_d471, r_d472, r_d473, r_d474, r_d475, r_d476, r_d477, r_d478, r_d479, trivial⟩
theorem a_ls15 : A ls15 := ⟨r_d480, r_d481, r_d482, r_d483, r_d484, r_d485, r_d486, r_d487, r_d488, r_d489, r_d490, r_d491, r_d492, r_d493, r_d494, r_d495, r_d496, r_d497, r_d498, r_d499, r_d500, r_d501, r_d502, r_d503, r_d504, r_d505, r_d506, r_d507, r_d508, r_d509, r_d510, r_d511, trivial⟩
theorem a_ls16 : A ls16 := ⟨r_d512, r_d513, r_d514, r_d515, r_d516, r_d517, r_d518, r_d519, r_d520, r_d521, r_d522, r_d523, r_d524, r_d525, r_d526, r_d527, r_d528, r_d529, r_d530, r_d531, r_d532, r_d533, r_d534, r_d535, r_d536, r_d537, r_d538, r_d539, r_d540, r_d541, r_d542, r_d543, trivial⟩
theorem a_ls17 : A ls17 := ⟨r_d544, r_d545, r_d546, r_d547, r_d548, r_d549, r_d550, r_d551, r_d552, r_d553, r_d554, r_d555, r_d556, r_d557, r_d558, r_d559, r_d560, r_d561, r_d562, r_d563, r_d564, r_d565, r_d566, r_d567, r_d568, r_d569, r_d570, r_d571, r_d572, r_d573, r_d574, r_d575, trivial⟩
theorem a_ls18 : A ls18 := ⟨r_d576, r_d577, r_d578, r_d579, r_d580, r_d581, r_d582, r_d583, r_d584, r_d585, r_d586, r_d587, r_d588, r_d589, r_d590, r_d591, r_d592, r_d593, r_d594, r_d595, r_d596, r_d597, r_d598, r_d599, r_d600, r_d601, r_d602, r_d603, r_d604, r_d605, r_d606, r_d607, trivial⟩
theorem a_ls19 : A ls19 := ⟨r_d608, r_d609, r_d610, r_d611, r_d612, r_d613, r_d614, r_d615, r_d616, r_d617, r_d618, r_d619, r_d620, r_d621, r_d622, r_d623, r_d624, r_d625, r_d626, r_d627, r_d628, r_d629, r_d630, r_d631, r_d632, r_d633, r_d634, r_d635, r_d636, r_d637, r_d638, r_d639, trivial⟩
theorem a_ls20 : A ls20 := ⟨r_d640, r_d641, r_d642, r_d643, r_d644, r_d645, r_d646, r_d647, r_d648, r_d649, r_d650, r_d651, r_d652, r_d653, r_d654, r_d655, r_d656, r_d657, r_d658, r_d659, r_d660, r_d661, r_d662, r_d663, r_d664, r_d665, r_d666, r_d667, r_d668, r_d669, r_d670, r_d671, trivial⟩
theorem a_ls21 : A ls21 := ⟨r_d672, r_d673, r_d674, r_d675, r_d676, r_d677, r_d678, r_d679, r_d680, r_d681, r_d682, r_d683, r_d684, r_d685, r_d686, r_d687, r_d688, r_d689, r_d690, r_d691, r_d692, r_d693, r_d694, r_d695, r_d696, r_d697, r_d698, r_d699, r_d700, r_d701, r_d702, r_d703, trivial⟩
theorem a_ls22 : A ls22 := ⟨r_d704, r_d705, r_d706, r_d707, r_d708, r_d709, r_d710, r_d711, r_d712, r_d713, r_d714, r_d715, r_d716, r_d717, r_d718, r_d719, r_d720, r_d721, r_d722, r_d723, r_d724, r_d725, r_d726, r_d727, r_d728, r_d729, r_d730, r_d731, r_d732, r_d733, r_d734, r_d735, trivial⟩
theorem a_ls23 : A ls23 := ⟨r_d736, r_d737, r_d738, r_d739, r_d740, r_d741, r_d742, r_d743, r_d744, r_d745, r_d746, r_d747, r_d748, r_d749, r_d750, r_d751, r_d752, r_d753, r_d754, r_d755, r_d756, r_d757, r_d758, r_d759, r_d760, r_d761, r_d762, r_d763, r_d764, r_d765, r_d766, r_d767, trivial⟩
theorem a_ls24 : A ls24 := ⟨r_d768, r_d769, r_d770, r_d771, r_d772, r_d773, r_d774, r_d775, r_d776, r_d777, r_d778, r_d779, r_d780, r_d781, r_d782, r_d783, r_d784, r_d785, r_d786, r_d787, r_d788, r_d789, r_d790, r_d791, r_d792, r_d793, r_d794, r_d795, r_d796, r_d797, r_d798, r_d799, trivial⟩
theorem a_ls25 : A ls25 := ⟨r_d800, r_d801, r_d802, r_d803, r_d804, r_d805, r_d806, r_d807, r_d808, r_d809, r_d810, r_d811, r_d812, r_d813, r_d814, r_d815, r_d816, r_d817, r_d818, r_d819, r_d820, r_d821, r_d822, r_d823, r_d824, r_d825, r_d826, r_d827, r_d828, r_d829, r_d830, r_d831, trivial⟩
theorem a_ls26 : A ls26 := ⟨r_d832, r_d833, r_d834, r_d835, r_d836, r_d837, r_d838, r_d839, r_d840, r_d841, r_d842, r_d843, r_d844, r_d845, r_d846, r_d847, r_d848, r_d849, r_d850, r_d851, r_d852, r_d853, r_d854, r_d855, r_d856, r_d857, r_d858, r_d859, r_d860, r_d861, r_d862, r_d863, trivial⟩
theorem a_ls27 : A ls27 := ⟨r_d864, r_d865, r_d866, r_d867, r_d868, r_d869, r_d870, r_d871, r_d872, r_d873, r_d874, r_d875, r_d876, r_d877, r_d878, r_d879, r_d880, r_d881, r_d882, r_d883, r_d884, r_d885, r_d886, r_d887, r_d888, r_d889, r_d890, r_d891, r_d892, r_d893, r_d894, r_d895, trivial⟩
theorem a_ls28 : A ls28 := ⟨r_d896, r_d897, r_d898, r_d899, r_d900, r_d901, r_d902, r_d903, r_d904, r_d905, r_d906, r_d907, r_d908, r_d909, r_d910, r_d911, r_d912, r_d913, r_d914, r_d915, r_d916, r_d917, r_d918, r_d919, r_d920, r_d921, r_d922, r_d923, r_d924, r_d925, r_d926, r_d927, trivial⟩
theorem a_ls29 : A ls29 := ⟨r_d928, r_d929, r_d930, r_d931, r_d932, r_d933, r_d934, r_d935, r_d936, r_d937, r_d938, r_d939, r_d940, r_d941, r_d942, r_d943, r_d944, r_d945, r_d946, r_d947, r_d948, r_d949, r_d950, r_d951, r_d952, r_d953, r_d954, r_d955, r_d956, r_d957, r_d958, r_d959, trivial⟩
theorem n_0 : G [(7, 2, 2)] := CoversG.part 4098 (by kernel_rfl) fun v hv => by
  have h : v = 0 ∨ v = 1 := by omega
  rcases h with rfl | rfl
  · exact .drew (.tree _ c2_0) a_ls2
  · exact .drew (.tree _ c2_1) a_ls3
theorem n_1 : G [(7, 3, 3)] := CoversG.part 4099 (by kernel_rfl) fun v hv => by
  have h : v = 0 ∨ v = 1 ∨ v = 2 := by omega
  rcases h with rfl | rfl | rfl
  · exact .drew (.tree _ c3_0) a_ls4
  · exact .drew (.tree _ c3_1) a_ls5
  · exact .drew (.tree _ c3_2) a_ls6
theorem n_2 : G [(7, 4, 4)] := CoversG.part 4101 (by kernel_rfl) fun v hv => by
  have h : v = 0 ∨ v = 1 ∨ v = 2 ∨ v = 3 ∨ v = 4 := by omega
  rcases h with rfl | rfl | rfl | rfl | rfl
  · exact .drew (.tree _ c4_0) a_ls7
  · exact .drew (.tree _ c4_1) a_ls8
  · exact .drew (.tree _ c4_2) a_ls9
  · exact .drew (.tree _ c4_3) a_ls10
  · exact .drew (.tree _ c4_4) a_ls11
theorem n_3 : G [(7, 5, 5)] := CoversG.part 4103 (by kernel_rfl) fun v hv => by
  have h : v = 0 ∨ v = 1 ∨ v = 2 ∨ v = 3 ∨ v = 4 ∨ v = 5 ∨ v = 6 := by omega
  rcases h with rfl | rfl | rfl | rfl | rfl | rfl | rfl
  · exact .drew (.tree _ c5_0) a_ls12
  · exact .drew (.tree _ c5_1) a_ls13
  · exact .drew (.tree _ c5_2) a_ls14
  · exact .drew (.tree _ c5_3) a_ls15
  · exact .drew (.tree _ c5_4) a_ls16
  · exact .drew (.tree _ c5_5) a_ls17
  · exact .drew (.tree _ c5_6) a_ls18
theorem n_4 : G [(7, 6, 6)] := CoversG.part 4107 (by kernel_rfl) fun v hv => by
  have h : v = 0 ∨ v = 1 ∨ v = 2 ∨ v = 3 ∨ v = 4 ∨ v = 5 ∨ v = 6 ∨ v = 7 ∨ v = 8 ∨ v = 9 ∨ v = 10 := by omega
  rcases h with rfl | rfl | rfl | rfl | rfl | rfl | rfl | rfl | rfl | rfl | rfl
  · exact .drew (.tree _ c6_0) a_ls19
  · exact .drew (.tree _ c6_1) a_ls20
  · exact .drew (.tree _ c6_2) a_ls21
  · exact .drew (.tree _ c6_3) a_ls22
  · exact .drew (.tree _ c6_4) a_ls23
  · exact .drew (.tree _ c6_5) a_ls24
  · exact .drew (.tree _ c6_6) a_ls25
  · exact .drew (.tree _ c6_7) a_ls26
  · exact .drew (.tree _ c6_8) a_ls27
  · exact .drew (.tree _ c6_9) a_ls28
  · exact .drew (.tree _ c6_10) a_ls29
theorem n_5 : G [] := CoversG.part 7 (by kernel_rfl) fun v hv => by
  have h : v = 0 ∨ v = 1 ∨ v = 2 ∨ v = 3 ∨ v = 4 ∨ v = 5 ∨ v = 6 := by omega
  rcases h with rfl | rfl | rfl | rfl | rfl | rfl | rfl
  · exact .drew (.tree _ c0_0) a_ls0
  · exact .drew (.tree _ c1_0) a_ls1
  · exact n_0
  · exact n_1
  · exact n_2
  · exact n_3
  · exact n_4
end Go.Proofs.Ythggbkoccgigaaa.fnTableFullRuns
