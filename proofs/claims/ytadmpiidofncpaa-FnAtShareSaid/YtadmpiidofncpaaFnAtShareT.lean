/- Runs of the program at a seat. -/
import Derived.Test.YtadmpiidofncpaaAtshareD0
import Derived.Test.YtadmpiidofncpaaAtshareD1
import Derived.Test.YtadmpiidofncpaaAtshareD2
import Derived.Test.YtadmpiidofncpaaAtshareD3
import Derived.Test.YtadmpiidofncpaaAtshareD4
import Derived.Test.YtadmpiidofncpaaAtshareD5
import Derived.Test.YtadmpiidofncpaaAtshareD6
import Derived.Test.YtadmpiidofncpaaAtshareD7
import Derived.Test.YtadmpiidofncpaaFnAtShareR0
import Derived.Test.YtadmpiidofncpaaFnAtShareR1
import Derived.Test.YtadmpiidofncpaaFnAtShareR2
import Derived.Test.YtadmpiidofncpaaFnAtShareR3
import Derived.Test.YtadmpiidofncpaaFnAtShareR4
import Derived.Test.YtadmpiidofncpaaFnAtShareR5
import Derived.Test.YtadmpiidofncpaaFnAtShareR6
import Derived.Test.YtadmpiidofncpaaFnAtShareR7
namespace Go.Proofs.Ytadmpiidofncpaa.fnAtShareRuns
open Go Go.Eng
set_option linter.unusedVariables false
set_option linter.unusedSectionVars false
set_option linter.unusedSimpArgs false
open Go.Proofs.Ytadmpiidofncpaa.atshareDrawn
theorem a_ls0 : A ls0 := ⟨r_d0, r_d1, r_d2, r_d3, r_d4, r_d5, r_d6, r_d7, r_d8, r_d9, r_d10, r_d11, r_d12, r_d13, r_d14, r_d15, r_d16, r_d17, r_d18, r_d19, r_d20, r_d21, r_d22, r_d23, r_d24, r_d25, r_d26, r_d27, r_d28, r_d29, r_d30, r_d31, r_d32, trivial⟩
theorem a_ls1 : A ls1 := ⟨r_d33, r_d34, r_d35, r_d36, r_d37, r_d38, r_d39, r_d40, r_d41, r_d42, r_d43, r_d11, r_d12, r_d13, r_d14, r_d15, r_d16, r_d17, r_d18, r_d19, r_d20, r_d21, r_d22, r_d23, r_d24, r_d25, r_d26, r_d27, r_d28, r_d29, r_d30, r_d31, r_d32, trivial⟩
theorem a_ls2 : A ls2 := ⟨r_d44, r_d45, r_d46, r_d47, r_d48, r_d49, r_d50, r_d51, r_d52, r_d53, r_d54, r_d11, r_d12, r_d13, r_d14, r_d15, r_d16, r_d17, r_d18, r_d19, r_d20, r_d21, r_d22, r_d23, r_d24, r_d25, r_d26, r_d27, r_d28, r_d29, r_d30, r_d31, r_d32, trivial⟩
theorem a_ls3 : A ls3 := ⟨r_d55, r_d56, r_d57, r_d58, r_d59, r_d60, r_d61, r_d62, r_d63, r_d64, r_d65, r_d11, r_d12, r_d13, r_d14, r_d15, r_d16, r_d17, r_d18, r_d19, r_d20, r_d21, r_d22, r_d23, r_d24, r_d25, r_d26, r_d27, r_d28, r_d29, r_d30, r_d31, r_d32, trivial⟩
theorem a_ls4 : A ls4 := ⟨r_d66, r_d67, r_d68, r_d69, r_d70, r_d71, r_d72, r_d73, r_d74, r_d75, r_d76, r_d11, r_d12, r_d13, r_d14, r_d15, r_d16, r_d17, r_d18, r_d19, r_d20, r_d21, r_d22, r_d23, r_d24, r_d25, r_d26, r_d27, r_d28, r_d29, r_d30, r_d31, r_d32, trivial⟩
theorem a_ls5 : A ls5 := ⟨r_d77, r_d78, r_d79, r_d80, r_d81, r_d82, r_d83, r_d84, r_d85, r_d86, r_d87, r_d11, r_d12, r_d13, r_d14, r_d15, r_d16, r_d17, r_d18, r_d19, r_d20, r_d21, r_d22, r_d23, r_d24, r_d25, r_d26, r_d27, r_d28, r_d29, r_d30, r_d31, r_d32, trivial⟩
theorem a_ls6 : A ls6 := ⟨r_d88, r_d89, r_d90, r_d91, r_d92, r_d93, r_d94, r_d95, r_d96, r_d97, r_d98, r_d11, r_d12, r_d13, r_d14, r_d15, r_d16, r_d17, r_d18, r_d19, r_d20, r_d21, r_d22, r_d23, r_d24, r_d25, r_d26, r_d27, r_d28, r_d29, r_d30, r_d31, r_d32, trivial⟩
theorem a_ls7 : A ls7 := ⟨r_d99, r_d100, r_d101, r_d102, r_d103, r_d104, r_d105, r_d106, r_d107, r_d108, r_d109, r_d11, r_d12, r_d13, r_d14, r_d15, r_d16, r_d17, r_d18, r_d19, r_d20, r_d21, r_d22, r_d23, r_d24, r_d25, r_d26, r_d27, r_d28, r_d29, r_d30, r_d31, r_d32, trivial⟩
theorem a_ls8 : A ls8 := ⟨r_d110, r_d111, r_d112, r_d113, r_d114, r_d115, r_d116, r_d117, r_d118, r_d119, r_d120, r_d11, r_d12, r_d13, r_d14, r_d15, r_d16, r_d17, r_d18, r_d19, r_d20, r_d21, r_d22, r_d23, r_d24, r_d25, r_d26, r_d27, r_d28, r_d29, r_d30, r_d31, r_d32, trivial⟩
theorem a_ls9 : A ls9 := ⟨r_d121, r_d122, r_d123, r_d124, r_d125, r_d126, r_d127, r_d128, r_d129, r_d130, r_d131, r_d11, r_d12, r_d13, r_d14, r_d15, r_d16, r_d17, r_d18, r_d19, r_d20, r_d21, r_d22, r_d23, r_d24, r_d25, r_d26, r_d27, r_d28, r_d29, r_d30, r_d31, r_d32, trivial⟩
theorem a_ls10 : A ls10 := ⟨r_d132, r_d133, r_d134, r_d135, r_d136, r_d137, r_d138, r_d139, r_d140, r_d141, r_d142, r_d11, r_d12, r_d13, r_d14, r_d15, r_d16, r_d17, r_d18, r_d19, r_d20, r_d21, r_d22, r_d23, r_d24, r_d25, r_d26, r_d27, r_d28, r_d29, r_d30, r_d31, r_d32, trivial⟩
theorem a_ls11 : A ls11 := ⟨r_d143, r_d144, r_d145, r_d146, r_d147, r_d148, r_d149, r_d150, r_d151, r_d152, r_d153, r_d11, r_d12, r_d13, r_d14, r_d15, r_d16, r_d17, r_d18, r_d19, r_d20, r_d21, r_d22, r_d23, r_d24, r_d25, r_d26, r_d27, r_d28, r_d29, r_d30, r_d31, r_d32, trivial⟩
theorem a_ls12 : A ls12 := ⟨r_d154, r_d155, r_d156, r_d157, r_d158, r_d159, r_d160, r_d161, r_d162, r_d163, r_d164, r_d11, r_d12, r_d13, r_d14, r_d15, r_d16, r_d17, r_d18, r_d19, r_d20, r_d21, r_d22, r_d23, r_d24, r_d25, r_d26, r_d27, r_d28, r_d29, r_d30, r_d31, r_d32, trivial⟩
theorem a_ls13 : A ls13 := ⟨r_d165, r_d166, r_d167, r_d168, r_d169, r_d170, r_d171, r_d172, r_d173, r_d174, r_d175, r_d11, r_d12, r_d13, r_d14, r_d15, r_d16, r_d17, r_d18, r_d19, r_d20, r_d21, r_d22, r_d23, r_d24, r_d25, r_d26, r_d27, r_d28, r_d29, r_d30, r_d31, r_d32, trivial⟩
theorem a_ls14 : A ls14 := ⟨r_d176, r_d177, r_d178, r_d179, r_d180, r_d181, r_d182, r_d183, r_d184, r_d185, r_d186, r_d11, r_d12, r_d13, r_d14, r_d15, r_d16, r_d17, r_d18, r_d19, r_d20, r_d21, r_d22, r_d23, r_d24, r_d25, r_d26, r_d27, r_d28, r_d29, r_d30, r_d31, r_d32, trivial⟩
theorem a_ls15 : A ls15 := ⟨r_d187, r_d188, r_d189, r_d190, r_d191, r_d192, r_d193, r_d194, r_d195, r_d196, r_d197, r_d11, r_d12, r_d13, r_d14, r_d15, r_d16, r_d17, r_d18, r_d19, r_d20, r_d21, r_d22, r_d23, r_d24, r_d25, r_d26, r_d27, r_d28, r_d29, r_d30, r_d31, r_d32, trivial⟩
theorem a_ls16 : A ls16 := ⟨r_d198, r_d199, r_d200, r_d201, r_d202, r_d203, r_d204, r_d205, r_d206, r_d207, r_d208, r_d11, r_d12, r_d13, r_d14, r_d15, r_d16, r_d17, r_d18, r_d19, r_d20, r_d21, r_d22, r_d23, r_d24, r_d25, r_d26, r_d27, r_d28, r_d29, r_d30, r_d31, r_d32, trivial⟩
theorem a_ls17 : A ls17 := ⟨r_d209, r_d210, r_d211, r_d212, r_d213, r_d214, r_d215, r_d216, r_d217, r_d218, r_d219, r_d11, r_d12, r_d13, r_d14, r_d15, r_d16, r_d17, r_d18, r_d19, r_d20, r_d21, r_d22, r_d23, r_d24, r_d25, r_d26, r_d27, r_d28, r_d29, r_d30, r_d31, r_d32, trivial⟩
theorem a_ls18 : A ls18 := ⟨r_d220, r_d221, r_d222, r_d223, r_d224, r_d225, r_d226, r_d227, r_d228, r_d229, r_d230, r_d11, r_d12, r_d13, r_d14, r_d15, r_d16, r_d17, r_d18, r_d19, r_d20, r_d21, r_d22, r_d23, r_d24, r_d25, r_d26, r_d27, r_d28, r_d29, r_d30, r_d31, r_d32, trivial⟩
theorem a_ls19 : A ls19 := ⟨r_d231, r_d232, r_d233, r_d234, r_d235, r_d236, r_d237, r_d238, r_d239, r_d240, r_d241, r_d11, r_d12, r_d13, r_d14, r_d15, r_d16, r_d17, r_d18, r_d19, r_d20, r_d21, r_d22, r_d23, r_d24, r_d25, r_d26, r_d27, r_d28, r_d29, r_d30, r_d31, r_d32, trivial⟩
theorem a_ls20 : A ls20 := ⟨r_d242, r_d243, r_d244, r_d245, r_d246, r_d247, r_d248, r_d249, r_d250, r_d251, r_d252, r_d11, r_d12, r_d13, r_d14, r_d15, r_d16, r_d17, r_d18, r_d19, r_d20, r_d21, r_d22, r_d23, r_d24, r_d25, r_d26, r_d27, r_d28, r_d29, r_d30, r_d31, r_d32, trivial⟩
theorem a_ls21 : A ls21 := ⟨r_d253, r_d254, r_d255, r_d256, r_d257, r_d258, r_d259, r_d260, r_d261, r_d262, r_d263, r_d11, r_d12, r_d13, r_d14, r_d15, r_d16, r_d17, r_d18, r_d19, r_d20, r_d21, r_d22, r_d23, r_d24, r_d25, r_d26, r_d27, r_d28, r_d29, r_d30, r_d31, r_d32, trivial⟩
theorem a_ls22 : A ls22 := ⟨r_d264, r_d265, r_d266, r_d267, r_d268, r_d269, r_d270, r_d271, r_d272, r_d273, r_d274, r_d11, r_d12, r_d13, r_d14, r_d15, r_d16, r_d17, r_d18, r_d19, r_d20, r_d21, r_d22, r_d23, r_d24, r_d25, r_d26, r_d27, r_d28, r_d29, r_d30, r_d31, r_d32, trivial⟩
theorem a_ls23 : A ls23 := ⟨r_d275, r_d276, r_d277, r_d278, r_d279, r_d280, r_d281, r_d282, r_d283, r_d284, r_d285, r_d11, r_d12, r_d13, r_d14, r_d15, r_d16, r_d17, r_d18, r_d19, r_d20, r_d21, r_d22, r_d23, r_d24, r_d25, r_d26, r_d27, r_d28, r_d29, r_d30, r_d31, r_d32, trivial⟩
theorem a_ls24 : A ls24 := ⟨r_d286, r_d287, r_d288, r_d289, r_d290, r_d291, r_d292, r_d293, r_d294, r_d295, r_d296, r_d11, r_d12, r_d13, r_d14, r_d15, r_d16, r_d17, r_d18, r_d19, r_d20, r_d21, r_d22, r_d23, r_d24, r_d25, r_d26, r_d27, r_d28, r_d29, r_d30, r_d31, r_d32, trivial⟩
theorem a_ls25 : A ls25 := ⟨r_d297, r_d298, r_d299, r_d300, r_d301, r_d302, r_d303, r_d304, r_d305, r_d306, r_d307, r_d11, r_d12, r_d13, r_d14, r_d15, r_d16, r_d17, r_d18, r_d19, r_d20, r_d21, r_d22, r_d23, r_d24, r_d25, r_d26, r_d27, r_d28, r_d29, r_d30, r_d31, r_d32, trivial⟩
theorem a_ls26 : A ls26 := ⟨r_d308, r_d309, r_d310, r_d311, r_d312, r_d313, r_d314, r_d315, r_d316, r_d317, r_d318, r_d11, r_d12, r_d13, r_d14, r_d15, r_d16, r_d17, r_d18, r_d19, r_d20, r_d21, r_d22, r_d23, r_d24, r_d25, r_d26, r_d27, r_d28, r_d29, r_d30, r_d31, r_d32, trivial⟩
theorem a_ls27 : A ls27 := ⟨r_d319, r_d320, r_d321, r_d322, r_d323, r_d324, r_d325, r_d326, r_d327, r_d328, r_d329, r_d11, r_d12, r_d13, r_d14, r_d15, r_d16, r_d17, r_d18, r_d19, r_d20, r_d21, r_d22, r_d23, r_d24, r_d25, r_d26, r_d27, r_d28, r_d29, r_d30, r_d31, r_d32, trivial⟩
theorem a_ls28 : A ls28 := ⟨r_d330, r_d331, r_d332, r_d333, r_d334, r_d335, r_d336, r_d337, r_d338, r_d339, r_d340, r_d11, r_d12, r_d13, r_d14, r_d15, r_d16, r_d17, r_d18, r_d19, r_d20, r_d21, r_d22, r_d23, r_d24, r_d25, r_d26, r_d27, r_d28, r_d29, r_d30, r_d31, r_d32, trivial⟩
theorem a_ls29 : A ls29 := ⟨r_d341, r_d342, r_d343, r_d344, r_d345, r_d346, r_d347, r_d348, r_d349, r_d350, r_d351, r_d11, r_d12, r_d13, r_d14, r_d15, r_d16, r_d17, r_d18, r_d19, r_d20, r_d21, r_d22, r_d23, r_d24, r_d25, r_d26, r_d27, r_d28, r_d29, r_d30, r_d31, r_d32, trivial⟩
theorem a_ls30 : A ls30 := ⟨r_d352, r_d353, r_d354, r_d355, r_d356, r_d357, r_d358, r_d359, r_d360, r_d361, r_d362, r_d363, r_d364, r_d365, r_d366, r_d367, r_d368, r_d369, r_d370, r_d371, r_d372, r_d373, r_d374, r_d375, r_d376, r_d377, r_d378, r_d379, r_d380, r_d381, r_d382, r_d383, r_d384, trivial⟩
theorem a_ls31 : A ls31 := ⟨r_d385, r_d386, r_d387, r_d388, r_d389, r_d390, r_d391, r_d392, r_d393, r_d394, r_d395, r_d363, r_d364, r_d365, r_d366, r_d367, r_d368, r_d369, r_d370, r_d371, r_d372, r_d373, r_d374, r_d375, r_d376, r_d377, r_d378, r_d379, r_d380, r_d381, r_d382, r_d383, r_d384, trivial⟩
theorem a_ls32 : A ls32 := ⟨r_d396, r_d397, r_d398, r_d399, r_d400, r_d401, r_d402, r_d403, r_d404, r_d405, r_d406, r_d363, r_d364, r_d365, r_d366, r_d367, r_d368, r_d369, r_d370, r_d371, r_d372, r_d373, r_d374, r_d375, r_d376, r_d377, r_d378, r_d379, r_d380, r_d381, r_d382, r_d383, r_d384, trivial⟩
theorem a_ls33 : A ls33 := ⟨r_d407, r_d408, r_d409, r_d410, r_d411, r_d412, r_d413, r_d414, r_d415, r_d416, r_d417, r_d363, r_d364, r_d365, r_d366, r_d367, r_d368, r_d369, r_d370, r_d371, r_d372, r_d373, r_d374, r_d375, r_d376, r_d377, r_d378, r_d379, r_d380, r_d381, r_d382, r_d383, r_d384, trivial⟩
theorem a_ls34 : A ls34 := ⟨r_d418, r_d419, r_d420, r_d421, r_d422, r_d423, r_d424, r_d425, r_d426, r_d427, r_d428, r_d363, r_d364, r_d365, r_d366, r_d367, r_d368, r_d369, r_d370, r_d371, r_d372, r_d373, r_d374, r_d375, r_d376, r_d377, r_d378, r_d379, r_d380, r_d381, r_d382, r_d383, r_d384, trivial⟩
theorem a_ls35 : A ls35 := ⟨r_d429, r_d430, r_d431, r_d432, r_d433, r_d434, r_d435, r_d436, r_d437, r_d438, r_d439, r_d363, r_d364, r_d365, r_d366, r_d367, r_d368, r_d369, r_d370, r_d371, r_d372, r_d373, r_d374, r_d375, r_d376, r_d377, r_d378, r_d379, r_d380, r_d381, r_d382, r_d383, r_d384, trivial⟩
theorem a_ls36 : A ls36 := ⟨r_d440, r_d441, r_d442, r_d443, r_d444, r_d445, r_d446, r_d447, r_d448, r_d449, r_d450, r_d363, r_d364, r_d365, r_d366, r_d367, r_d368, r_d369, r_d370, r_d371, r_d372, r_d373, r_d374, r_d375, r_d376, r_d377, r_d378, r_d379, r_d380, r_d381, r_d382, r_d383, r_d384, trivial⟩
theorem a_ls37 : A ls37 := ⟨r_d451, r_d452, r_d453, r_d454, r_d455, r_d456, r_d457, r_d458, r_d459, r_d460, r_d461, r_d363, r_d364, r_d365, r_d366, r_d367, r_d368, r_d369, r_d370, r_d371, r_d372, r_d373, r_d374, r_d375, r_d376, r_d377, r_d378, r_d379, r_d380, r_d381, r_d382, r_d383, r_d384, trivial⟩
theorem a_ls38 : A ls38 := ⟨r_d462, r_d463, r_d464, r_d465, r_d466, r_d467, r_d468, r_d469, r_d470, r_d471, r_d472, r_d363, r_d364, r_d365, r_d366, r_d367, r_d368, r_d369, r_d370, r_d371, r_d372, r_d373, r_d374, r_d375, r_d376, r_d377, r_d378, r_d379, r_d380, r_d381, r_d382, r_d383, r_d384, trivial⟩
theorem a_ls39 : A ls39 := ⟨r_d473, r_d474, r_d475, r_d476, r_d477, r_d478, r_d479, r_d480, r_d481, r_d482, r_d483, r_d363, r_d364, r_d365, r_d366, r_d367, r_d368, r_d369, r_d370, r_d371, r_d372, r_d373, r_d374, r_d375, r_d376, r_d377, r_d378, r_d379, r_d380, r_d381, r_d382, r_d383, r_d384, trivial⟩
theorem a_ls40 : A ls40 := ⟨r_d484, r_d485, r_d486, r_d487, r_d488, r_d489, r_d490, r_d491, r_d492, r_d493, r_d494, r_d363, r_d364, r_d365, r_d366, r_d367, r_d368, r_d369, r_d370, r_d371, r_d372, r_d373, r_d374, r_d375, r_d376, r_d377, r_d378, r_d379, r_d380, r_d381, r_d382, r_d383, r_d384, trivial⟩
theorem a_ls41 : A ls41 := ⟨r_d495, r_d496, r_d497, r_d498, r_d499, r_d500, r_d501, r_d502, r_d503, r_d504, r_d505, r_d363, r_d364, r_d365, r_d366, r_d367, r_d368, r_d369, r_d370, r_d371, r_d372, r_d373, r_d374, r_d375, r_d376, r_d377, r_d378, r_d379, r_d380, r_d381, r_d382, r_d383, r_d384, trivial⟩
theorem a_ls42 : A ls42 := ⟨r_d506, r_d507, r_d508, r_d509, r_d510, r_d511, r_d512, r_d513, r_d514, r_d515, r_d516, r_d363, r_d364, r_d365, r_d366, r_d367, r_d368, r_d369, r_d370, r_d371, r_d372, r_d373, r_d374, r_d375, r_d376, r_d377, r_d378, r_d379, r_d380, r_d381, r_d382, r_d383, r_d384, trivial⟩
theorem a_ls43 : A ls43 := ⟨r_d517, r_d518, r_d519, r_d520, r_d521, r_d522, r_d523, r_d524, r_d525, r_d526, r_d527, r_d363, r_d364, r_d365, r_d366, r_d367, r_d368, r_d369, r_d370, r_d371, r_d372, r_d373, r_d374, r_d375, r_d376, r_d377, r_d378, r_d379, r_d380, r_d381, r_d382, r_d383, r_d384, trivial⟩
theorem a_ls44 : A ls44 := ⟨r_d528, r_d529, r_d530, r_d531, r_d532, r_d533, r_d534, r_d535, r_d536, r_d537, r_d538, r_d363, r_d364, r_d365, r_d366, r_d367, r_d368, r_d369, r_d370, r_d371, r_d372, r_d373, r_d374, r_d375, r_d376, r_d377, r_d378, r_d379, r_d380, r_d381, r_d382, r_d383, r_d384, trivial⟩
theorem a_ls45 : A ls45 := ⟨r_d539, r_d540, r_d541, r_d542, r_d543, r_d544, r_d545, r_d546, r_d547, r_d548, r_d549, r_d363, r_d364, r_d365, r_d366, r_d367, r_d368, r_d369, r_d370, r_d371, r_d372, r_d373, r_d374, r_d375, r_d376, r_d377, r_d378, r_d379, r_d380, r_d381, r_d382, r_d383, r_d384, trivial⟩
theorem a_ls46 : A ls46 := ⟨r_d550, r_d551, r_d552, r_d553, r_d554, r_d555, r_d556, r_d557, r_d558, r_d559, r_d560, r_d363, r_d364, r_d365, r_d366, r_d367, r_d368, r_d369, r_d370, r_d371, r_d372, r_d373, r_d374, r_d375, r_d376, r_d377, r_d378, r_d379, r_d380, r_d381, r_d382, r_d383, r_d384, trivial⟩
theorem a_ls47 : A ls47 := ⟨r_d561, r_d562, r_d563, r_d564, r_d565, r_d566, r_d567, r_d568, r_d569, r_d570, r_d571, r_d363, r_d364, r_d365, r_d366, r_d367, r_d368, r_d369, r_d370, r_d371, r_d372, r_d373, r_d374, r_d375, r_d376, r_d377, r_d378, r_d379, r_d380, r_d381, r_d382, r_d383, r_d384, trivial⟩
theorem a_ls48 : A ls48 := ⟨r_d572, r_d573, r_d574, r_d575, r_d576, r_d577, r_d578, r_d579, r_d580, r_d581, r_d582, r_d363, r_d364, r_d365, r_d366, r_d367, r_d368, r_d369, r_d370, r_d371, r_d372, r_d373, r_d374, r_d375, r_d376, r_d377, r_d378, r_d379, r_d380, r_d381, r_d382, r_d383, r_d384, trivial⟩
theorem a_ls49 : A ls49 := ⟨r_d583, r_d584, r_d585, r_d586, r_d587, r_d588, r_d589, r_d590, r_d591, r_d592, r_d593, r_d363, r_d364, r_d365, r_d366, r_d367, r_d368, r_d369, r_d370, r_d371, r_d372, r_d373, r_d374, r_d375, r_d376, r_d377, r_d378, r_d379, r_d380, r_d381, r_d382, r_d383, r_d384, trivial⟩
theorem a_ls50 : A ls50 := ⟨r_d594, r_d595, r_d596, r_d597, r_d598, r_d599, r_d600, r_d601, r_d602, r_d603, r_d604, r_d363, r_d364, r_d365, r_d366, r_d367, r_d368, r_d369, r_d370, r_d371, r_d372, r_d373, r_d374, r_d375, r_d376, r_d377, r_d378, r_d379, r_d380, r_d381, r_d382, r_d383, r_d384, trivial⟩
theorem a_ls51 : A ls51 := ⟨r_d605, r_d606, r_d607, r_d608, r_d609, r_d610, r_d611, r_d612, r_d613, r_d614, r_d615, r_d363, r_d364, r_d365, r_d366, r_d367, r_d368, r_d369, r_d370, r_d371, r_d372, r_d373, r_d374, r_d375, r_d376, r_d377, r_d378, r_d379, r_d380, r_d381, r_d382, r_d383, r_d384, trivial⟩
theorem a_ls52 : A ls52 := ⟨r_d616, r_d617, r_d618, r_d619, r_d620, r_d621, r_d622, r_d623, r_d624, r_d625, r_d626, r_d363, r_d364, r_d365, r_d366, r_d367, r_d368, r_d369, r_d370, r_d371, r_d372, r_d373, r_d374, r_d375, r_d376, r_d377, r_d378, r_d379, r_d380, r_d381, r_d382, r_d383, r_d384, trivial⟩
theorem a_ls53 : A ls53 := ⟨r_d627, r_d628, r_d629, r_d630, r_d631, r_d632, r_d633, r_d634, r_d635, r_d636, r_d637, r_d363, r_d364, r_d365, r_d366, r_d367, r_d368, r_d369, r_d370, r_d371, r_d372, r_d373, r_d374, r_d375, r_d376, r_d377, r_d378, r_d379, r_d380, r_d381, r_d382, r_d383, r_d384, trivial⟩
theorem a_ls54 : A ls54 := ⟨r_d638, r_d639, r_d640, r_d641, r_d642, r_d643, r_d644, r_d645, r_d646, r_d647, r_d648, r_d363, r_d364, r_d365, r_d366, r_d367, r_d368, r_d369, r_d370, r_d371, r_d372, r_d373, r_d374, r_d375, r_d376, r_d377, r_d378, r_d379, r_d380, r_d381, r_d382, r_d383, r_d384, trivial⟩
theorem a_ls55 : A ls55 := ⟨r_d649, r_d650, r_d651, r_d652, r_d653, r_d654, r_d655, r_d656, r_d657, r_d658, r_d659, r_d363, r_d364, r_d365, r_d366, r_d367, r_d368, r_d369, r_d370, r_d371, r_d372, r_d373, r_d374, r_d375, r_d376, r_d377, r_d378, r_d379, r_d380, r_d381, r_d382, r_d383, r_d384, trivial⟩
theorem a_ls56 : A ls56 := ⟨r_d660, r_d661, r_d662, r_d663, r_d664, r_d665, r_d666, r_d667, r_d668, r_d669, r_d670, r_d363, r_d364, r_d365, r_d366, r_d367, r_d368, r_d369, r_d370, r_d371, r_d372, r_d373, r_d374, r_d375, r_d376, r_d377, r_d378, r_d379, r_d380, r_d381, r_d382, r_d383, r_d384, trivial⟩
theorem a_ls57 : A ls57 := ⟨r_d671, r_d672, r_d673, r_d674, r_d675, r_d676, r_d677, r_d678, r_d679, r_d680, r_d681, r_d363, r_d364, r_d365, r_d366, r_d367, r_d368, r_d369, r_d370, r_d371, r_d372, r_d373, r_d374, r_d375, r_d376, r_d377, r_d378, r_d379, r_d380, r_d381, r_d382, r_d383, r_d384, trivial⟩
theorem a_ls58 : A ls58 := ⟨r_d682, r_d683, r_d684, r_d685, r_d686, r_d687, r_d688, r_d689, r_d690, r_d691, r_d692, r_d363, r_d364, r_d365, r_d366, r_d367, r_d368, r_d369, r_d370, r_d371, r_d372, r_d373, r_d374, r_d375, r_d376, r_d377, r_d378, r_d379, r_d380, r_d381, r_d382, r_d383, r_d384, trivial⟩
theorem a_ls59 : A ls59 := ⟨r_d693, r_d694, r_d695, r_d696, r_d697, r_d698, r_d699, r_d700, r_d701, r_d702, r_d703, r_d363, r_d364, r_d365, r_d366, r_d367, r_d368, r_d369, r_d370, r_d371, r_d372, r_d373, r_d374, r_d375, r_d376, r_d377, r_d378, r_d379, r_d380, r_d381, r_d382, r_d383, r_d384, trivial⟩
theorem a_ls60 : A ls60 := ⟨r_d704, r_d705, r_d706, r_d707, r_d708, r_d709, r_d710, r_d711, r_d712, r_d713, r_d714, r_d715, r_d716, r_d717, r_d718, r_d719, r_d720, r_d721, r_d722, r_d723, r_d724, r_d725, r_d726, r_d727, r_d728, r_d729, r_d730, r_d731, r_d732, r_d733, r_d734, r_d735, r_d736, trivial⟩
theorem a_ls61 : A ls61 := ⟨r_d737, r_d738, r_d739, r_d740, r_d741, r_d742, r_d743, r_d744, r_d745, r_d746, r_d747, r_d715, r_d716, r_d717, r_d718, r_d719, r_d720, r_d721, r_d722, r_d723, r_d724, r_d725, r_d726, r_d727, r_d728, r_d729, r_d730, r_d731, r_d732, r_d733, r_d734, r_d735, r_d736, trivial⟩
theorem a_ls62 : A ls62 := ⟨r_d748, r_d749, r_d750, r_d751, r_d752, r_d753, r_d754, r_d755, r_d756, r_d757, r_d758, r_d715, r_d716, r_d717, r_d718, r_d719, r_d720, r_d721, r_d722, r_d723, r_d724, r_d725, r_d726, r_d727, r_d728, r_d729, r_d730, r_d731, r_d732, r_d733, r_d734, r_d735, r_d736, trivial⟩
theorem a_ls63 : A ls63 := ⟨r_d759, r_d760, r_d761, r_d762, r_d763, r_d764, r_d765, r_d766, r_d767, r_d768, r_d769, r_d715, r_d716, r_d717, r_d718, r_d719, r_d720, r_d721, r_d722, r_d723, r_d724, r_d725, r_d726, r_d727, r_d728, r_d729, r_d730, r_d731, r_d732, r_d733, r_d734, r_d735, r_d736, trivial⟩
theorem a_ls64 : A ls64 := ⟨r_d770, r_d771, r_d772, r_d773, r_d774, r_d775, r_d776, r_d777, r_d778, r_d779, r_d780, r_d715, r_d716, r_d717, r_d718, r_d719, r_d720, r_d721, r_d722, r_d723, r_d724, r_d725, r_d726, r_d727, r_d728, r_d729, r_d730, r_d731, r_d732, r_d733, r_d734, r_d735, r_d736, trivial⟩
theorem a_ls65 : A ls65 := ⟨r_d781, r_d782, r_d783, r_d784, r_d785, r_d786, r_d787, r_d788, r_d789, r_d790, r_d791, r_d715, r_d716, r_d717, r_d718, r_d719, r_d720, r_d721, r_d722, r_d723, r_d724, r_d725, r_d726, r_d727, r_d728, r_d729, r_d730, r_d731, r_d732, r_d733, r_d734, r_d735, r_d736, trivial⟩
theorem a_ls66 : A ls66 := ⟨r_d792, r_d793, r_d794, r_d795, r_d796, r_d797, r_d798, r_d799, r_d800, r_d801, r_d802, r_d715, r_d716, r_d717, r_d718, r_d719, r_d720, r_d721, r_d722, r_d723, r_d724, r_d725, r_d726, r_d727, r_d728, r_d729, r_d730, r_d731, r_d732, r_d733, r_d734, r_d735, r_d736, trivial⟩
theorem a_ls67 : A ls67 := ⟨r_d803, r_d804, r_d805, r_d806, r_d807, r_d808, r_d809, r_d810, r_d811, r_d812, r_d813, r_d715, r_d716, r_d717, r_d718, r_d719, r_d720, r_d721, r_d722, r_d723, r_d724, r_d725, r_d726, r_d727, r_d728, r_d729, r_d730, r_d731, r_d732, r_d733, r_d734, r_d735, r_d736, trivial⟩
theorem a_ls68 : A ls68 := ⟨r_d814, r_d815, r_d816, r_d817, r_d818, r_d819, r_d820, r_d821, r_d822, r_d823, r_d824, r_d715, r_d716, r_d717, r_d718, r_d719, r_d720, r_d721, r_d722, r_d723, r_d724, r_d725, r_d726, r_d727, r_d728, r_d729, r_d730, r_d731, r_d732, r_d733, r_d734, r_d735, r_d736, trivial⟩
theorem a_ls69 : A ls69 := ⟨r_d825, r_d826, r_d827, r_d828, r_d829, r_d830, r_d831, r_d832, r_d833, r_d834, r_d835, r_d715, r_d716, r_d717, r_d718, r_d719, r_d720, r_d721, r_d722, r_d723, r_d724, r_d725, r_d726, r_d727, r_d728, r_d729, r_d730, r_d731, r_d732, r_d733, r_d734, r_d735, r_d736, trivial⟩
theorem a_ls70 : A ls70 := ⟨r_d836, r_d837, r_d838, r_d839, r_d840, r_d841, r_d842, r_d843, r_d844, r_d845, r_d846, r_d715, r_d716, r_d717, r_d718, r_d719, r_d720, r_d721, r_d722, r_d723, r_d724, r_d725, r_d726, r_d727, r_d728, r_d729, r_d730, r_d731, r_d732, r_d733, r_d734, r_d735, r_d736, trivial⟩
theorem a_ls71 : A ls71 := ⟨r_d847, r_d848, r_d849, r_d850, r_d851, r_d852, r_d853, r_d854, r_d855, r_d856, r_d857, r_d715, r_d716, r_d717, r_d718, r_d719, r_d720, r_d721, r_d722, r_d723, r_d724, r_d725, r_d726, r_d727, r_d728, r_d729, r_d730, r_d731, r_d732, r_d733, r_d734, r_d735, r_d736, trivial⟩
theorem a_ls72 : A ls72 := ⟨r_d858, r_d859, r_d860, r_d861, r_d862, r_d863, r_d864, r_d865, r_d866, r_d867, r_d868, r_d715, r_d716, r_d717, r_d718, r_d719, r_d720, r_d721, r_d722, r_d723, r_d724, r_d725, r_d726, r_d727, r_d728, r_d729, r_d730, r_d731, r_d732, r_d733, r_d734, r_d735, r_d736, trivial⟩
theorem a_ls73 : A ls73 := ⟨r_d869, r_d870, r_d871, r_d872, r_d873, r_d874, r_d875, r_d876, r_d877, r_d878, r_d879, r_d715, r_d716, r_d717, r_d718, r_d719, r_d720, r_d721, r_d722, r_d723, r_d724, r_d725, r_d726, r_d727, r_d728, r_d729, r_d730, r_d731, r_d732, r_d733, r_d734, r_d735, r_d736, trivial⟩
theorem a_ls74 : A ls74 := ⟨r_d880, r_d881, r_d882, r_d883, r_d884, r_d885, r_d886, r_d887, r_d888, r_d889, r_d890, r_d715, r_d716, r_d717, r_d718, r_d719, r_d720, r_d721, r_d722, r_d723, r_d724, r_d725, r_d726, r_d727, r_d728, r_d729, r_d730, r_d731, r_d732, r_d733, r_d734, r_d735, r_d736, trivial⟩
theorem a_ls75 : A ls75 := ⟨r_d891, r_d892, r_d893, r_d894, r_d895, r_d896, r_d897, r_d898, r_d899, r_d900, r_d901, r_d715, r_d716, r_d717, r_d718, r_d719, r_d720, r_d721, r_d722, r_d723, r_d724, r_d725, r_d726, r_d727, r_d728, r_d729, r_d730, r_d731, r_d732, r_d733, r_d734, r_d735, r_d736, trivial⟩
theorem a_ls76 : A ls76 := ⟨r_d902, r_d903, r_d904, r_d905, r_d906, r_d907, r_d908, r_d909, r_d910, r_d911, r_d912, r_d715, r_d716, r_d717, r_d718, r_d719, r_d720, r_d721, r_d722, r_d723, r_d724, r_d725, r_d726, r_d727, r_d728, r_d729, r_d730, r_d731, r_d732, r_d733, r_d734, r_d735, r_d736, trivial⟩
theorem a_ls77 : A ls77 := ⟨r_d913, r_d914, r_d915, r_d916, r_d917, r_d918, r_d919, r_d920, r_d921, r_d922, r_d923, r_d715, r_d716, r_d717, r_d718, r_d719, r_d720, r_d721, r_d722, r_d723, r_d724, r_d725, r_d726, r_d727, r_d728, r_d729, r_d730, r_d731, r_d732, r_d733, r_d734, r_d735, r_d736, trivial⟩
theorem a_ls78 : A ls78 := ⟨r_d924, r_d925, r_d926, r_d927, r_d928, r_d929, r_d930, r_d931, r_d932, r_d933, r_d934, r_d715, r_d716, r_d717, r_d718, r_d719, r_d720, r_d721, r_d722, r_d723, r_d724, r_d725, r_d726, r_d727, r_d728, r_d729, r_d730, r_d731, r_d732, r_d733, r_d734, r_d735, r_d736, trivial⟩
theorem a_ls79 : A ls79 := ⟨r_d935, r_d936, r_d937, r_d938, r_d939, r_d940, r_d941, r_d942, r_d943, r_d944, r_d945, r_d715, r_d716, r_d717, r_d718, r_d719, r_d720, r_d721, r_d722, r_d723, r_d724, r_d725, r_d726, r_d727, r_d728, r_d729, r_d730, r_d731, r_d732, r_d733, r_d734, r_d735, r_d736, trivial⟩
theorem a_ls80 : A ls80 := ⟨r_d946, r_d947, r_d948, r_d949, r_d950, r_d951, r_d952, r_d953, r_d954, r_d955, r_d956, r_d715, r_d716, r_d717, r_d718, r_d719, r_d720, r_d721, r_d722, r_d723, r_d724, r_d725, r_d726, r_d727, r_d728, r_d729, r_d730, r_d731, r_d732, r_d733, r_d734, r_d735, r_d736, trivial⟩
theorem a_ls81 : A ls81 := ⟨r_d957, r_d958, r_d959, r_d960, r_d961, r_d962, r_d963, r_d964, r_d965, r_d966, r_d967, r_d715, r_d716, r_d717, r_d718, r_d719, r_d720, r_d721, r_d722, r_d723, r_d724, r_d725, r_d726, r_d727, r_d728, r_d729, r_d730, r_d731, r_d732, r_d733, r_d734, r_d735, r_d736, trivial⟩
theorem a_ls82 : A ls82 := ⟨r_d968, r_d969, r_d970, r_d971, r_d972, r_d973, r_d974, r_d975, r_d976, r_d977, r_d978, r_d715, r_d716, r_d717, r_d718, r_d719, r_d720, r_d721, r_d722, r_d723, r_d724, r_d725, r_d726, r_d727, r_d728, r_d729, r_d730, r_d731, r_d732, r_d733, r_d734, r_d735, r_d736, trivial⟩
theorem a_ls83 : A ls83 := ⟨r_d979, r_d980, r_d981, r_d982, r_d983, r_d984, r_d985, r_d986, r_d987, r_d988, r_d989, r_d715, r_d716, r_d717, r_d718, r_d719, r_d720, r_d721, r_d722, r_d723, r_d724, r_d725, r_d726, r_d727, r_d728, r_d729, r_d730, r_d731, r_d732, r_d733, r_d734, r_d735, r_d736, trivial⟩
theorem a_ls84 : A ls84 := ⟨r_d990, r_d991, r_d992, r_d993, r_d994, r_d995, r_d996, r_d997, r_d998, r_d999, r_d1000, r_d715, r_d716, r_d717, r_d718, r_d719, r_d720, r_d721, r_d722, r_d723, r_d724, r_d725, r_d726, r_d727, r_d728, r_d729, r_d730, r_d731, r_d732, r_d733, r_d734, r_d735, r_d736, trivial⟩
theorem a_ls85 : A ls85 := ⟨r_d1001, r_d1002, r_d1003, r_d1004, r_d1005, r_d1006, r_d1007, r_d1008, r_d1009, r_d1010, r_d1011, r_d715, r_d716, r_d717, r_d718, r_d719, r_d720, r_d721, r_d722, r_d723, r_d724, r_d725, r_d726, r_d727, r_d728, r_d729, r_d730, r_d731, r_d732, r_d733, r_d734, r_d735, r_d736, trivial⟩
theorem a_ls86 : A ls86 := ⟨r_d1012, r_d1013, r_d1014, r_d1015, r_d1016, r_d1017, r_d1018, r_d1019, r_d1020, r_d1021, r_d1022, r_d715, r_d716, r_d717, r_d718, r_d719, r_d720, r_d721, r_d722, r_d723, r_d724, r_d725, r_d726, r_d727, r_d728, r_d729, r_d730, r_d731, r_d732, r_d733, r_d734, r_d735, r_d736, trivial⟩
theorem a_ls87 : A ls87 := ⟨r_d1023, r_d1024, r_d1025, r_d1026, r_d1027, r_d1028, r_d1029, r_d1030, r_d1031, r_d1032, r_d1033, r_d715, r_d716, r_d717, r_d718, r_d719, r_d720, r_d721, r_d722, r_d723, r_d724, r_d725, r_d726, r_d727, r_d728, r_d729, r_d730, r_d731, r_d732, r_d733, r_d734, r_d735, r_d736, trivial⟩
theorem a_ls88 : A ls88 := ⟨r_d1034, r_d1035, r_d1036, r_d1037, r_d1038, r_d1039, r_d1040, r_d1041, r_d1042, r_d1043, r_d1044, r_d715, r_d716, r_d717, r_d718, r_d719, r_d720, r_d721, r_d722, r_d723, r_d724, r_d725, r_d726, r_d727, r_d728, r_d729, r_d730, r_d731, r_d732, r_d733, r_d734, r_d735, r_d736, trivial⟩
theorem a_ls89 : A ls89 := ⟨r_d1045, r_d1046, r_d1047, r_d1048, r_d1049, r_d1050, r_d1051, r_d1052, r_d1053, r_d1054, r_d1055, r_d715, r_d716, r_d717, r_d718, r_d719, r_d720, r_d721, r_d722, r_d723, r_d724, r_d725, r_d726, r_d727, r_d728, r_d729, r_d730, r_d731, r_d732, r_d733, r_d734, r_d735, r_d736, trivial⟩
theorem a_ls90 : A ls90 := ⟨r_d1056, r_d1057, r_d1058, r_d1059, r_d1060, r_d1061, r_d1062, r_d1063, r_d1064, r_d1065, r_d1066, r_d1067, r_d1068, r_d1069, r_d1070, r_d1071, r_d1072, r_d1073, r_d1074, r_d1075, r_d1076, r_d1077, r_d1078, r_d1079, r_d1080, r_d1081, r_d1082, r_d1083, r_d1084, r_d1085, r_d1086, r_d1087, r_d1088, trivial⟩
theorem a_ls91 : A ls91 := ⟨r_d1089, r_d1090, r_d1091, r_d1092, r_d1093, r_d1094, r_d1095, r_d1096, r_d1097, r_d1098, r_d1099, r_d1067, r_d1068, r_d1069, r_d1070, r_d1071, r_d1072, r_d1073, r_d1074, r_d1075, r_d1076, r_d1077, r_d1078, r_d1079, r_d1080, r_d1081, r_d1082, r_d1083, r_d1084, r_d1085, r_d1086, r_d1087, r_d1088, trivial⟩
theorem a_ls92 : A ls92 := ⟨r_d1100, r_d1101, r_d1102, r_d1103, r_d1104, r_d1105, r_d1106, r_d1107, r_d1108, r_d1109, r_d1110, r_d1067, r_d1068, r_d1069, r_d1070, r_d1071, r_d1072, r_d1073, r_d1074, r_d1075, r_d1076, r_d1077, r_d1078, r_d1079, r_d1080, r_d1081, r_d1082, r_d1083, r_d1084, r_d1085, r_d1086, r_d1087, r_d1088, trivial⟩
theorem a_ls93 : A ls93 := ⟨r_d1111, r_d1112, r_d1113, r_d1114, r_d1115, r_d1116, r_d1117, r_d1118, r_d1119, r_d1120, r_d1121, r_d1067, r_d1068, r_d1069, r_d1070, r_d1071, r_d1072, r_d1073, r_d1074, r_d1075, r_d1076, r_d1077, r_d1078, r_d1079, r_d1080, r_d1081, r_d1082, r_d1083, r_d1084, r_d1085, r_d1086, r_d1087, r_d1088, trivial⟩
theorem a_ls94 : A ls94 := ⟨r_d1122, r_d1123, r_d1124, r_d1125, r_d1126, r_d1127, r_d1128, r_d1129, r_d1130, r_d1131, r_d1132, r_d1067, r_d1068, r_d1069, r_d1070, r_d1071, r_d1072, r_d1073, r_d1074, r_d1075, r_d1076, r_d1077, r_d1078, r_d1079, r_d1080, r_d1081, r_d1082, r_d1083, r_d1084, r_d1085, r_d1086, r_d1087, r_d1088, trivial⟩
theorem a_ls95 : A ls95 := ⟨r_d1133, r_d1134, r_d1135, r_d1136, r_d1137, r_d1138, r_d1139, r_d1140, r_d1141, r_d1142, r_d1143, r_d1067, r_d1068, r_d1069, r_d1070, r_d1071, r_d1072, r_d1073, r_d1074, r_d1075, r_d1076, r_d1077, r_d1078, r_d1079, r_d1080, r_d1081, r_d1082, r_d1083, r_d1084, r_d1085, r_d1086, r_d1087, r_d1088, trivial⟩
theorem a_ls96 : A ls96 := ⟨r_d1144, r_d1145, r_d1146, r_d1147, r_d1148, r_d1149, r_d1150, r_d1151, r_d1152, r_d1153, r_d1154, r_d1067, r_d1068, r_d1069, r_d1070, r_d1071, r_d1072, r_d1073, r_d1074, r_d1075, r_d1076, r_d1077, r_d1078, r_d1079, r_d1080, r_d1081, r_d1082, r_d1083, r_d1084, r_d1085, r_d1086, r_d1087, r_d1088, trivial⟩
theorem a_ls97 : A ls97 := ⟨r_d1155, r_d1156, r_d1157, r_d1158, r_d1159, r_d1160, r_d1161, r_d1162, r_d1163, r_d1164, r_d1165, r_d1067, r_d1068, r_d1069, r_d1070, r_d1071, r_d1072, r_d1073, r_d1074, r_d1075, r_d1076, r_d1077, r_d1078, r_d1079, r_d1080, r_d1081, r_d1082, r_d1083, r_d1084, r_d1085, r_d1086, r_d1087, r_d1088, trivial⟩
theorem a_ls98 : A ls98 := ⟨r_d1166, r_d1167, r_d1168, r_d1169, r_d1170, r_d1171, r_d1172, r_d1173, r_d1174, r_d1175, r_d1176, r_d1067, r_d1068, r_d1069, r_d1070, r_d1071, r_d1072, r_d1073, r_d1074, r_d1075, r_d1076, r_d1077, r_d1078, r_d1079, r_d1080, r_d1081, r_d1082, r_d1083, r_d1084, r_d1085, r_d1086, r_d1087, r_d1088, trivial⟩
theorem a_ls99 : A ls99 := ⟨r_d1177, r_d1178, r_d1179, r_d1180, r_d1181, r_d1182, r_d1183, r_d1184, r_d1185, r_d1186, r_d1187, r_d1067, r_d1068, r_d1069, r_d1070, r_d1071, r_d1072, r_d1073, r_d1074, r_d1075, r_d1076, r_d1077, r_d1078, r_d1079, r_d1080, r_d1081, r_d1082, r_d1083, r_d1084, r_d1085, r_d1086, r_d1087, r_d1088, trivial⟩
theorem a_ls100 : A ls100 := ⟨r_d1188, r_d1189, r_d1190, r_d1191, r_d1192, r_d1193, r_d1194, r_d1195, r_d1196, r_d1197, r_d1198, r_d1067, r_d1068, r_d1069, r_d1070, r_d1071, r_d1072, r_d1073, r_d1074, r_d1075, r_d1076, r_d1077, r_d1078, r_d1079, r_d1080, r_d1081, r_d1082, r_d1083, r_d1084, r_d1085, r_d1086, r_d1087, r_d1088, trivial⟩
theorem a_ls101 : A ls101 := ⟨r_d1199, r_d1200, r_d1201, r_d1202, r_d1203, r_d1204, r_d1205, r_d1206, r_d1207, r_d1208, r_d1209, r_d1067, r_d1068, r_d1069, r_d1070, r_d1071, r_d1072, r_d1073, r_d1074, r_d1075, r_d1076, r_d1077, r_d1078, r_d1079, r_d1080, r_d1081, r_d1082, r_d1083, r_d1084, r_d1085, r_d1086, r_d1087, r_d1088, trivial⟩
theorem a_ls102 : A ls102 := ⟨r_d1210, r_d1211, r_d1212, r_d1213, r_d1214, r_d1215, r_d1216, r_d1217, r_d1218, r_d1219, r_d1220, r_d1067, r_d1068, r_d1069, r_d1070, r_d1071, r_d1072, r_d1073, r_d1074, r_d1075, r_d1076, r_d1077, r_d1078, r_d1079, r_d1080, r_d1081, r_d1082, r_d1083, r_d1084, r_d1085, r_d1086, r_d1087, r_d1088, trivial⟩
theorem a_ls103 : A ls103 := ⟨r_d1221, r_d1222, r_d1223, r_d1224, r_d1225, r_d1226, r_d1227, r_d1228, r_d1229, r_d1230, r_d1231, r_d1067, r_d1068, r_d1069, r_d1070, r_d1071, r_d1072, r_d1073, r_d1074, r_d1075, r_d1076, r_d1077, r_d1078, r_d1079, r_d1080, r_d1081, r_d1082, r_d1083, r_d1084, r_d1085, r_d1086, r_d1087, r_d1088, trivial⟩
theorem a_ls104 : A ls104 := ⟨r_d1232, r_d1233, r_d1234, r_d1235, r_d1236, r_d1237, r_d1238, r_d1239, r_d1240, r_d1241, r_d1242, r_d1067, r_d1068, r_d1069, r_d1070, r_d1071, r_d1072, r_d1073, r_d1074, r_d1075, r_d1076, r_d1077, r_d1078, r_d1079, r_d1080, r_d1081, r_d1082, r_d1083, r_d1084, r_d1085, r_d1086, r_d1087, r_d1088, trivial⟩
theorem a_ls105 : A ls105 := ⟨r_d1243, r_d1244, r_d1245, r_d1246, r_d1247, r_d1248, r_d1249, r_d1250, r_d1251, r_d1252, r_d1253, r_d1067, r_d1068, r_d1069, r_d1070, r_d1071, r_d1072, r_d1073, r_d1074, r_d1075, r_d1076, r_d1077, r_d1078, r_d1079, r_d1080, r_d1081, r_d1082, r_d1083, r_d1084, r_d1085, r_d1086, r_d1087, r_d1088, trivial⟩
theorem a_ls106 : A ls106 := ⟨r_d1254, r_d1255, r_d1256, r_d1257, r_d1258, r_d1259, r_d1260, r_d1261, r_d1262, r_d1263, r_d1264, r_d1067, r_d1068, r_d1069, r_d1070, r_d1071, r_d1072, r_d1073, r_d1074, r_d1075, r_d1076, r_d1077, r_d1078, r_d1079, r_d1080, r_d1081, r_d1082, r_d1083, r_d1084, r_d1085, r_d1086, r_d1087, r_d1088, trivial⟩
theorem a_ls107 : A ls107 := ⟨r_d1265, r_d1266, r_d1267, r_d1268, r_d1269, r_d1270, r_d1271, r_d1272, r_d1273, r_d1274, r_d1275, r_d1067, r_d1068, r_d1069, r_d1070, r_d1071, r_d1072, r_d1073, r_d1074, r_d1075, r_d1076, r_d1077, r_d1078, r_d1079, r_d1080, r_d1081, r_d1082, r_d1083, r_d1084, r_d1085, r_d1086, r_d1087, r_d1088, trivial⟩
theorem a_ls108 : A ls108 := ⟨r_d1276, r_d1277, r_d1278, r_d1279, r_d1280, r_d1281, r_d1282, r_d1283, r_d1284, r_d1285, r_d1286, r_d1067, r_d1068, r_d1069, r_d1070, r_d1071, r_d1072, r_d1073, r_d1074, r_d1075, r_d1076, r_d1077, r_d1078, r_d1079, r_d1080, r_d1081, r_d1082, r_d1083, r_d1084, r_d1085, r_d1086, r_d1087, r_d1088, trivial⟩
theorem a_ls109 : A ls109 := ⟨r_d1287, r_d1288, r_d1289, r_d1290, r_d1291, r_d1292, r_d1293, r_d1294, r_d1295, r_d1296, r_d1297, r_d1067, r_d1068, r_d1069, r_d1070, r_d1071, r_d1072, r_d1073, r_d1074, r_d1075, r_d1076, r_d1077, r_d1078, r_d1079, r_d1080, r_d1081, r_d1082, r_d1083, r_d1084, r_d1085, r_d1086, r_d1087, r_d1088, trivial⟩
theorem a_ls110 : A ls110 := ⟨r_d1298, r_d1299, r_d1300, r_d1301, r_d1302, r_d1303, r_d1304, r_d1305, r_d1306, r_d1307, r_d1308, r_d1067, r_d1068, r_d1069, r_d1070, r_d1071, r_d1072, r_d1073, r_d1074, r_d1075, r_d1076, r_d1077, r_d1078, r_d1079, r_d1080, r_d1081, r_d1082, r_d1083, r_d1084, r_d1085, r_d1086, r_d1087, r_d1088, trivial⟩
theorem a_ls111 : A ls111 := ⟨r_d1309, r_d1310, r_d1311, r_d1312, r_d1313, r_d1314, r_d1315, r_d1316, r_d1317, r_d1318, r_d1319, r_d1067, r_d1068, r_d1069, r_d1070, r_d1071, r_d1072, r_d1073, r_d1074, r_d1075, r_d1076, r_d1077, r_d1078, r_d1079, r_d1080, r_d1081, r_d1082, r_d1083, r_d1084, r_d1085, r_d1086, r_d1087, r_d1088, trivial⟩
theorem a_ls112 : A ls112 := ⟨r_d1320, r_d1321, r_d1322, r_d1323, r_d1324, r_d1325, r_d1326, r_d1327, r_d1328, r_d1329, r_d1330, r_d1067, r_d1068, r_d1069, r_d1070, r_d1071, r_d1072, r_d1073, r_d1074, r_d1075, r_d1076, r_d1077, r_d1078, r_d1079, r_d1080, r_d1081, r_d1082, r_d1083, r_d1084, r_d1085, r_d1086, r_d1087, r_d1088, trivial⟩
theorem a_ls113 : A ls113 := ⟨r_d1331, r_d1332, r_d1333, r_d1334, r_d1335, r_d1336, r_d1337, r_d1338, r_d1339, r_d1340, r_d1341, r_d1067, r_d1068, r_d1069, r_d1070, r_d1071, r_d1072, r_d1073, r_d1074, r_d1075, r_d1076, r_d1077, r_d1078, r_d1079, r_d1080, r_d1081, r_d1082, r_d1083, r_d1084, r_d1085, r_d1086, r_d1087, r_d1088, trivial⟩
theorem a_ls114 : A ls114 := ⟨r_d1342, r_d1343, r_d1344, r_d1345, r_d1346, r_d1347, r_d1348, r_d1349, r_d1350, r_d1351, r_d1352, r_d1067, r_d1068, r_d1069, r_d1070, r_d1071, r_d1072, r_d1073, r_d1074, r_d1075, r_d1076, r_d1077, r_d1078, r_d1079, r_d1080, r_d1081, r_d1082, r_d1083, r_d1084, r_d1085, r_d1086, r_d1087, r_d1088, trivial⟩
theorem a_ls115 : A ls115 := ⟨r_d1353, r_d1354, r_d1355, r_d1356, r_d1357, r_d1358, r_d1359, r_d1360, r_d1361, r_d1362, r_d1363, r_d1067, r_d1068, r_d1069, r_d1070, r_d1071, r_d1072, r_d1073, r_d1074, r_d1075, r_d1076, r_d1077, r_d1078, r_d1079, r_d1080, r_d1081, r_d1082, r_d1083, r_d1084, r_d1085, r_d1086, r_d1087, r_d1088, trivial⟩
theorem a_ls116 : A ls116 := ⟨r_d1364, r_d1365, r_d1366, r_d1367, r_d1368, r_d1369, r_d1370, r_d1371, r_d1372, r_d1373, r_d1374, r_d1067, r_d1068, r_d1069, r_d1070, r_d1071, r_d1072, r_d1073, r_d1074, r_d1075, r_d1076, r_d1077, r_d1078, r_d1079, r_d1080, r_d1081, r_d1082, r_d1083, r_d1084, r_d1085, r_d1086, r_d1087, r_d1088, trivial⟩
theorem a_ls117 : A ls117 := ⟨r_d1375, r_d1376, r_d1377, r_d1378, r_d1379, r_d1380, r_d1381, r_d1382, r_d1383, r_d1384, r_d1385, r_d1067, r_d1068, r_d1069, r_d1070, r_d1071, r_d1072, r_d1073, r_d1074, r_d1075, r_d1076, r_d1077, r_d1078, r_d1079, r_d1080, r_d1081, r_d1082, r_d1083, r_d1084, r_d1085, r_d1086, r_d1087, r_d1088, trivial⟩
theorem a_ls118 : A ls118 := ⟨r_d1386, r_d1387, r_d1388, r_d1389, r_d1390, r_d1391, r_d1392, r_d1393, r_d1394, r_d1395, r_d1396, r_d1067, r_d1068, r_d1069, r_d1070, r_d1071, r_d1072, r_d1073, r_d1074, r_d1075, r_d1076, r_d1077, r_d1078, r_d1079, r_d1080, r_d1081, r_d1082, r_d1083, r_d1084, r_d1085, r_d1086, r_d1087, r_d1088, trivial⟩
theorem a_ls119 : A ls119 := ⟨r_d1397, r_d1398, r_d1399, r_d1400, r_d1401, r_d1402, r_d1403, r_d1404, r_d1405, r_d1406, r_d1407, r_d1067, r_d1068, r_d1069, r_d1070, r_d1071, r_d1072, r_d1073, r_d1074, r_d1075, r_d1076, r_d1077, r_d1078, r_d1079, r_d1080, r_d1081, r_d1082, r_d1083, r_d1084, r_d1085, r_d1086, r_d1087, r_d1088, trivial⟩
theorem a_ls120 : A ls120 := ⟨r_d1408, r_d1409, r_d1410, r_d1411, r_d1412, r_d1413, r_d1414, r_d1415, r_d1416, r_d1417, r_d1418, r_d1419, r_d1420, r_d1421, r_d1422, r_d1423, r_d1424, r_d1425, r_d1426, r_d1427, r_d1428, r_d1429, r_d1430, r_d1431, r_d1432, r_d1433, r_d1434, r_d1435, r_d1436, r_d1437, r_d1438, r_d1439, r_d1440, trivial⟩
theorem a_ls121 : A ls121 := ⟨r_d1441, r_d1442, r_d1443, r_d1444, r_d1445, r_d1446, r_d1447, r_d1448, r_d1449, r_d1450, r_d1451, r_d1419, r_d1420, r_d1421, r_d1422, r_d1423, r_d1424, r_d1425, r_d1426, r_d1427, r_d1428, r_d1429, r_d1430, r_d1431, r_d1432, r_d1433, r_d1434, r_d1435, r_d1436, r_d1437, r_d1438, r_d1439, r_d1440, trivial⟩
theorem a_ls122 : A ls122 := ⟨r_d1452, r_d1453, r_d1454, r_d1455, r_d1456, r_d1457, r_d1458, r_d1459, r_d1460, r_d1461, r_d1462, r_d1419, r_d1420, r_d1421, r_d1422, r_d1423, r_d1424, r_d1425, r_d1426, r_d1427, r_d1428, r_d1429, r_d1430, r_d1431, r_d1432, r_d1433, r_d1434, r_d1435, r_d1436, r_d1437, r_d1438, r_d1439, r_d1440, trivial⟩
theorem a_ls123 : A ls123 := ⟨r_d1463, r_d1464, r_d1465, r_d1466, r_d1467, r_d1468, r_d1469, r_d1470, r_d1471, r_d1472, r_d1473, r_d1419, r_d1420, r_d1421, r_d1422, r_d1423, r_d1424, r_d1425, r_d1426, r_d1427, r_d1428, r_d1429, r_d1430, r_d1431, r_d1432, r_d1433, r_d1434, r_d1435, r_d1436, r_d1437, r_d1438, r_d1439, r_d1440, trivial⟩
theorem a_ls124 : A ls124 := ⟨r_d1474, r_d1475, r_d1476, r_d1477, r_d1478, r_d1479, r_d1480, r_d1481, r_d1482, r_d1483, r_d1484, r_d1419, r_d1420, r_d1421, r_d1422, r_d1423, r_d1424, r_d1425, r_d1426, r_d1427, r_d1428, r_d1429, r_d1430, r_d1431, r_d1432, r_d1433, r_d1434, r_d1435, r_d1436, r_d1437, r_d1438, r_d1439, r_d1440, trivial⟩
theorem a_ls125 : A ls125 := ⟨r_d1485, r_d1486, r_d1487, r_d1488, r_d1489, r_d1490, r_d1491, r_d1492, r_d1493, r_d1494, r_d1495, r_d1419, r_d1420, r_d1421, r_d1422, r_d1423, r_d1424, r_d1425, r_d1426, r_d1427, r_d1428, r_d1429, r_d1430, r_d1431, r_d1432, r_d1433, r_d1434, r_d1435, r_d1436, r_d1437, r_d1438, r_d1439, r_d1440, trivial⟩
theorem a_ls126 : A ls126 := ⟨r_d1496, r_d1497, r_d1498, r_d1499, r_d1500, r_d1501, r_d1502, r_d1503, r_d1504, r_d1505, r_d1506, r_d1419, r_d1420, r_d1421, r_d1422, r_d1423, r_d1424, r_d1425, r_d1426, r_d1427, r_d1428, r_d1429, r_d1430, r_d1431, r_d1432, r_d1433, r_d1434, r_d1435, r_d1436, r_d1437, r_d1438, r_d1439, r_d1440, trivial⟩
theorem a_ls127 : A ls127 := ⟨r_d1507, r_d1508, r_d1509, r_d1510, r_d1511, r_d1512, r_d1513, r_d1514, r_d1515, r_d1516, r_d1517, r_d1419, r_d1420, r_d1421, r_d1422, r_d1423, r_d1424, r_d1425, r_d1426, r_d1427, r_d1428, r_d1429, r_d1430, r_d1431, r_d1432, r_d1433, r_d1434, r_d1435, r_d1436, r_d1437, r_d1438, r_d1439, r_d1440, trivial⟩
theorem a_ls128 : A ls128 := ⟨r_d1518, r_d1519, r_d1520, r_d1521, r_d1522, r_d1523, r_d1524, r_d1525, r_d1526, r_d1527, r_d1528, r_d1419, r_d1420, r_d1421, r_d1422, r_d1423, r_d1424, r_d1425, r_d1426, r_d1427, r_d1428, r_d1429, r_d1430, r_d1431, r_d1432, r_d1433, r_d1434, r_d1435, r_d1436, r_d1437, r_d1438, r_d1439, r_d1440, trivial⟩
theorem a_ls129 : A ls129 := ⟨r_d1529, r_d1530, r_d1531, r_d1532, r_d1533, r_d1534, r_d1535, r_d1536, r_d1537, r_d1538, r_d1539, r_d1419, r_d1420, r_d1421, r_d1422, r_d1423, r_d1424, r_d1425, r_d1426, r_d1427, r_d1428, r_d1429, r_d1430, r_d1431, r_d1432, r_d1433, r_d1434, r_d1435, r_d1436, r_d1437, r_d1438, r_d1439, r_d1440, trivial⟩
theorem a_ls130 : A ls130 := ⟨r_d1540, r_d1541, r_d1542, r_d1543, r_d1544, r_d1545, r_d1546, r_d1547, r_d1548, r_d1549, r_d1550, r_d1419, r_d1420, r_d1421, r_d1422, r_d1423, r_d1424, r_d1425, r_d1426, r_d1427, r_d1428, r_d1429, r_d1430, r_d1431, r_d1432, r_d1433, r_d1434, r_d1435, r_d1436, r_d1437, r_d1438, r_d1439, r_d1440, trivial⟩
theorem a_ls131 : A ls131 := ⟨r_d1551, r_d1552, r_d1553, r_d1554, r_d1555, r_d1556, r_d1557, r_d1558, r_d1559, r_d1560, r_d1561, r_d1419, r_d1420, r_d1421, r_d1422, r_d1423, r_d1424, r_d1425, r_d1426, r_d1427, r_d1428, r_d1429, r_d1430, r_d1431, r_d1432, r_d1433, r_d1434, r_d1435, r_d1436, r_d1437, r_d1438, r_d1439, r_d1440, trivial⟩
theorem a_ls132 : A ls132 := ⟨r_d1562, r_d1563, r_d1564, r_d1565, r_d1566, r_d1567, r_d1568, r_d1569, r_d1570, r_d1571, r_d1572, r_d1419, r_d1420, r_d1421, r_d1422, r_d1423, r_d1424, r_d1425, r_d1426, r_d1427, r_d1428, r_d1429, r_d1430, r_d1431, r_d1432, r_d1433, r_d1434, r_d1435, r_d1436, r_d1437, r_d1438, r_d1439, r_d1440, trivial⟩
theorem a_ls133 : A ls133 := ⟨r_d1573, r_d1574, r_d1575, r_d1576, r_d1577, r_d1578, r_d1579, r_d1580, r_d1581, r_d1582, r_d1583, r_d1419, r_d1420, r_d1421, r_d1422, r_d1423, r_d1424, r_d1425, r_d1426, r_d1427, r_d1428, r_d1429, r_d1430, r_d1431, r_d1432, r_d1433, r_d1434, r_d1435, r_d1436, r_d1437, r_d1438, r_d1439, r_d1440, trivial⟩
theorem a_ls134 : A ls134 := ⟨r_d1584, r_d1585, r_d1586, r_d1587, r_d1588, r_d1589, r_d1590, r_d1591, r_d1592, r_d1593, r_d1594, r_d1419, r_d1420, r_d1421, r_d1422, r_d1423, r_d1424, r_d1425, r_d1426, r_d1427, r_d1428, r_d1429, r_d1430, r_d1431, r_d1432, r_d1433, r_d1434, r_d1435, r_d1436, r_d1437, r_d1438, r_d1439, r_d1440, trivial⟩
theorem a_ls135 : A ls135 := ⟨r_d1595, r_d1596, r_d1597, r_d1598, r_d1599, r_d1600, r_d1601, r_d1602, r_d1603, r_d1604, r_d1605, r_d1419, r_d1420, r_d1421, r_d1422, r_d1423, r_d1424, r_d1425, r_d1426, r_d1427, r_d1428, r_d1429, r_d1430, r_d1431, r_d1432, r_d1433, r_d1434, r_d1435, r_d1436, r_d1437, r_d1438, r_d1439, r_d1440, trivial⟩
theorem a_ls136 : A ls136 := ⟨r_d1606, r_d1607, r_d1608, r_d1609, r_d1610, r_d1611, r_d1612, r_d1613, r_d1614, r_d1615, r_d1616, r_d1419, r_d1420, r_d1421, r_d1422, r_d1423, r_d1424, r_d1425, r_d1426, r_d1427, r_d1428, r_d1429, r_d1430, r_d1431, r_d1432, r_d1433, r_d1434, r_d1435, r_d1436, r_d1437, r_d1438, r_d1439, r_d1440, trivial⟩
theorem a_ls137 : A ls137 := ⟨r_d1617, r_d1618, r_d1619, r_d1620, r_d1621, r_d1622, r_d1623, r_d1624, r_d1625, r_d1626, r_d1627, r_d1419, r_d1420, r_d1421, r_d1422, r_d1423, r_d1424, r_d1425, r_d1426, r_d1427, r_d1428, r_d1429, r_d1430, r_d1431, r_d1432, r_d1433, r_d1434, r_d1435, r_d1436, r_d1437, r_d1438, r_d1439, r_d1440, trivial⟩
theorem a_ls138 : A ls138 := ⟨r_d1628, r_d1629, r_d1630, r_d1631, r_d1632, r_d1633, r_d1634, r_d1635, r_d1636, r_d1637, r_d1638, r_d1419, r_d1420, r_d1421, r_d1422, r_d1423, r_d1424, r_d1425, r_d1426, r_d1427, r_d1428, r_d1429, r_d1430, r_d1431, r_d1432, r_d1433, r_d1434, r_d1435, r_d1436, r_d1437, r_d1438, r_d1439, r_d1440, trivial⟩
theorem a_ls139 : A ls139 := ⟨r_d1639, r_d1640, r_d1641, r_d1642, r_d1643, r_d1644, r_d1645, r_d1646, r_d1647, r_d1648, r_d1649, r_d1419, r_d1420, r_d1421, r_d1422, r_d1423, r_d1424, r_d1425, r_d1426, r_d1427, r_d1428, r_d1429, r_d1430, r_d1431, r_d1432, r_d1433, r_d1434, r_d1435, r_d1436, r_d1437, r_d1438, r_d1439, r_d1440, trivial⟩
theorem a_ls140 : A ls140 := ⟨r_d1650, r_d1651, r_d1652, r_d1653, r_d1654, r_d1655, r_d1656, r_d1657, r_d1658, r_d1659, r_d1660, r_d1419, r_d1420, r_d1421, r_d1422, r_d1423, r_d1424, r_d1425, r_d1426, r_d1427, r_d1428, r_d1429, r_d1430, r_d1431, r_d1432, r_d1433, r_d1434, r_d1435, r_d1436, r_d1437, r_d1438, r_d1439, r_d1440, trivial⟩
theorem a_ls141 : A ls141 := ⟨r_d1661, r_d1662, r_d1663, r_d1664, r_d1665, r_d1666, r_d1667, r_d1668, r_d1669, r_d1670, r_d1671, r_d1419, r_d1420, r_d1421, r_d1422, r_d1423, r_d1424, r_d1425, r_d1426, r_d1427, r_d1428, r_d1429, r_d1430, r_d1431, r_d1432, r_d1433, r_d1434, r_d1435, r_d1436, r_d1437, r_d1438, r_d1439, r_d1440, trivial⟩
theorem a_ls142 : A ls142 := ⟨r_d1672, r_d1673, r_d1674, r_d1675, r_d1676, r_d1677, r_d1678, r_d1679, r_d1680, r_d1681, r_d1682, r_d1419, r_d1420, r_d1421, r_d1422, r_d1423, r_d1424, r_d1425, r_d1426, r_d1427, r_d1428, r_d1429, r_d1430, r_d1431, r_d1432, r_d1433, r_d1434, r_d1435, r_d1436, r_d1437, r_d1438, r_d1439, r_d1440, trivial⟩
theorem a_ls143 : A ls143 := ⟨r_d1683, r_d1684, r_d1685, r_d1686, r_d1687, r_d1688, r_d1689, r_d1690, r_d1691, r_d1692, r_d1693, r_d1419, r_d1420, r_d1421, r_d1422, r_d1423, r_d1424, r_d1425, r_d1426, r_d1427, r_d1428, r_d1429, r_d1430, r_d1431, r_d1432, r_d1433, r_d1434, r_d1435, r_d1436, r_d1437, r_d1438, r_d1439, r_d1440, trivial⟩
theorem a_ls144 : A ls144 := ⟨r_d1694, r_d1695, r_d1696, r_d1697, r_d1698, r_d1699, r_d1700, r_d1701, r_d1702, r_d1703, r_d1704, r_d1419, r_d1420, r_d1421, r_d1422, r_d1423, r_d1424, r_d1425, r_d1426, r_d1427, r_d1428, r_d1429, r_d1430, r_d1431, r_d1432, r_d1433, r_d1434, r_d1435, r_d1436, r_d1437, r_d1438, r_d1439, r_d1440, trivial⟩
theorem a_ls145 : A ls145 := ⟨r_d1705, r_d1706, r_d1707, r_d1708, r_d1709, r_d1710, r_d1711, r_d1712, r_d1713, r_d1714, r_d1715, r_d1419, r_d1420, r_d1421, r_d1422, r_d1423, r_d1424, r_d1425, r_d1426, r_d1427, r_d1428, r_d1429, r_d1430, r_d1431, r_d1432, r_d1433, r_d1434, r_d1435, r_d1436, r_d1437, r_d1438, r_d1439, r_d1440, trivial⟩
theorem a_ls146 : A ls146 := ⟨r_d1716, r_d1717, r_d1718, r_d1719, r_d1720, r_d1721, r_d1722, r_d1723, r_d1724, r_d1725, r_d1726, r_d1419, r_d1420, r_d1421, r_d1422, r_d1423, r_d1424, r_d1425, r_d1426, r_d1427, r_d1428, r_d1429, r_d1430, r_d1431, r_d1432, r_d1433, r_d1434, r_d1435, r_d1436, r_d1437, r_d1438, r_d1439, r_d1440, trivial⟩
theorem a_ls147 : A ls147 := ⟨r_d1727, r_d1728, r_d1729, r_d1730, r_d1731, r_d1732, r_d1733, r_d1734, r_d1735, r_d1736, r_d1737, r_d1419, r_d1420, r_d1421, r_d1422, r_d1423, r_d1424, r_d1425, r_d1426, r_d1427, r_d1428, r_d1429, r_d1430, r_d1431, r_d1432, r_d1433, r_d1434, r_d1435, r_d1436, r_d1437, r_d1438, r_d1439, r_d1440, trivial⟩
theorem a_ls148 : A ls148 := ⟨r_d1738, r_d1739, r_d1740, r_d1741, r_d1742, r_d1743, r_d1744, r_d1745, r_d1746, r_d1747, r_d1748, r_d1419, r_d1420, r_d1421, r_d1422, r_d1423, r_d1424, r_d1425, r_d1426, r_d1427, r_d1428, r_d1429, r_d1430, r_d1431, r_d1432, r_d1433, r_d1434, r_d1435, r_d1436, r_d1437, r_d1438, r_d1439, r_d1440, trivial⟩
theorem a_ls149 : A ls149 := ⟨r_d1749, r_d1750, r_d1751, r_d1752, r_d1753, r_d1754, r_d1755, r_d1756, r_d1757, r_d1758, r_d1759, r_d1419, r_d1420, r_d1421, r_d1422, r_d1423, r_d1424, r_d1425, r_d1426, r_d1427, r_d1428, r_d1429, r_d1430, r_d1431, r_d1432, r_d1433, r_d1434, r_d1435, r_d1436, r_d1437, r_d1438, r_d1439, r_d1440, trivial⟩
theorem a_ls150 : A ls150 := ⟨r_d1760, r_d1761, r_d1762, r_d1763, r_d1764, r_d1765, r_d1766, r_d1767, r_d1768, r_d1769, r_d1770, r_d1771, r_d1772, r_d1773, r_d1774, r_d1775, r_d1776, r_d1777, r_d1778, r_d1779, r_d1780, r_d1781, r_d1782, r_d1783, r_d1784, r_d1785, r_d1786, r_d1787, r_d1788, r_d1789, r_d1790, r_d1791, r_d1792, trivial⟩
theorem a_ls151 : A ls151 := ⟨r_d1793, r_d1794, r_d1795, r_d1796, r_d1797, r_d1798, r_d1799, r_d1800, r_d1801, r_d1802, r_d1803, r_d1771, r_d1772, r_d1773, r_d1774, r_d1775, r_d1776, r_d1777, r_d1778, r_d1779, r_d1780, r_d1781, r_d1782, r_d1783, r_d1784, r_d1785, r_d1786, r_d1787, r_d1788, r_d1789, r_d1790, r_d1791, r_d1792, trivial⟩
theorem a_ls152 : A ls152 := ⟨r_d1804, r_d1805, r_d1806, r_d1807, r_d1808, r_d1809, r_d1810, r_d1811, r_d1812, r_d1813, r_d1814, r_d1771, r_d1772, r_d1773, r_d1774, r_d1775, r_d1776, r_d1777, r_d1778, r_d1779, r_d1780, r_d1781, r_d1782, r_d1783, r_d1784, r_d1785, r_d1786, r_d1787, r_d1788, r_d1789, r_d1790, r_d1791, r_d1792, trivial⟩
theorem a_ls153 : A ls153 := ⟨r_d1815, r_d1816, r_d1817, r_d1818, r_d1819, r_d1820, r_d1821, r_d1822, r_d1823, r_d1824, r_d1825, r_d1771, r_d1772, r_d1773, r_d1774, r_d1775, r_d1776, r_d1777, r_d1778, r_d1779, r_d1780, r_d1781, r_d1782, r_d1783, r_d1784, r_d1785, r_d1786, r_d1787, r_d1788, r_d1789, r_d1790, r_d1791, r_d1792, trivial⟩
theorem a_ls154 : A ls154 := ⟨r_d1826, r_d1827, r_d1828, r_d1829, r_d1830, r_d1831, r_d1832, r_d1833, r_d1834, r_d1835, r_d1836, r_d1771, r_d1772, r_d1773, r_d1774, r_d1775, r_d1776, r_d1777, r_d1778, r_d1779, r_d1780, r_d1781, r_d1782, r_d1783, r_d1784, r_d1785, r_d1786, r_d1787, r_d1788, r_d1789, r_d1790, r_d1791, r_d1792, trivial⟩
theorem a_ls155 : A ls155 := ⟨r_d1837, r_d1838, r_d1839, r_d1840, r_d1841, r_d1842, r_d1843, r_d1844, r_d1845, r_d1846, r_d1847, r_d1771, r_d1772, r_d1773, r_d1774, r_d1775, r_d1776, r_d1777, r_d1778, r_d1779, r_d1780, r_d1781, r_d1782, r_d1783, r_d1784, r_d1785, r_d1786, r_d1787, r_d1788, r_d1789, r_d1790, r_d1791, r_d1792, trivial⟩
theorem a_ls156 : A ls156 := ⟨r_d1848, r_d1849, r_d1850, r_d1851, r_d1852, r_d1853, r_d1854, r_d1855, r_d1856, r_d1857, r_d1858, r_d1771, r_d1772, r_d1773, r_d1774, r_d1775, r_d1776, r_d1777, r_d1778, r_d1779, r_d1780, r_d1781, r_d1782, r_d1783, r_d1784, r_d1785, r_d1786, r_d1787, r_d1788, r_d1789, r_d1790, r_d1791, r_d1792, trivial⟩
theorem a_ls157 : A ls157 := ⟨r_d1859, r_d1860, r_d1861, r_d1862, r_d1863, r_d1864, r_d1865, r_d1866, r_d1867, r_d1868, r_d1869, r_d1771, r_d1772, r_d1773, r_d1774, r_d1775, r_d1776, r_d1777, r_d1778, r_d1779, r_d1780, r_d1781, r_d1782, r_d1783, r_d1784, r_d1785, r_d1786, r_d1787, r_d1788, r_d1789, r_d1790, r_d1791, r_d1792, trivial⟩
theorem a_ls158 : A ls158 := ⟨r_d1870, r_d1871, r_d1872, r_d1873, r_d1874, r_d1875, r_d1876, r_d1877, r_d1878, r_d1879, r_d1880, r_d1771, r_d1772, r_d1773, r_d1774, r_d1775, r_d1776, r_d1777, r_d1778, r_d1779, r_d1780, r_d1781, r_d1782, r_d1783, r_d1784, r_d1785, r_d1786, r_d1787, r_d1788, r_d1789, r_d1790, r_d1791, r_d1792, trivial⟩
theorem a_ls159 : A ls159 := ⟨r_d1881, r_d1882, r_d1883, r_d1884, r_d1885, r_d1886, r_d1887, r_d1888, r_d1889, r_d1890, r_d1891, r_d1771, r_d1772, r_d1773, r_d1774, r_d1775, r_d1776, r_d1777, r_d1778, r_d1779, r_d1780, r_d1781, r_d1782, r_d1783, r_d1784, r_d1785, r_d1786, r_d1787, r_d1788, r_d1789, r_d1790, r_d1791, r_d1792, trivial⟩
theorem a_ls160 : A ls160 := ⟨r_d1892, r_d1893, r_d1894, r_d1895, r_d1896, r_d1897, r_d1898, r_d1899, r_d1900, r_d1901, r_d1902, r_d1771, r_d1772, r_d1773, r_d1774, r_d1775, r_d1776, r_d1777, r_d1778, r_d1779, r_d1780, r_d1781, r_d1782, r_d1783, r_d1784, r_d1785, r_d1786, r_d1787, r_d1788, r_d1789, r_d1790, r_d1791, r_d1792, trivial⟩
theorem a_ls161 : A ls161 := ⟨r_d1903, r_d1904, r_d1905, r_d1906, r_d1907, r_d1908, r_d1909, r_d1910, r_d1911, r_d1912, r_d1913, r_d1771, r_d1772, r_d1773, r_d1774, r_d1775, r_d1776, r_d1777, r_d1778, r_d1779, r_d1780, r_d1781, r_d1782, r_d1783, r_d1784, r_d1785, r_d1786, r_d1787, r_d1788, r_d1789, r_d1790, r_d1791, r_d1792, trivial⟩
theorem a_ls162 : A ls162 := ⟨r_d1914, r_d1915, r_d1916, r_d1917, r_d1918, r_d1919, r_d1920, r_d1921, r_d1922, r_d1923, r_d1924, r_d1771, r_d1772, r_d1773, r_d1774, r_d1775, r_d1776, r_d1777, r_d1778, r_d1779, r_d1780, r_d1781, r_d1782, r_d1783, r_d1784, r_d1785, r_d1786, r_d1787, r_d1788, r_d1789, r_d1790, r_d1791, r_d1792, trivial⟩
theorem a_ls163 : A ls163 := ⟨r_d1925, r_d1926, r_d1927, r_d1928, r_d1929, r_d1930, r_d1931, r_d1932, r_d1933, r_d1934, r_d1935, r_d1771, r_d1772, r_d1773, r_d1774, r_d1775, r_d1776, r_d1777, r_d1778, r_d1779, r_d1780, r_d1781, r_d1782, r_d1783, r_d1784, r_d1785, r_d1786, r_d1787, r_d1788, r_d1789, r_d1790, r_d1791, r_d1792, trivial⟩
theorem a_ls164 : A ls164 := ⟨r_d1936, r_d1937, r_d1938, r_d1939, r_d1940, r_d1941, r_d1942, r_d1943, r_d1944, r_d1945, r_d1946, r_d1771, r_d1772, r_d1773, r_d1774, r_d1775, r_d1776, r_d1777, r_d1778, r_d1779, r_d1780, r_d1781, r_d1782, r_d1783, r_d1784, r_d1785, r_d1786, r_d1787, r_d1788, r_d1789, r_d1790, r_d1791, r_d1792, trivial⟩
theorem a_ls165 : A ls165 := ⟨r_d1947, r_d1948, r_d1949, r_d1950, r_d1951, r_d1952, r_d1953, r_d1954, r_d1955, r_d1956, r_d1957, r_d1771, r_d1772, r_d1773, r_d1774, r_d1775, r_d1776, r_d1777, r_d1778, r_d1779, r_d1780, r_d1781, r_d1782, r_d1783, r_d1784, r_d1785, r_d1786, r_d1787, r_d1788, r_d1789, r_d1790, r_d1791, r_d1792, trivial⟩
theorem a_ls166 : A ls166 := ⟨r_d1958, r_d1959, r_d1960, r_d1961, r_d1962, r_d1963, r_d1964, r_d1965, r_d1966, r_d1967, r_d1968, r_d1771, r_d1772, r_d1773, r_d1774, r_d1775, r_d1776, r_d1777, r_d1778, r_d1779, r_d1780, r_d1781, r_d1782, r_d1783, r_d1784, r_d1785, r_d1786, r_d1787, r_d1788, r_d1789, r_d1790, r_d1791, r_d1792, trivial⟩
theorem a_ls167 : A ls167 := ⟨r_d1969, r_d1970, r_d1971, r_d1972, r_d1973, r_d1974, r_d1975, r_d1976, r_d1977, r_d1978, r_d1979, r_d1771, r_d1772, r_d1773, r_d1774, r_d1775, r_d1776, r_d1777, r_d1778, r_d1779, r_d1780, r_d1781, r_d1782, r_d1783, r_d1784, r_d1785, r_d1786, r_d1787, r_d1788, r_d1789, r_d1790, r_d1791, r_d1792, trivial⟩
theorem a_ls168 : A ls168 := ⟨r_d1980, r_d1981, r_d1982, r_d1983, r_d1984, r_d1985, r_d1986, r_d1987, r_d1988, r_d1989, r_d1990, r_d1771, r_d1772, r_d1773, r_d1774, r_d1775, r_d1776, r_d1777, r_d1778, r_d1779, r_d1780, r_d1781, r_d1782, r_d1783, r_d1784, r_d1785, r_d1786, r_d1787, r_d1788, r_d1789, r_d1790, r_d1791, r_d1792, trivial⟩
theorem a_ls169 : A ls169 := ⟨r_d1991, r_d1992, r_d1993, r_d1994, r_d1995, r_d1996, r_d1997, r_d1998, r_d1999, r_d2000, r_d2001, r_d1771, r_d1772, r_d1773, r_d1774, r_d1775, r_d1776, r_d1777, r_d1778, r_d1779, r_d1780, r_d1781, r_d1782, r_d1783, r_d1784, r_d1785, r_d1786, r_d1787, r_d1788, r_d1789, r_d1790, r_d1791, r_d1792, trivial⟩
theorem a_ls170 : A ls170 := ⟨r_d2002, r_d2003, r_d2004, r_d2005, r_d2006, r_d2007, r_d2008, r_d2009, r_d2010, r_d2011, r_d2012, r_d1771, r_d1772, r_d1773, r_d1774, r_d1775, r_d1776, r_d1777, r_d1778, r_d1779, r_d1780, r_d1781, r_d1782, r_d1783, r_d1784, r_d1785, r_d1786, r_d1787, r_d1788, r_d1789, r_d1790, r_d1791, r_d1792, trivial⟩
theorem a_ls171 : A ls171 := ⟨r_d2013, r_d2014, r_d2015, r_d2016, r_d2017, r_d2018, r_d2019, r_d2020, r_d2021, r_d2022, r_d2023, r_d1771, r_d1772, r_d1773, r_d1774, r_d1775, r_d1776, r_d1777, r_d1778, r_d1779, r_d1780, r_d1781, r_d1782, r_d1783, r_d1784, r_d1785, r_d1786, r_d1787, r_d1788, r_d1789, r_d1790, r_d1791, r_d1792, trivial⟩
theorem a_ls172 : A ls172 := ⟨r_d2024, r_d2025, r_d2026, r_d2027, r_d2028, r_d2029, r_d2030, r_d2031, r_d2032, r_d2033, r_d2034, r_d1771, r_d1772, r_d1773, r_d1774, r_d1775, r_d1776, r_d1777, r_d1778, r_d1779, r_d1780, r_d1781, r_d1782, r_d1783, r_d1784, r_d1785, r_d1786, r_d1787, r_d1788, r_d1789, r_d1790, r_d1791, r_d1792, trivial⟩
theorem a_ls173 : A ls173 := ⟨r_d2035, r_d2036, r_d2037, r_d2038, r_d2039, r_d2040, r_d2041, r_d2042, r_d2043, r_d2044, r_d2045, r_d1771, r_d1772, r_d1773, r_d1774, r_d1775, r_d1776, r_d1777, r_d1778, r_d1779, r_d1780, r_d1781, r_d1782, r_d1783, r_d1784, r_d1785, r_d1786, r_d1787, r_d1788, r_d1789, r_d1790, r_d1791, r_d1792, trivial⟩
theorem a_ls174 : A ls174 := ⟨r_d2046, r_d2047, r_d2048, r_d2049, r_d2050, r_d2051, r_d2052, r_d2053, r_d2054, r_d2055, r_d2056, r_d1771, r_d1772, r_d1773, r_d1774, r_d1775, r_d1776, r_d1777, r_d1778, r_d1779, r_d1780, r_d1781, r_d1782, r_d1783, r_d1784, r_d1785, r_d1786, r_d1787, r_d1788, r_d1789, r_d1790, r_d1791, r_d1792, trivial⟩
theorem a_ls175 : A ls175 := ⟨r_d2057, r_d2058, r_d2059, r_d2060, r_d2061, r_d2062, r_d2063, r_d2064, r_d2065, r_d2066, r_d2067, r_d1771, r_d1772, r_d1773, r_d1774, r_d1775, r_d1776, r_d1777, r_d1778, r_d1779, r_d1780, r_d1781, r_d1782, r_d1783, r_d1784, r_d1785, r_d1786, r_d1787, r_d1788, r_d1789, r_d1790, r_d1791, r_d1792, trivial⟩
theorem a_ls176 : A ls176 := ⟨r_d2068, r_d2069, r_d2070, r_d2071, r_d2072, r_d2073, r_d2074, r_d2075, r_d2076, r_d2077, r_d2078, r_d1771, r_d1772, r_d1773, r_d1774, r_d1775, r_d1776, r_d1777, r_d1778, r_d1779, r_d1780, r_d1781, r_d1782, r_d1783, r_d1784, r_d1785, r_d1786, r_d1787, r_d1788, r_d1789, r_d1790, r_d1791, r_d1792, trivial⟩
theorem a_ls177 : A ls177 := ⟨r_d2079, r_d2080, r_d2081, r_d2082, r_d2083, r_d2084, r_d2085, r_d2086, r_d2087, r_d2088, r_d2089, r_d1771, r_d1772, r_d1773, r_d1774, r_d1775, r_d1776, r_d1777, r_d1778, r_d1779, r_d1780, r_d1781, r_d1782, r_d1783, r_d1784, r_d1785, r_d1786, r_d1787, r_d1788, r_d1789, r_d1790, r_d1791, r_d1792, trivial⟩
theorem a_ls178 : A ls178 := ⟨r_d2090, r_d2091, r_d2092, r_d2093, r_d2094, r_d2095, r_d2096, r_d2097, r_d2098, r_d2099, r_d2100, r_d1771, r_d1772, r_d1773, r_d1774, r_d1775, r_d1776, r_d1777, r_d1778, r_d1779, r_d1780, r_d1781, r_d1782, r_d1783, r_d1784, r_d1785, r_d1786, r_d1787, r_d1788, r_d1789, r_d1790, r_d1791, r_d1792, trivial⟩
theorem a_ls179 : A ls179 := ⟨r_d2101, r_d2102, r_d2103, r_d2104, r_d2105, r_d2106, r_d2107, r_d2108, r_d2109, r_d2110, r_d2111, r_d1771, r_d1772, r_d1773, r_d1774, r_d1775, r_d1776, r_d1777, r_d1778, r_d1779, r_d1780, r_d1781, r_d1782, r_d1783, r_d1784, r_d1785, r_d1786, r_d1787, r_d1788, r_d1789, r_d1790, r_d1791, r_d1792, trivial⟩
theorem n_0 : G [(4103, 2, 2), (10, 0, 0)] := CoversG.part 8194 (by kernel_rfl) fun v hv => by
  have h : v = 0 ∨ v = 1 := by omega
  rcases h with rfl | rfl
  · exact .drew (.tree _ c0_2_0) a_ls2
  · exact .drew (.tree _ c0_2_1) a_ls3
theorem n_1 : G [(4103, 3, 3), (10, 0, 0)] := CoversG.part 8195 (by kernel_rfl) fun v hv => by
  have h : v = 0 ∨ v = 1 ∨ v = 2 := by omega
  rcases h with rfl | rfl | rfl
  · exact .drew (.tree _ c0_3_0) a_ls4
  · exact .drew (.tree _ c0_3_1) a_ls5
  · exact .drew (.tree _ c0_3_2) a_ls6
theorem n_2 : G [(4103, 4, 4), (10, 0, 0)] := CoversG.part 8197 (by kernel_rfl) fun v hv => by
  have h : v = 0 ∨ v = 1 ∨ v = 2 ∨ v = 3 ∨ v = 4 := by omega
  rcases h with rfl | rfl | rfl | rfl | rfl
  · exact .drew (.tree _ c0_4_0) a_ls7
  · exact .drew (.tree _ c0_4_1) a_ls8
  · exact .drew (.tree _ c0_4_2) a_ls9
  · exact .drew (.tree _ c0_4_3) a_ls10
  · exact .drew (.tree _ c0_4_4) a_ls11
theorem n_3 : G [(4103, 5, 5), (10, 0, 0)] := CoversG.part 8199 (by kernel_rfl) fun v hv => by
  have h : v = 0 ∨ v = 1 ∨ v = 2 ∨ v = 3 ∨ v = 4 ∨ v = 5 ∨ v = 6 := by omega
  rcases h with rfl | rfl | rfl | rfl | rfl | rfl | rfl
  · exact .drew (.tree _ c0_5_0) a_ls12
  · exact .drew (.tree _ c0_5_1) a_ls13
  · exact .drew (.tree _ c0_5_2) a_ls14
  · exact .drew (.tree _ c0_5_3) a_ls15
  · exact .drew (.tree _ c0_5_4) a_ls16
  · exact .drew (.tree _ c0_5_5) a_ls17
  · exact .drew (.tree _ c0_5_6) a_ls18
theorem n_4 : G [(4103, 6, 6), (10, 0, 0)] := CoversG.part 8203 (by kernel_rfl) fun v hv => by
  have h : v = 0 ∨ v = 1 ∨ v = 2 ∨ v = 3 ∨ v = 4 ∨ v = 5 ∨ v = 6 ∨ v = 7 ∨ v = 8 ∨ v = 9 ∨ v = 10 := by omega
  rcases h with rfl | rfl | rfl | rfl | rfl | rfl | rfl | rfl | rfl | rfl | rfl
  · exact .drew (.tree _ c0_6_0) a_ls19
  · exact .drew (.tree _ c0_6_1) a_ls20
  · exact .drew (.tree _ c0_6_2) a_ls21
  · exact .drew (.tree _ c0_6_3) a_ls22
  · exact .drew (.tree _ c0_6_4) a_ls23
  · exact .drew (.tree _ c0_6_5) a_ls24
  · exact .drew (.tree _ c0_6_6) a_ls25
  · exact .drew (.tree _ c0_6_7) a_ls26
  · exact .drew (.tree _ c0_6_8) a_ls27
  · exact .drew (.tree _ c0_6_9) a_ls28
  · exact .drew (.tree _ c0_6_10) a_ls29
theorem n_5 : G [(10, 0, 0)] := CoversG.part 4103 (by kernel_rfl) fun v hv => by
  have h : v = 0 ∨ v = 1 ∨ v = 2 ∨ v = 3 ∨ v = 4 ∨ v = 5 ∨ v = 6 := by omega
  rcases h with rfl | rfl | rfl | rfl | rfl | rfl | rfl
  · exact .drew (.tree _ c0_0_0) a_ls0
  · exact .drew (.tree _ c0_1_0) a_ls1
  · exact n_0
  · exact n_1
  · exact n_2
  · exact n_3
  · exact n_4
theorem n_6 : G [(4103, 2, 2), (10, 1, 1)] := CoversG.part 8194 (by kernel_rfl) fun v hv => by
  have h : v = 0 ∨ v = 1 := by omega
  rcases h with rfl | rfl
  · exact .drew (.tree _ c1_2_0) a_ls32
  · exact .drew (.tree _ c1_2_1) a_ls33
theorem n_7 : G [(4103, 3, 3), (10, 1, 1)] := CoversG.part 8195 (by kernel_rfl) fun v hv => by
  have h : v = 0 ∨ v = 1 ∨ v = 2 := by omega
  rcases h with rfl | rfl | rfl
  · exact .drew (.tree _ c1_3_0) a_ls34
  · exact .drew (.tree _ c1_3_1) a_ls35
  · exact .drew (.tree _ c1_3_2) a_ls36
theorem n_8 : G [(4103, 4, 4), (10, 1, 1)] := CoversG.part 8197 (by kernel_rfl) fun v hv => by
  have h : v = 0 ∨ v = 1 ∨ v = 2 ∨ v = 3 ∨ v = 4 := by omega
  rcases h with rfl | rfl | rfl | rfl | rfl
  · exact .drew (.tree _ c1_4_0) a_ls37
  · exact .drew (.tree _ c1_4_1) a_ls38
  · exact .drew (.tree _ c1_4_2) a_ls39
  · exact .drew (.tree _ c1_4_3) a_ls40
  · exact .drew (.tree _ c1_4_4) a_ls41
theorem n_9 : G [(4103, 5, 5), (10, 1, 1)] := CoversG.part 8199 (by kernel_rfl) fun v hv => by
  have h : v = 0 ∨ v = 1 ∨ v = 2 ∨ v = 3 ∨ v = 4 ∨ v = 5 ∨ v = 6 := by omega
  rcases h with rfl | rfl | rfl | rfl | rfl | rfl | rfl
  · exact .drew (.tree _ c1_5_0) a_ls42
  · exact .drew (.tree _ c1_5_1) a_ls43
  · exact .drew (.tree _ c1_5_2) a_ls44
  · exact .drew (.tree _ c1_5_3) a_ls45
  · exact .drew (.tree _ c1_5_4) a_ls46
  · exact .drew (.tree _ c1_5_5) a_ls47
  · exact .drew (.tree _ c1_5_6) a_ls48
theorem n_10 : G [(4103, 6, 6), (10, 1, 1)] := CoversG.part 8203 (by kernel_rfl) fun v hv => by
  have h : v = 0 ∨ v = 1 ∨ v = 2 ∨ v = 3 ∨ v = 4 ∨ v = 5 ∨ v = 6 ∨ v = 7 ∨ v = 8 ∨ v = 9 ∨ v = 10 := by omega
  rcases h with rfl | rfl | rfl | rfl | rfl | rfl | rfl | rfl | rfl | rfl | rfl
  · exact .drew (.tree _ c1_6_0) a_ls49
  · exact .drew (.tree _ c1_6_1) a_ls50
  · exact .drew (.tree _ c1_6_2) a_ls51
  · exact .drew (.tree _ c1_6_3) a_ls52
  · exact .drew (.tree _ c1_6_4) a_ls53
  · exact .drew (.tree _ c1_6_5) a_ls54
  · exact .drew (.tree _ c1_6_6) a_ls55
  · exact .drew (.tree _ c1_6_7) a_ls56
  · exact .drew (.tree _ c1_6_8) a_ls57
  · exact .drew (.tree _ c1_6_9) a_ls58
  · exact .drew (.tree _ c1_6_10) a_ls59
theorem n_11 : G [(10, 1, 1)] := CoversG.part 4103 (by kernel_rfl) fun v hv => by
  have h : v = 0 ∨ v = 1 ∨ v = 2 ∨ v = 3 ∨ v = 4 ∨ v = 5 ∨ v = 6 := by omega
  rcases h with rfl | rfl | rfl | rfl | rfl | rfl | rfl
  · exact .drew (.tree _ c1_0_0) a_ls30
  · exact .drew (.tree _ c1_1_0) a_ls31
  · exact n_6
  · exact n_7
  · exact n_8
  · exact n_9
  · exact n_10
theorem n_12 : G [(4103, 2, 2), (10, 2, 2)] := CoversG.part 8194 (by kernel_rfl) fun v hv => by
  have h : v = 0 ∨ v = 1 := by omega
  rcases h with rfl | rfl
  · exact .drew (.tree _ c2_2_0) a_ls62
  · exact .drew (.tree _ c2_2_1) a_ls63
theorem n_13 : G [(4103, 3, 3), (10, 2, 2)] := CoversG.part 8195 (by kernel_rfl) fun v hv => by
  have h : v = 0 ∨ v = 1 ∨ v = 2 := by omega
  rcases h with rfl | rfl | rfl
  · exact .drew (.tree _ c2_3_0) a_ls64
  · exact .drew (.tree _ c2_3_1) a_ls65
  · exact .drew (.tree _ c2_3_2) a_ls66
theorem n_14 : G [(4103, 4, 4), (10, 2, 2)] := CoversG.part 8197 (by kernel_rfl) fun v hv => by
  have h : v = 0 ∨ v = 1 ∨ v = 2 ∨ v = 3 ∨ v = 4 := by omega
  rcases h with rfl | rfl | rfl | rfl | rfl
  · exact .drew (.tree _ c2_4_0) a_ls67
  · exact .drew (.tree _ c2_4_1) a_ls68
  · exact .drew (.tree _ c2_4_2) a_ls69
  · exact .drew (.tree _ c2_4_3) a_ls70
  · exact .drew (.tree _ c2_4_4) a_ls71
theorem n_15 : G [(4103, 5, 5), (10, 2, 2)] := CoversG.part 8199 (by kernel_rfl) fun v hv => by
  have h : v = 0 ∨ v = 1 ∨ v = 2 ∨ v = 3 ∨ v = 4 ∨ v = 5 ∨ v = 6 := by omega
  rcases h with rfl | rfl | rfl | rfl | rfl | rfl | rfl
  · exact .drew (.tree _ c2_5_0) a_ls72
  · exact .drew (.tree _ c2_5_1) a_ls73
  · exact .drew (.tree _ c2_5_2) a_ls74
  · exact .drew (.tree _ c2_5_3) a_ls75
  · exact .drew (.tree _ c2_5_4) a_ls76
  · exact .drew (.tree _ c2_5_5) a_ls77
  · exact .drew (.tree _ c2_5_6) a_ls78
theorem n_16 : G [(4103, 6, 6), (10, 2, 2)] := CoversG.part 8203 (by kernel_rfl) fun v hv => by
  have h : v = 0 ∨ v = 1 ∨ v = 2 ∨ v = 3 ∨ v = 4 ∨ v = 5 ∨ v = 6 ∨ v = 7 ∨ v = 8 ∨ v = 9 ∨ v = 10 := by omega
  rcases h with rfl | rfl | rfl | rfl | rfl | rfl | rfl | rfl | rfl | rfl | rfl
  · exact .drew (.tree _ c2_6_0) a_ls79
  · exact .drew (.tree _ c2_6_1) a_ls80
  · exact .drew (.tree _ c2_6_2) a_ls81
  · exact .drew (.tree _ c2_6_3) a_ls82
  · exact .drew (.tree _ c2_6_4) a_ls83
  · exact .drew (.tree _ c2_6_5) a_ls84
  · exact .drew (.tree _ c2_6_6) a_ls85
  · exact .drew (.tree _ c2_6_7) a_ls86
  · exact .drew (.tree _ c2_6_8) a_ls87
  · exact .drew (.tree _ c2_6_9) a_ls88
  · exact .drew (.tree _ c2_6_10) a_ls89
theorem n_17 : G [(10, 2, 2)] := CoversG.part 4103 (by kernel_rfl) fun v hv => by
  have h : v = 0 ∨ v = 1 ∨ v = 2 ∨ v = 3 ∨ v = 4 ∨ v = 5 ∨ v = 6 := by omega
  rcases h with rfl | rfl | rfl | rfl | rfl | rfl | rfl
  · exact .drew (.tree _ c2_0_0) a_ls60
  · exact .drew (.tree _ c2_1_0) a_ls61
  · exact n_12
  · exact n_13
  · exact n_14
  · exact n_15
  · exact n_16
theorem n_18 : G [(4103, 2, 2), (10, 3, 3)] := CoversG.part 8194 (by kernel_rfl) fun v hv => by
  have h : v = 0 ∨ v = 1 := by omega
  rcases h with rfl | rfl
  · exact .drew (.tree _ c3_2_0) a_ls92
  · exact .drew (.tree _ c3_2_1) a_ls93
theorem n_19 : G [(4103, 3, 3), (10, 3, 3)] := CoversG.part 8195 (by kernel_rfl) fun v hv => by
  have h : v = 0 ∨ v = 1 ∨ v = 2 := by omega
  rcases h with rfl | rfl | rfl
  · exact .drew (.tree _ c3_3_0) a_ls94
  · exact .drew (.tree _ c3_3_1) a_ls95
  · exact .drew (.tree _ c3_3_2) a_ls96
theorem n_20 : G [(4103, 4, 4), (10, 3, 3)] := CoversG.part 8197 (by kernel_rfl) fun v hv => by
  have h : v = 0 ∨ v = 1 ∨ v = 2 ∨ v = 3 ∨ v = 4 := by omega
  rcases h with rfl | rfl | rfl | rfl | rfl
  · exact .drew (.tree _ c3_4_0) a_ls97
  · exact .drew (.tree _ c3_4_1) a_ls98
  · exact .drew (.tree _ c3_4_2) a_ls99
  · exact .drew (.tree _ c3_4_3) a_ls100
  · exact .drew (.tree _ c3_4_4) a_ls101
theorem n_21 : G [(4103, 5, 5), (10, 3, 3)] := CoversG.part 8199 (by kernel_rfl) fun v hv => by
  have h : v = 0 ∨ v = 1 ∨ v = 2 ∨ v = 3 ∨ v = 4 ∨ v = 5 ∨ v = 6 := by omega
  rcases h with rfl | rfl | rfl | rfl | rfl | rfl | rfl
  · exact .drew (.tree _ c3_5_0) a_ls102
  · exact .drew (.tree _ c3_5_1) a_ls103
  · exact .drew (.tree _ c3_5_2) a_ls104
  · exact .drew (.tree _ c3_5_3) a_ls105
  · exact .drew (.tree _ c3_5_4) a_ls106
  · exact .drew (.tree _ c3_5_5) a_ls107
  · exact .drew (.tree _ c3_5_6) a_ls108
theorem n_22 : G [(4103, 6, 6), (10, 3, 3)] := CoversG.part 8203 (by kernel_rfl) fun v hv => by
  have h : v = 0 ∨ v = 1 ∨ v = 2 ∨ v = 3 ∨ v = 4 ∨ v = 5 ∨ v = 6 ∨ v = 7 ∨ v = 8 ∨ v = 9 ∨ v = 10 := by omega
  rcases h with rfl | rfl | rfl | rfl | rfl | rfl | rfl | rfl | rfl | rfl | rfl
  · exact .drew (.tree _ c3_6_0) a_ls109
  · exact .drew (.tree _ c3_6_1) a_ls110
  · exact .drew (.tree _ c3_6_2) a_ls111
  · exact .drew (.tree _ c3_6_3) a_ls112
  · exact .drew (.tree _ c3_6_4) a_ls113
  · exact .drew (.tree _ c3_6_5) a_ls114
  · exact .drew (.tree _ c3_6_6) a_ls115
  · exact .drew (.tree _ c3_6_7) a_ls116
  · exact .drew (.tree _ c3_6_8) a_ls117
  · exact .drew (.tree _ c3_6_9) a_ls118
  · exact .drew (.tree _ c3_6_10) a_ls119
theorem n_23 : G [(10, 3, 3)] := CoversG.part 4103 (by kernel_rfl) fun v hv => by
  have h : v = 0 ∨ v = 1 ∨ v = 2 ∨ v = 3 ∨ v = 4 ∨ v = 5 ∨ v = 6 := by omega
  rcases h with rfl | rfl | rfl | rfl | rfl | rfl | rfl
  · exact .drew (.tree _ c3_0_0) a_ls90
  · exact .drew (.tree _ c3_1_0) a_ls91
  · exact n_18
  · exact n_19
  · exact n_20
  · exact n_21
  · exact n_22
theorem n_24 : G [(4103, 2, 2), (10, 4, 4)] := CoversG.part 8194 (by kernel_rfl) fun v hv => by
  have h : v = 0 ∨ v = 1 := by omega
  rcases h with rfl | rfl
  · exact .drew (.tree _ c4_2_0) a_ls2
  · exact .drew (.tree _ c4_2_1) a_ls3
theorem n_25 : G [(4103, 3, 3), (10, 4, 4)] := CoversG.part 8195 (by kernel_rfl) fun v hv => by
  have h : v = 0 ∨ v = 1 ∨ v = 2 := by omega
  rcases h with rfl | rfl | rfl
  · exact .drew (.tree _ c4_3_0) a_ls4
  · exact .drew (.tree _ c4_3_1) a_ls5
  · exact .drew (.tree _ c4_3_2) a_ls6
theorem n_26 : G [(4103, 4, 4), (10, 4, 4)] := CoversG.part 8197 (by kernel_rfl) fun v hv => by
  have h : v = 0 ∨ v = 1 ∨ v = 2 ∨ v = 3 ∨ v = 4 := by omega
  rcases h with rfl | rfl | rfl | rfl | rfl
  · exact .drew (.tree _ c4_4_0) a_ls7
  · exact .drew (.tree _ c4_4_1) a_ls8
  · exact .drew (.tree _ c4_4_2) a_ls9
  · exact .drew (.tree _ c4_4_3) a_ls10
  · exact .drew (.tree _ c4_4_4) a_ls11
theorem n_27 : G [(4103, 5, 5), (10, 4, 4)] := CoversG.part 8199 (by kernel_rfl) fun v hv => by
  have h : v = 0 ∨ v = 1 ∨ v = 2 ∨ v = 3 ∨ v = 4 ∨ v = 5 ∨ v = 6 := by omega
  rcases h with rfl | rfl | rfl | rfl | rfl | rfl | rfl
  · exact .drew (.tree _ c4_5_0) a_ls12
  · exact .drew (.tree _ c4_5_1) a_ls13
  · exact .drew (.tree _ c4_5_2) a_ls14
  · exact .drew (.tree _ c4_5_3) a_ls15
  · exact .drew (.tree _ c4_5_4) a_ls16
  · exact .drew (.tree _ c4_5_5) a_ls17
  · exact .drew (.tree _ c4_5_6) a_ls18
theorem n_28 : G [(4103, 6, 6), (10, 4, 4)] := CoversG.part 8203 (by kernel_rfl) fun v hv => by
  have h : v = 0 ∨ v = 1 ∨ v = 2 ∨ v = 3 ∨ v = 4 ∨ v = 5 ∨ v = 6 ∨ v = 7 ∨ v = 8 ∨ v = 9 ∨ v = 10 := by omega
  rcases h with rfl | rfl | rfl | rfl | rfl | rfl | rfl | rfl | rfl | rfl | rfl
  · exact .drew (.tree _ c4_6_0) a_ls19
  · exact .drew (.tree _ c4_6_1) a_ls20
  · exact .drew (.tree _ c4_6_2) a_ls21
  · exact .drew (.tree _ c4_6_3) a_ls22
  · exact .drew (.tree _ c4_6_4) a_ls23
  · exact .drew (.tree _ c4_6_5) a_ls24
  · exact .drew (.tree _ c4_6_6) a_ls25
  · exact .drew (.tree _ c4_6_7) a_ls26
  · exact .drew (.tree _ c4_6_8) a_ls27
  · exact .drew (.tree _ c4_6_9) a_ls28
  · exact .drew (.tree _ c4_6_10) a_ls29
theorem n_29 : G [(10, 4, 4)] := CoversG.part 4103 (by kernel_rfl) fun v hv => by
  have h : v = 0 ∨ v = 1 ∨ v = 2 ∨ v = 3 ∨ v = 4 ∨ v = 5 ∨ v = 6 := by omega
  rcases h with rfl | rfl | rfl | rfl | rfl | rfl | rfl
  · exact .drew (.tree _ c4_0_0) a_ls0
  · exact .drew (.tree _ c4_1_0) a_ls1
  · exact n_24
  · exact n_25
  · exact n_26
  · exact n_27
  · exact n_28
theorem n_30 : G [(4103, 2, 2), (10, 5, 5)] := CoversG.part 8194 (by kernel_rfl) fun v hv => by
  have h : v = 0 ∨ v = 1 := by omega
  rcases h with rfl | rfl
  · exact .drew (.tree _ c5_2_0) a_ls32
  · exact .drew (.tree _ c5_2_1) a_ls33
theorem n_31 : G [(4103, 3, 3), (10, 5, 5)] := CoversG.part 8195 (by kernel_rfl) fun v hv => by
  have h : v = 0 ∨ v = 1 ∨ v = 2 := by omega
  rcases h with rfl | rfl | rfl
  · exact .drew (.tree _ c5_3_0) a_ls34
  · exact .drew (.tree _ c5_3_1) a_ls35
  · exact .drew (.tree _ c5_3_2) a_ls36
theorem n_32 : G [(4103, 4, 4), (10, 5, 5)] := CoversG.part 8197 (by kernel_rfl) fun v hv => by
  have h : v = 0 ∨ v = 1 ∨ v = 2 ∨ v = 3 ∨ v = 4 := by omega
  rcases h with rfl | rfl | rfl | rfl | rfl
  · exact .drew (.tree _ c5_4_0) a_ls37
  · exact .drew (.tree _ c5_4_1) a_ls38
  · exact .drew (.tree _ c5_4_2) a_ls39
  · exact .drew (.tree _ c5_4_3) a_ls40
  · exact .drew (.tree _ c5_4_4) a_ls41
theorem n_33 : G [(4103, 5, 5), (10, 5, 5)] := CoversG.part 8199 (by kernel_rfl) fun v hv => by
  have h : v = 0 ∨ v = 1 ∨ v = 2 ∨ v = 3 ∨ v = 4 ∨ v = 5 ∨ v = 6 := by omega
  rcases h with rfl | rfl | rfl | rfl | rfl | rfl | rfl
  · exact .drew (.tree _ c5_5_0) a_ls42
  · exact .drew (.tree _ c5_5_1) a_ls43
  · exact .drew (.tree _ c5_5_2) a_ls44
  · exact .drew (.tree _ c5_5_3) a_ls45
  · exact .drew (.tree _ c5_5_4) a_ls46
  · exact .drew (.tree _ c5_5_5) a_ls47
  · exact .drew (.tree _ c5_5_6) a_ls48
theorem n_34 : G [(4103, 6, 6), (10, 5, 5)] := CoversG.part 8203 (by kernel_rfl) fun v hv => by
  have h : v = 0 ∨ v = 1 ∨ v = 2 ∨ v = 3 ∨ v = 4 ∨ v = 5 ∨ v = 6 ∨ v = 7 ∨ v = 8 ∨ v = 9 ∨ v = 10 := by omega
  rcases h with rfl | rfl | rfl | rfl | rfl | rfl | rfl | rfl | rfl | rfl | rfl
  · exact .drew (.tree _ c5_6_0) a_ls49
  · exact .drew (.tree _ c5_6_1) a_ls50
  · exact .drew (.tree _ c5_6_2) a_ls51
  · exact .drew (.tree _ c5_6_3) a_ls52
  · exact .drew (.tree _ c5_6_4) a_ls53
  · exact .drew (.tree _ c5_6_5) a_ls54
  · exact .drew (.tree _ c5_6_6) a_ls55
  · exact .drew (.tree _ c5_6_7) a_ls56
  · exact .drew (.tree _ c5_6_8) a_ls57
  · exact .drew (.tree _ c5_6_9) a_ls58
  · exact .drew (.tree _ c5_6_10) a_ls59
theorem n_35 : G [(10, 5, 5)] := CoversG.part 4103 (by kernel_rfl) fun v hv => by
  have h : v = 0 ∨ v = 1 ∨ v = 2 ∨ v = 3 ∨ v = 4 ∨ v = 5 ∨ v = 6 := by omega
  rcases h with rfl | rfl | rfl | rfl | rfl | rfl | rfl
  · exact .drew (.tree _ c5_0_0) a_ls30
  · exact .drew (.tree _ c5_1_0) a_ls31
  · exact n_30
  · exact n_31
  · exact n_32
  · exact n_33
  · exact n_34
theorem n_36 : G [(4103, 2, 2), (10, 6, 6)] := CoversG.part 8194 (by kernel_rfl) fun v hv => by
  have h : v = 0 ∨ v = 1 := by omega
  rcases h with rfl | rfl
  · exact .drew (.tree _ c6_2_0) a_ls62
  · exact .drew (.tree _ c6_2_1) a_ls63
theorem n_37 : G [(4103, 3, 3), (10, 6, 6)] := CoversG.part 8195 (by kernel_rfl) fun v hv => by
  have h : v = 0 ∨ v = 1 ∨ v = 2 := by omega
  rcases h with rfl | rfl | rfl
  · exact .drew (.tree _ c6_3_0) a_ls64
  · exact .drew (.tree _ c6_3_1) a_ls65
  · exact .drew (.tree _ c6_3_2) a_ls66
theorem n_38 : G [(4103, 4, 4), (10, 6, 6)] := CoversG.part 8197 (by kernel_rfl) fun v hv => by
  have h : v = 0 ∨ v = 1 ∨ v = 2 ∨ v = 3 ∨ v = 4 := by omega
  rcases h with rfl | rfl | rfl | rfl | rfl
  · exact .drew (.tree _ c6_4_0) a_ls67
  · exact .drew (.tree _ c6_4_1) a_ls68
  · exact .drew (.tree _ c6_4_2) a_ls69
  · exact .drew (.tree _ c6_4_3) a_ls70
  · exact .drew (.tree _ c6_4_4) a_ls71
theorem n_39 : G [(4103, 5, 5), (10, 6, 6)] := CoversG.part 8199 (by kernel_rfl) fun v hv => by
  have h : v = 0 ∨ v = 1 ∨ v = 2 ∨ v = 3 ∨ v = 4 ∨ v = 5 ∨ v = 6 := by omega
  rcases h with rfl | rfl | rfl | rfl | rfl | rfl | rfl
  · exact .drew (.tree _ c6_5_0) a_ls72
  · exact .drew (.tree _ c6_5_1) a_ls73
  · exact .drew (.tree _ c6_5_2) a_ls74
  · exact .drew (.tree _ c6_5_3) a_ls75
  · exact .drew (.tree _ c6_5_4) a_ls76
  · exact .drew (.tree _ c6_5_5) a_ls77
  · exact .drew (.tree _ c6_5_6) a_ls78
theorem n_40 : G [(4103, 6, 6), (10, 6, 6)] := CoversG.part 8203 (by kernel_rfl) fun v hv => by
  have h : v = 0 ∨ v = 1 ∨ v = 2 ∨ v = 3 ∨ v = 4 ∨ v = 5 ∨ v = 6 ∨ v = 7 ∨ v = 8 ∨ v = 9 ∨ v = 10 := by omega
  rcases h with rfl | rfl | rfl | rfl | rfl | rfl | rfl | rfl | rfl | rfl | rfl
  · exact .drew (.tree _ c6_6_0) a_ls79
  · exact .drew (.tree _ c6_6_1) a_ls80
  · exact .drew (.tree _ c6_6_2) a_ls81
  · exact .drew (.tree _ c6_6_3) a_ls82
  · exact .drew (.tree _ c6_6_4) a_ls83
  · exact .drew (.tree _ c6_6_5) a_ls84
  · exact .drew (.tree _ c6_6_6) a_ls85
  · exact .drew (.tree _ c6_6_7) a_ls86
  · exact .drew (.tree _ c6_6_8) a_ls87
  · exact .drew (.tree _ c6_6_9) a_ls88
  · exact .drew (.tree _ c6_6_10) a_ls89
theorem n_41 : G [(10, 6, 6)] := CoversG.part 4103 (by kernel_rfl) fun v hv => by
  have h : v = 0 ∨ v = 1 ∨ v = 2 ∨ v = 3 ∨ v = 4 ∨ v = 5 ∨ v = 6 := by omega
  rcases h with rfl | rfl | rfl | rfl | rfl | rfl | rfl
  · exact .drew (.tree _ c6_0_0) a_ls60
  · exact .drew (.tree _ c6_1_0) a_ls61
  · exact n_36
  · exact n_37
  · exact n_38
  · exact n_39
  · exact n_40
theorem n_42 : G [(4103, 2, 2), (10, 7, 7)] := CoversG.part 8194 (by kernel_rfl) fun v hv => by
  have h : v = 0 ∨ v = 1 := by omega
  rcases h with rfl | rfl
  · exact .drew (.tree _ c7_2_0) a_ls92
  · exact .drew (.tree _ c7_2_1) a_ls93
theorem n_43 : G [(4103, 3, 3), (10, 7, 7)] := CoversG.part 8195 (by kernel_rfl) fun v hv => by
  have h : v = 0 ∨ v = 1 ∨ v = 2 := by omega
  rcases h with rfl | rfl | rfl
  · exact .drew (.tree _ c7_3_0) a_ls94
  · exact .drew (.tree _ c7_3_1) a_ls95
  · exact .drew (.tree _ c7_3_2) a_ls96
theorem n_44 : G [(4103, 4, 4), (10, 7, 7)] := CoversG.part 8197 (by kernel_rfl) fun v hv => by
  have h : v = 0 ∨ v = 1 ∨ v = 2 ∨ v = 3 ∨ v = 4 := by omega
  rcases h with rfl | rfl | rfl | rfl | rfl
  · exact .drew (.tree _ c7_4_0) a_ls97
  · exact .drew (.tree _ c7_4_1) a_ls98
  · exact .drew (.tree _ c7_4_2) a_ls99
  · exact .drew (.tree _ c7_4_3) a_ls100
  · exact .drew (.tree _ c7_4_4) a_ls101
theorem n_45 : G [(4103, 5, 5), (10, 7, 7)] := CoversG.part 8199 (by kernel_rfl) fun v hv => by
  have h : v = 0 ∨ v = 1 ∨ v = 2 ∨ v = 3 ∨ v = 4 ∨ v = 5 ∨ v = 6 := by omega
  rcases h with rfl | rfl | rfl | rfl | rfl | rfl | rfl
  · exact .drew (.tree _ c7_5_0) a_ls102
  · exact .drew (.tree _ c7_5_1) a_ls103
  · exact .drew (.tree _ c7_5_2) a_ls104
  · exact .drew (.tree _ c7_5_3) a_ls105
  · exact .drew (.tree _ c7_5_4) a_ls106
  · exact .drew (.tree _ c7_5_5) a_ls107
  · exact .drew (.tree _ c7_5_6) a_ls108
theorem n_46 : G [(4103, 6, 6), (10, 7, 7)] := CoversG.part 8203 (by kernel_rfl) fun v hv => by
  have h : v = 0 ∨ v = 1 ∨ v = 2 ∨ v = 3 ∨ v = 4 ∨ v = 5 ∨ v = 6 ∨ v = 7 ∨ v = 8 ∨ v = 9 ∨ v = 10 := by omega
  rcases h with rfl | rfl | rfl | rfl | rfl | rfl | rfl | rfl | rfl | rfl | rfl
  · exact .drew (.tree _ c7_6_0) a_ls109
  · exact .drew (.tree _ c7_6_1) a_ls110
  · exact .drew (.tree _ c7_6_2) a_ls111
  · exact .drew (.tree _ c7_6_3) a_ls112
  · exact .drew (.tree _ c7_6_4) a_ls113
  · exact .drew (.tree _ c7_6_5) a_ls114
  · exact .drew (.tree _ c7_6_6) a_ls115
  · exact .drew (.tree _ c7_6_7) a_ls116
  · exact .drew (.tree _ c7_6_8) a_ls117
  · exact .drew (.tree _ c7_6_9) a_ls118
  · exact .drew (.tree _ c7_6_10) a_ls119
theorem n_47 : G [(10, 7, 7)] := CoversG.part 4103 (by kernel_rfl) fun v hv => by
  have h : v = 0 ∨ v = 1 ∨ v = 2 ∨ v = 3 ∨ v = 4 ∨ v = 5 ∨ v = 6 := by omega
  rcases h with rfl | rfl | rfl | rfl | rfl | rfl | rfl
  · exact .drew (.tree _ c7_0_0) a_ls90
  · exact .drew (.tree _ c7_1_0) a_ls91
  · exact n_42
  · exact n_43
  · exact n_44
  · exact n_45
  · exact n_46
theorem n_48 : G [(4103, 2, 2), (10, 8, 8)] := CoversG.part 8194 (by kernel_rfl) fun v hv => by
  have h : v = 0 ∨ v = 1 := by omega
  rcases h with rfl | rfl
  · exact .drew (.tree _ c8_2_0) a_ls122
  · exact .drew (.tree _ c8_2_1) a_ls123
theorem n_49 : G [(4103, 3, 3), (10, 8, 8)] := CoversG.part 8195 (by kernel_rfl) fun v hv => by
  have h : v = 0 ∨ v = 1 ∨ v = 2 := by omega
  rcases h with rfl | rfl | rfl
  · exact .drew (.tree _ c8_3_0) a_ls124
  · exact .drew (.tree _ c8_3_1) a_ls125
  · exact .drew (.tree _ c8_3_2) a_ls126
theorem n_50 : G [(4103, 4, 4), (10, 8, 8)] := CoversG.part 8197 (by kernel_rfl) fun v hv => by
  have h : v = 0 ∨ v = 1 ∨ v = 2 ∨ v = 3 ∨ v = 4 := by omega
  rcases h with rfl | rfl | rfl | rfl | rfl
  · exact .drew (.tree _ c8_4_0) a_ls127
  · exact .drew (.tree _ c8_4_1) a_ls128
  · exact .drew (.tree _ c8_4_2) a_ls129
  · exact .drew (.tree _ c8_4_3) a_ls130
  · exact .drew (.tree _ c8_4_4) a_ls131
theorem n_51 : G [(4103, 5, 5), (10, 8, 8)] := CoversG.part 8199 (by kernel_rfl) fun v hv => by
  have h : v = 0 ∨ v = 1 ∨ v = 2 ∨ v = 3 ∨ v = 4 ∨ v = 5 ∨ v = 6 := by omega
  rcases h with rfl | rfl | rfl | rfl | rfl | rfl | rfl
  · exact .drew (.tree _ c8_5_0) a_ls132
  · exact .drew (.tree _ c8_5_1) a_ls133
  · exact .drew (.tree _ c8_5_2) a_ls134
  · exact .drew (.tree _ c8_5_3) a_ls135
  · exact .drew (.tree _ c8_5_4) a_ls136
  · exact .drew (.tree _ c8_5_5) a_ls137
  · exact .drew (.tree _ c8_5_6) a_ls138
theorem n_52 : G [(4103, 6, 6), (10, 8, 8)] := CoversG.part 8203 (by kernel_rfl) fun v hv => by
  have h : v = 0 ∨ v = 1 ∨ v = 2 ∨ v = 3 ∨ v = 4 ∨ v = 5 ∨ v = 6 ∨ v = 7 ∨ v = 8 ∨ v = 9 ∨ v = 10 := by omega
  rcases h with rfl | rfl | rfl | rfl | rfl | rfl | rfl | rfl | rfl | rfl | rfl
  · exact .drew (.tree _ c8_6_0) a_ls139
  · exact .drew (.tree _ c8_6_1) a_ls140
  · exact .drew (.tree _ c8_6_2) a_ls141
  · exact .drew (.tree _ c8_6_3) a_ls142
  · exact .drew (.tree _ c8_6_4) a_ls143
  · exact .drew (.tree _ c8_6_5) a_ls144
  · exact .drew (.tree _ c8_6_6) a_ls145
  · exact .drew (.tree _ c8_6_7) a_ls146
  · exact .drew (.tree _ c8_6_8) a_ls147
  · exact .drew (.tree _ c8_6_9) a_ls148
  · exact .drew (.tree _ c8_6_10) a_ls149
theorem n_53 : G [(10, 8, 8)] := CoversG.part 4103 (by kernel_rfl) fun v hv => by
  have h : v = 0 ∨ v = 1 ∨ v = 2 ∨ v = 3 ∨ v = 4 ∨ v = 5 ∨ v = 6 := by omega
  rcases h with rfl | rfl | rfl | rfl | rfl | rfl | rfl
  · exact .drew (.tree _ c8_0_0) a_ls120
  · exact .drew (.tree _ c8_1_0) a_ls121
  · exact n_48
  · exact n_49
  · exact n_50
  · exact n_51
  · exact n_52
theorem n_54 : G [(4103, 2, 2), (10, 9, 9)] := CoversG.part 8194 (by kernel_rfl) fun v hv => by
  have h : v = 0 ∨ v = 1 := by omega
  rcases h with rfl | rfl
  · exact .drew (.tree _ c9_2_0) a_ls152
  · exact .drew (.tree _ c9_2_1) a_ls153
theorem n_55 : G [(4103, 3, 3), (10, 9, 9)] := CoversG.part 8195 (by kernel_rfl) fun v hv => by
  have h : v = 0 ∨ v = 1 ∨ v = 2 := by omega
  rcases h with rfl | rfl | rfl
  · exact .drew (.tree _ c9_3_0) a_ls154
  · exact .drew (.tree _ c9_3_1) a_ls155
  · exact .drew (.tree _ c9_3_2) a_ls156
theorem n_56 : G [(4103, 4, 4), (10, 9, 9)] := CoversG.part 8197 (by kernel_rfl) fun v hv => by
  have h : v = 0 ∨ v = 1 ∨ v = 2 ∨ v = 3 ∨ v = 4 := by omega
  rcases h with rfl | rfl | rfl | rfl | rfl
  · exact .drew (.tree _ c9_4_0) a_ls157
  · exact .drew (.tree _ c9_4_1) a_ls158
  · exact .drew (.tree _ c9_4_2) a_ls159
  · exact .drew (.tree _ c9_4_3) a_ls160
  · exact .drew (.tree _ c9_4_4) a_ls161
theorem n_57 : G [(4103, 5, 5), (10, 9, 9)] := CoversG.part 8199 (by kernel_rfl) fun v hv => by
  have h : v = 0 ∨ v = 1 ∨ v = 2 ∨ v = 3 ∨ v = 4 ∨ v = 5 ∨ v = 6 := by omega
  rcases h with rfl | rfl | rfl | rfl | rfl | rfl | rfl
  · exact .drew (.tree _ c9_5_0) a_ls162
  · exact .drew (.tree _ c9_5_1) a_ls163
  · exact .drew (.tree _ c9_5_2) a_ls164
  · exact .drew (.tree _ c9_5_3) a_ls165
  · exact .drew (.tree _ c9_5_4) a_ls166
  · exact .drew (.tree _ c9_5_5) a_ls167
  · exact .drew (.tree _ c9_5_6) a_ls168
theorem n_58 : G [(4103, 6, 6), (10, 9, 9)] := CoversG.part 8203 (by kernel_rfl) fun v hv => by
  have h : v = 0 ∨ v = 1 ∨ v = 2 ∨ v = 3 ∨ v = 4 ∨ v = 5 ∨ v = 6 ∨ v = 7 ∨ v = 8 ∨ v = 9 ∨ v = 10 := by omega
  rcases h with rfl | rfl | rfl | rfl | rfl | rfl | rfl | rfl | rfl | rfl | rfl
  · exact .drew (.tree _ c9_6_0) a_ls169
  · exact .drew (.tree _ c9_6_1) a_ls170
  · exact .drew (.tree _ c9_6_2) a_ls171
  · exact .drew (.tree _ c9_6_3) a_ls172
  · exact .drew (.tree _ c9_6_4) a_ls173
  · exact .drew (.tree _ c9_6_5) a_ls174
  · exact .drew (.tree _ c9_6_6) a_ls175
  · exact .drew (.tree _ c9_6_7) a_ls176
  · exact .drew (.tree _ c9_6_8) a_ls177
  · exact .drew (.tree _ c9_6_9) a_ls178
  · exact .drew (.tree _ c9_6_10) a_ls179
theorem n_59 : G [(10, 9, 9)] := CoversG.part 4103 (by kernel_rfl) fun v hv => by
  have h : v = 0 ∨ v = 1 ∨ v = 2 ∨ v = 3 ∨ v = 4 ∨ v = 5 ∨ v = 6 := by omega
  rcases h with rfl | rfl | rfl | rfl | rfl | rfl | rfl
  · exact .drew (.tree _ c9_0_0) a_ls150
  · exact .drew (.tree _ c9_1_0) a_ls151
  · exact n_54
  · exact n_55
  · exact n_56
  · exact n_57
  · exact n_58
theorem n_60 : G [] := CoversG.part 10 (by kernel_rfl) fun v hv => by
  have h : v = 0 ∨ v = 1 ∨ v = 2 ∨ v = 3 ∨ v = 4 ∨ v = 5 ∨ v = 6 ∨ v = 7 ∨ v = 8 ∨ v = 9 := by omega
  rcases h with rfl | rfl | rfl | rfl | rfl | rfl | rfl | rfl | rfl | rfl
  · exact n_5
  · exact n_11
  · exact n_17
  · exact n_23
  · exact n_29
  · exact n_35
  · exact n_41
  · exact n_47
  · exact n_53
  · exact n_59
end Go.Proofs.Ytadmpiidofncpaa.fnAtShareRuns
