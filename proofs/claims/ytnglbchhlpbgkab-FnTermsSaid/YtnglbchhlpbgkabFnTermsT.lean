/- Runs of the program at a seat. -/
import Derived.Test.YtnglbchhlpbgkabWaysD0
import Derived.Test.YtnglbchhlpbgkabWaysD1
import Derived.Test.YtnglbchhlpbgkabWaysD2
import Derived.Test.YtnglbchhlpbgkabFnTermsR0
import Derived.Test.YtnglbchhlpbgkabFnTermsR1
import Derived.Test.YtnglbchhlpbgkabFnTermsR2
namespace Go.Proofs.Ytnglbchhlpbgkab.fnTermsRuns
open Go Go.Eng
set_option linter.unusedVariables false
set_option linter.unusedSectionVars false
set_option linter.unusedSimpArgs false
open Go.Proofs.Ytnglbchhlpbgkab.waysDrawn
theorem a_ls0 : A ls0 := ⟨r_d0, r_d1, r_d2, r_d3, r_d4, r_d5, r_d6, r_d7, r_d8, trivial⟩
theorem a_ls1 : A ls1 := ⟨r_d2, r_d0, r_d9, r_d5, r_d3, r_d10, r_d8, r_d6, r_d11, trivial⟩
theorem a_ls2 : A ls2 := ⟨r_d9, r_d2, r_d12, r_d10, r_d5, r_d13, r_d11, r_d8, r_d14, trivial⟩
theorem a_ls3 : A ls3 := ⟨r_d12, r_d9, r_d15, r_d13, r_d10, r_d16, r_d14, r_d11, r_d17, trivial⟩
theorem a_ls4 : A ls4 := ⟨r_d15, r_d12, r_d18, r_d16, r_d13, r_d19, r_d17, r_d14, r_d20, trivial⟩
theorem a_ls5 : A ls5 := ⟨r_d18, r_d15, r_d21, r_d19, r_d16, r_d22, r_d20, r_d17, r_d23, trivial⟩
theorem a_ls6 : A ls6 := ⟨r_d24, r_d25, r_d26, r_d3, r_d4, r_d5, r_d6, r_d7, r_d8, trivial⟩
theorem a_ls7 : A ls7 := ⟨r_d26, r_d24, r_d27, r_d5, r_d3, r_d10, r_d8, r_d6, r_d11, trivial⟩
theorem a_ls8 : A ls8 := ⟨r_d27, r_d26, r_d28, r_d10, r_d5, r_d13, r_d11, r_d8, r_d14, trivial⟩
theorem a_ls9 : A ls9 := ⟨r_d28, r_d27, r_d29, r_d13, r_d10, r_d16, r_d14, r_d11, r_d17, trivial⟩
theorem a_ls10 : A ls10 := ⟨r_d29, r_d28, r_d30, r_d16, r_d13, r_d19, r_d17, r_d14, r_d20, trivial⟩
theorem a_ls11 : A ls11 := ⟨r_d30, r_d29, r_d31, r_d19, r_d16, r_d22, r_d20, r_d17, r_d23, trivial⟩
theorem a_ls12 : A ls12 := ⟨r_d32, r_d33, r_d34, r_d3, r_d4, r_d5, r_d6, r_d7, r_d8, trivial⟩
theorem a_ls13 : A ls13 := ⟨r_d34, r_d32, r_d35, r_d5, r_d3, r_d10, r_d8, r_d6, r_d11, trivial⟩
theorem a_ls14 : A ls14 := ⟨r_d35, r_d34, r_d36, r_d10, r_d5, r_d13, r_d11, r_d8, r_d14, trivial⟩
theorem a_ls15 : A ls15 := ⟨r_d36, r_d35, r_d37, r_d13, r_d10, r_d16, r_d14, r_d11, r_d17, trivial⟩
theorem a_ls16 : A ls16 := ⟨r_d37, r_d36, r_d38, r_d16, r_d13, r_d19, r_d17, r_d14, r_d20, trivial⟩
theorem a_ls17 : A ls17 := ⟨r_d38, r_d37, r_d39, r_d19, r_d16, r_d22, r_d20, r_d17, r_d23, trivial⟩
theorem a_ls18 : A ls18 := ⟨r_d40, r_d41, r_d42, r_d3, r_d4, r_d5, r_d6, r_d7, r_d8, trivial⟩
theorem a_ls19 : A ls19 := ⟨r_d42, r_d40, r_d43, r_d5, r_d3, r_d10, r_d8, r_d6, r_d11, trivial⟩
theorem a_ls20 : A ls20 := ⟨r_d43, r_d42, r_d44, r_d10, r_d5, r_d13, r_d11, r_d8, r_d14, trivial⟩
theorem a_ls21 : A ls21 := ⟨r_d44, r_d43, r_d45, r_d13, r_d10, r_d16, r_d14, r_d11, r_d17, trivial⟩
theorem a_ls22 : A ls22 := ⟨r_d45, r_d44, r_d46, r_d16, r_d13, r_d19, r_d17, r_d14, r_d20, trivial⟩
theorem a_ls23 : A ls23 := ⟨r_d46, r_d45, r_d47, r_d19, r_d16, r_d22, r_d20, r_d17, r_d23, trivial⟩
theorem a_ls24 : A ls24 := ⟨r_d48, r_d49, r_d50, r_d3, r_d4, r_d5, r_d6, r_d7, r_d8, trivial⟩
theorem a_ls25 : A ls25 := ⟨r_d50, r_d48, r_d51, r_d5, r_d3, r_d10, r_d8, r_d6, r_d11, trivial⟩
theorem a_ls26 : A ls26 := ⟨r_d51, r_d50, r_d52, r_d10, r_d5, r_d13, r_d11, r_d8, r_d14, trivial⟩
theorem a_ls27 : A ls27 := ⟨r_d52, r_d51, r_d53, r_d13, r_d10, r_d16, r_d14, r_d11, r_d17, trivial⟩
theorem a_ls28 : A ls28 := ⟨r_d53, r_d52, r_d54, r_d16, r_d13, r_d19, r_d17, r_d14, r_d20, trivial⟩
theorem a_ls29 : A ls29 := ⟨r_d54, r_d53, r_d55, r_d19, r_d16, r_d22, r_d20, r_d17, r_d23, trivial⟩
theorem a_ls30 : A ls30 := ⟨r_d56, r_d57, r_d58, r_d3, r_d4, r_d5, r_d6, r_d7, r_d8, trivial⟩
theorem a_ls31 : A ls31 := ⟨r_d58, r_d56, r_d59, r_d5, r_d3, r_d10, r_d8, r_d6, r_d11, trivial⟩
theorem a_ls32 : A ls32 := ⟨r_d59, r_d58, r_d60, r_d10, r_d5, r_d13, r_d11, r_d8, r_d14, trivial⟩
theorem a_ls33 : A ls33 := ⟨r_d60, r_d59, r_d61, r_d13, r_d10, r_d16, r_d14, r_d11, r_d17, trivial⟩
theorem a_ls34 : A ls34 := ⟨r_d61, r_d60, r_d62, r_d16, r_d13, r_d19, r_d17, r_d14, r_d20, trivial⟩
theorem a_ls35 : A ls35 := ⟨r_d62, r_d61, r_d63, r_d19, r_d16, r_d22, r_d20, r_d17, r_d23, trivial⟩
theorem a_ls36 : A ls36 := ⟨r_d64, r_d65, r_d66, r_d3, r_d4, r_d5, r_d6, r_d7, r_d8, trivial⟩
theorem a_ls37 : A ls37 := ⟨r_d66, r_d64, r_d67, r_d5, r_d3, r_d10, r_d8, r_d6, r_d11, trivial⟩
theorem a_ls38 : A ls38 := ⟨r_d67, r_d66, r_d68, r_d10, r_d5, r_d13, r_d11, r_d8, r_d14, trivial⟩
theorem a_ls39 : A ls39 := ⟨r_d68, r_d67, r_d69, r_d13, r_d10, r_d16, r_d14, r_d11, r_d17, trivial⟩
theorem a_ls40 : A ls40 := ⟨r_d69, r_d68, r_d70, r_d16, r_d13, r_d19, r_d17, r_d14, r_d20, trivial⟩
theorem a_ls41 : A ls41 := ⟨r_d70, r_d69, r_d71, r_d19, r_d16, r_d22, r_d20, r_d17, r_d23, trivial⟩
theorem a_ls42 : A ls42 := ⟨r_d72, r_d73, r_d74, r_d3, r_d4, r_d5, r_d6, r_d7, r_d8, trivial⟩
theorem a_ls43 : A ls43 := ⟨r_d74, r_d72, r_d75, r_d5, r_d3, r_d10, r_d8, r_d6, r_d11, trivial⟩
theorem a_ls44 : A ls44 := ⟨r_d75, r_d74, r_d76, r_d10, r_d5, r_d13, r_d11, r_d8, r_d14, trivial⟩
theorem a_ls45 : A ls45 := ⟨r_d76, r_d75, r_d77, r_d13, r_d10, r_d16, r_d14, r_d11, r_d17, trivial⟩
theorem a_ls46 : A ls46 := ⟨r_d77, r_d76, r_d78, r_d16, r_d13, r_d19, r_d17, r_d14, r_d20, trivial⟩
theorem a_ls47 : A ls47 := ⟨r_d78, r_d77, r_d79, r_d19, r_d16, r_d22, r_d20, r_d17, r_d23, trivial⟩
theorem a_ls48 : A ls48 := ⟨r_d80, r_d81, r_d82, r_d3, r_d4, r_d5, r_d6, r_d7, r_d8, trivial⟩
theorem a_ls49 : A ls49 := ⟨r_d82, r_d80, r_d83, r_d5, r_d3, r_d10, r_d8, r_d6, r_d11, trivial⟩
theorem a_ls50 : A ls50 := ⟨r_d83, r_d82, r_d84, r_d10, r_d5, r_d13, r_d11, r_d8, r_d14, trivial⟩
theorem a_ls51 : A ls51 := ⟨r_d84, r_d83, r_d85, r_d13, r_d10, r_d16, r_d14, r_d11, r_d17, trivial⟩
theorem a_ls52 : A ls52 := ⟨r_d85, r_d84, r_d86, r_d16, r_d13, r_d19, r_d17, r_d14, r_d20, trivial⟩
theorem a_ls53 : A ls53 := ⟨r_d86, r_d85, r_d87, r_d19, r_d16, r_d22, r_d20, r_d17, r_d23, trivial⟩
theorem a_ls54 : A ls54 := ⟨r_d88, r_d89, r_d90, r_d3, r_d4, r_d5, r_d6, r_d7, r_d8, trivial⟩
theorem a_ls55 : A ls55 := ⟨r_d90, r_d88, r_d91, r_d5, r_d3, r_d10, r_d8, r_d6, r_d11, trivial⟩
theorem a_ls56 : A ls56 := ⟨r_d91, r_d90, r_d92, r_d10, r_d5, r_d13, r_d11, r_d8, r_d14, trivial⟩
theorem a_ls57 : A ls57 := ⟨r_d92, r_d91, r_d93, r_d13, r_d10, r_d16, r_d14, r_d11, r_d17, trivial⟩
theorem a_ls58 : A ls58 := ⟨r_d93, r_d92, r_d94, r_d16, r_d13, r_d19, r_d17, r_d14, r_d20, trivial⟩
theorem a_ls59 : A ls59 := ⟨r_d94, r_d93, r_d95, r_d19, r_d16, r_d22, r_d20, r_d17, r_d23, trivial⟩
theorem a_ls60 : A ls60 := ⟨r_d96, r_d97, r_d98, r_d3, r_d4, r_d5, r_d6, r_d7, r_d8, trivial⟩
theorem a_ls61 : A ls61 := ⟨r_d98, r_d96, r_d99, r_d5, r_d3, r_d10, r_d8, r_d6, r_d11, trivial⟩
theorem a_ls62 : A ls62 := ⟨r_d99, r_d98, r_d100, r_d10, r_d5, r_d13, r_d11, r_d8, r_d14, trivial⟩
theorem a_ls63 : A ls63 := ⟨r_d100, r_d99, r_d101, r_d13, r_d10, r_d16, r_d14, r_d11, r_d17, trivial⟩
theorem a_ls64 : A ls64 := ⟨r_d101, r_d100, r_d102, r_d16, r_d13, r_d19, r_d17, r_d14, r_d20, trivial⟩
theorem a_ls65 : A ls65 := ⟨r_d102, r_d101, r_d103, r_d19, r_d16, r_d22, r_d20, r_d17, r_d23, trivial⟩
theorem a_ls66 : A ls66 := ⟨r_d104, r_d105, r_d106, r_d3, r_d4, r_d5, r_d6, r_d7, r_d8, trivial⟩
theorem a_ls67 : A ls67 := ⟨r_d106, r_d104, r_d107, r_d5, r_d3, r_d10, r_d8, r_d6, r_d11, trivial⟩
theorem a_ls68 : A ls68 := ⟨r_d107, r_d106, r_d108, r_d10, r_d5, r_d13, r_d11, r_d8, r_d14, trivial⟩
theorem a_ls69 : A ls69 := ⟨r_d108, r_d107, r_d109, r_d13, r_d10, r_d16, r_d14, r_d11, r_d17, trivial⟩
theorem a_ls70 : A ls70 := ⟨r_d109, r_d108, r_d110, r_d16, r_d13, r_d19, r_d17, r_d14, r_d20, trivial⟩
theorem a_ls71 : A ls71 := ⟨r_d110, r_d109, r_d111, r_d19, r_d16, r_d22, r_d20, r_d17, r_d23, trivial⟩
theorem a_ls72 : A ls72 := ⟨r_d112, r_d113, r_d114, r_d3, r_d4, r_d5, r_d6, r_d7, r_d8, trivial⟩
theorem a_ls73 : A ls73 := ⟨r_d114, r_d112, r_d115, r_d5, r_d3, r_d10, r_d8, r_d6, r_d11, trivial⟩
theorem a_ls74 : A ls74 := ⟨r_d115, r_d114, r_d116, r_d10, r_d5, r_d13, r_d11, r_d8, r_d14, trivial⟩
theorem a_ls75 : A ls75 := ⟨r_d116, r_d115, r_d117, r_d13, r_d10, r_d16, r_d14, r_d11, r_d17, trivial⟩
theorem a_ls76 : A ls76 := ⟨r_d117, r_d116, r_d118, r_d16, r_d13, r_d19, r_d17, r_d14, r_d20, trivial⟩
theorem a_ls77 : A ls77 := ⟨r_d118, r_d117, r_d119, r_d19, r_d16, r_d22, r_d20, r_d17, r_d23, trivial⟩
theorem a_ls78 : A ls78 := ⟨r_d120, r_d121, r_d122, r_d3, r_d4, r_d5, r_d6, r_d7, r_d8, trivial⟩
theorem a_ls79 : A ls79 := ⟨r_d122, r_d120, r_d123, r_d5, r_d3, r_d10, r_d8, r_d6, r_d11, trivial⟩
theorem a_ls80 : A ls80 := ⟨r_d123, r_d122, r_d124, r_d10, r_d5, r_d13, r_d11, r_d8, r_d14, trivial⟩
theorem a_ls81 : A ls81 := ⟨r_d124, r_d123, r_d125, r_d13, r_d10, r_d16, r_d14, r_d11, r_d17, trivial⟩
theorem a_ls82 : A ls82 := ⟨r_d125, r_d124, r_d126, r_d16, r_d13, r_d19, r_d17, r_d14, r_d20, trivial⟩
theorem a_ls83 : A ls83 := ⟨r_d126, r_d125, r_d127, r_d19, r_d16, r_d22, r_d20, r_d17, r_d23, trivial⟩
theorem a_ls84 : A ls84 := ⟨r_d128, r_d129, r_d130, r_d3, r_d4, r_d5, r_d6, r_d7, r_d8, trivial⟩
theorem a_ls85 : A ls85 := ⟨r_d130, r_d128, r_d131, r_d5, r_d3, r_d10, r_d8, r_d6, r_d11, trivial⟩
theorem a_ls86 : A ls86 := ⟨r_d131, r_d130, r_d132, r_d10, r_d5, r_d13, r_d11, r_d8, r_d14, trivial⟩
theorem a_ls87 : A ls87 := ⟨r_d132, r_d131, r_d133, r_d13, r_d10, r_d16, r_d14, r_d11, r_d17, trivial⟩
theorem a_ls88 : A ls88 := ⟨r_d133, r_d132, r_d134, r_d16, r_d13, r_d19, r_d17, r_d14, r_d20, trivial⟩
theorem a_ls89 : A ls89 := ⟨r_d134, r_d133, r_d135, r_d19, r_d16, r_d22, r_d20, r_d17, r_d23, trivial⟩
theorem a_ls90 : A ls90 := ⟨r_d136, r_d137, r_d138, r_d3, r_d4, r_d5, r_d6, r_d7, r_d8, trivial⟩
theorem a_ls91 : A ls91 := ⟨r_d138, r_d136, r_d139, r_d5, r_d3, r_d10, r_d8, r_d6, r_d11, trivial⟩
theorem a_ls92 : A ls92 := ⟨r_d139, r_d138, r_d140, r_d10, r_d5, r_d13, r_d11, r_d8, r_d14, trivial⟩
theorem a_ls93 : A ls93 := ⟨r_d140, r_d139, r_d141, r_d13, r_d10, r_d16, r_d14, r_d11, r_d17, trivial⟩
theorem a_ls94 : A ls94 := ⟨r_d141, r_d140, r_d142, r_d16, r_d13, r_d19, r_d17, r_d14, r_d20, trivial⟩
theorem a_ls95 : A ls95 := ⟨r_d142, r_d141, r_d143, r_d19, r_d16, r_d22, r_d20, r_d17, r_d23, trivial⟩
theorem a_ls96 : A ls96 := ⟨r_d144, r_d145, r_d146, r_d3, r_d4, r_d5, r_d6, r_d7, r_d8, trivial⟩
theorem a_ls97 : A ls97 := ⟨r_d146, r_d144, r_d147, r_d5, r_d3, r_d10, r_d8, r_d6, r_d11, trivial⟩
theorem a_ls98 : A ls98 := ⟨r_d147, r_d146, r_d148, r_d10, r_d5, r_d13, r_d11, r_d8, r_d14, trivial⟩
theorem a_ls99 : A ls99 := ⟨r_d148, r_d147, r_d149, r_d13, r_d10, r_d16, r_d14, r_d11, r_d17, trivial⟩
theorem a_ls100 : A ls100 := ⟨r_d149, r_d148, r_d150, r_d16, r_d13, r_d19, r_d17, r_d14, r_d20, trivial⟩
theorem a_ls101 : A ls101 := ⟨r_d150, r_d149, r_d151, r_d19, r_d16, r_d22, r_d20, r_d17, r_d23, trivial⟩
theorem a_ls102 : A ls102 := ⟨r_d152, r_d153, r_d154, r_d3, r_d4, r_d5, r_d6, r_d7, r_d8, trivial⟩
theorem a_ls103 : A ls103 := ⟨r_d154, r_d152, r_d155, r_d5, r_d3, r_d10, r_d8, r_d6, r_d11, trivial⟩
theorem a_ls104 : A ls104 := ⟨r_d155, r_d154, r_d156, r_d10, r_d5, r_d13, r_d11, r_d8, r_d14, trivial⟩
theorem a_ls105 : A ls105 := ⟨r_d156, r_d155, r_d157, r_d13, r_d10, r_d16, r_d14, r_d11, r_d17, trivial⟩
theorem a_ls106 : A ls106 := ⟨r_d157, r_d156, r_d158, r_d16, r_d13, r_d19, r_d17, r_d14, r_d20, trivial⟩
theorem a_ls107 : A ls107 := ⟨r_d158, r_d157, r_d159, r_d19, r_d16, r_d22, r_d20, r_d17, r_d23, trivial⟩
theorem a_ls108 : A ls108 := ⟨r_d160, r_d161, r_d162, r_d3, r_d4, r_d5, r_d6, r_d7, r_d8, trivial⟩
theorem a_ls109 : A ls109 := ⟨r_d162, r_d160, r_d163, r_d5, r_d3, r_d10, r_d8, r_d6, r_d11, trivial⟩
theorem a_ls110 : A ls110 := ⟨r_d163, r_d162, r_d164, r_d10, r_d5, r_d13, r_d11, r_d8, r_d14, trivial⟩
theorem a_ls111 : A ls111 := ⟨r_d164, r_d163, r_d165, r_d13, r_d10, r_d16, r_d14, r_d11, r_d17, trivial⟩
theorem a_ls112 : A ls112 := ⟨r_d165, r_d164, r_d166, r_d16, r_d13, r_d19, r_d17, r_d14, r_d20, trivial⟩
theorem a_ls113 : A ls113 := ⟨r_d166, r_d165, r_d167, r_d19, r_d16, r_d22, r_d20, r_d17, r_d23, trivial⟩
theorem a_ls114 : A ls114 := ⟨r_d168, r_d169, r_d170, r_d3, r_d4, r_d5, r_d6, r_d7, r_d8, trivial⟩
theorem a_ls115 : A ls115 := ⟨r_d170, r_d168, r_d171, r_d5, r_d3, r_d10, r_d8, r_d6, r_d11, trivial⟩
theorem a_ls116 : A ls116 := ⟨r_d171, r_d170, r_d172, r_d10, r_d5, r_d13, r_d11, r_d8, r_d14, trivial⟩
theorem a_ls117 : A ls117 := ⟨r_d172, r_d171, r_d173, r_d13, r_d10, r_d16, r_d14, r_d11, r_d17, trivial⟩
theorem a_ls118 : A ls118 := ⟨r_d173, r_d172, r_d174, r_d16, r_d13, r_d19, r_d17, r_d14, r_d20, trivial⟩
theorem a_ls119 : A ls119 := ⟨r_d174, r_d173, r_d175, r_d19, r_d16, r_d22, r_d20, r_d17, r_d23, trivial⟩
theorem a_ls120 : A ls120 := ⟨r_d176, r_d177, r_d178, r_d3, r_d4, r_d5, r_d6, r_d7, r_d8, trivial⟩
theorem a_ls121 : A ls121 := ⟨r_d178, r_d176, r_d179, r_d5, r_d3, r_d10, r_d8, r_d6, r_d11, trivial⟩
theorem a_ls122 : A ls122 := ⟨r_d179, r_d178, r_d180, r_d10, r_d5, r_d13, r_d11, r_d8, r_d14, trivial⟩
theorem a_ls123 : A ls123 := ⟨r_d180, r_d179, r_d181, r_d13, r_d10, r_d16, r_d14, r_d11, r_d17, trivial⟩
theorem a_ls124 : A ls124 := ⟨r_d181, r_d180, r_d182, r_d16, r_d13, r_d19, r_d17, r_d14, r_d20, trivial⟩
theorem a_ls125 : A ls125 := ⟨r_d182, r_d181, r_d183, r_d19, r_d16, r_d22, r_d20, r_d17, r_d23, trivial⟩
theorem a_ls126 : A ls126 := ⟨r_d184, r_d185, r_d186, r_d3, r_d4, r_d5, r_d6, r_d7, r_d8, trivial⟩
theorem a_ls127 : A ls127 := ⟨r_d186, r_d184, r_d187, r_d5, r_d3, r_d10, r_d8, r_d6, r_d11, trivial⟩
theorem a_ls128 : A ls128 := ⟨r_d187, r_d186, r_d188, r_d10, r_d5, r_d13, r_d11, r_d8, r_d14, trivial⟩
theorem a_ls129 : A ls129 := ⟨r_d188, r_d187, r_d189, r_d13, r_d10, r_d16, r_d14, r_d11, r_d17, trivial⟩
theorem a_ls130 : A ls130 := ⟨r_d189, r_d188, r_d190, r_d16, r_d13, r_d19, r_d17, r_d14, r_d20, trivial⟩
theorem a_ls131 : A ls131 := ⟨r_d190, r_d189, r_d191, r_d19, r_d16, r_d22, r_d20, r_d17, r_d23, trivial⟩
theorem a_ls132 : A ls132 := ⟨r_d192, r_d193, r_d194, r_d3, r_d4, r_d5, r_d6, r_d7, r_d8, trivial⟩
theorem a_ls133 : A ls133 := ⟨r_d194, r_d192, r_d195, r_d5, r_d3, r_d10, r_d8, r_d6, r_d11, trivial⟩
theorem a_ls134 : A ls134 := ⟨r_d195, r_d194, r_d196, r_d10, r_d5, r_d13, r_d11, r_d8, r_d14, trivial⟩
theorem a_ls135 : A ls135 := ⟨r_d196, r_d195, r_d197, r_d13, r_d10, r_d16, r_d14, r_d11, r_d17, trivial⟩
theorem a_ls136 : A ls136 := ⟨r_d197, r_d196, r_d198, r_d16, r_d13, r_d19, r_d17, r_d14, r_d20, trivial⟩
theorem a_ls137 : A ls137 := ⟨r_d198, r_d197, r_d199, r_d19, r_d16, r_d22, r_d20, r_d17, r_d23, trivial⟩
theorem a_ls138 : A ls138 := ⟨r_d200, r_d201, r_d202, r_d3, r_d4, r_d5, r_d6, r_d7, r_d8, trivial⟩
theorem a_ls139 : A ls139 := ⟨r_d202, r_d200, r_d203, r_d5, r_d3, r_d10, r_d8, r_d6, r_d11, trivial⟩
theorem a_ls140 : A ls140 := ⟨r_d203, r_d202, r_d204, r_d10, r_d5, r_d13, r_d11, r_d8, r_d14, trivial⟩
theorem a_ls141 : A ls141 := ⟨r_d204, r_d203, r_d205, r_d13, r_d10, r_d16, r_d14, r_d11, r_d17, trivial⟩
theorem a_ls142 : A ls142 := ⟨r_d205, r_d204, r_d206, r_d16, r_d13, r_d19, r_d17, r_d14, r_d20, trivial⟩
theorem a_ls143 : A ls143 := ⟨r_d206, r_d205, r_d207, r_d19, r_d16, r_d22, r_d20, r_d17, r_d23, trivial⟩
theorem a_ls144 : A ls144 := ⟨r_d208, r_d209, r_d210, r_d3, r_d4, r_d5, r_d6, r_d7, r_d8, trivial⟩
theorem a_ls145 : A ls145 := ⟨r_d210, r_d208, r_d211, r_d5, r_d3, r_d10, r_d8, r_d6, r_d11, trivial⟩
theorem a_ls146 : A ls146 := ⟨r_d211, r_d210, r_d212, r_d10, r_d5, r_d13, r_d11, r_d8, r_d14, trivial⟩
theorem a_ls147 : A ls147 := ⟨r_d212, r_d211, r_d213, r_d13, r_d10, r_d16, r_d14, r_d11, r_d17, trivial⟩
theorem a_ls148 : A ls148 := ⟨r_d213, r_d212, r_d214, r_d16, r_d13, r_d19, r_d17, r_d14, r_d20, trivial⟩
theorem a_ls149 : A ls149 := ⟨r_d214, r_d213, r_d215, r_d19, r_d16, r_d22, r_d20, r_d17, r_d23, trivial⟩
theorem a_ls150 : A ls150 := ⟨r_d216, r_d217, r_d218, r_d3, r_d4, r_d5, r_d6, r_d7, r_d8, trivial⟩
theorem a_ls151 : A ls151 := ⟨r_d218, r_d216, r_d219, r_d5, r_d3, r_d10, r_d8, r_d6, r_d11, trivial⟩
theorem a_ls152 : A ls152 := ⟨r_d219, r_d218, r_d220, r_d10, r_d5, r_d13, r_d11, r_d8, r_d14, trivial⟩
theorem a_ls153 : A ls153 := ⟨r_d220, r_d219, r_d221, r_d13, r_d10, r_d16, r_d14, r_d11, r_d17, trivial⟩
theorem a_ls154 : A ls154 := ⟨r_d221, r_d220, r_d222, r_d16, r_d13, r_d19, r_d17, r_d14, r_d20, trivial⟩
theorem a_ls155 : A ls155 := ⟨r_d222, r_d221, r_d223, r_d19, r_d16, r_d22, r_d20, r_d17, r_d23, trivial⟩
theorem a_ls156 : A ls156 := ⟨r_d224, r_d225, r_d226, r_d3, r_d4, r_d5, r_d6, r_d7, r_d8, trivial⟩
theorem a_ls157 : A ls157 := ⟨r_d226, r_d224, r_d227, r_d5, r_d3, r_d10, r_d8, r_d6, r_d11, trivial⟩
theorem a_ls158 : A ls158 := ⟨r_d227, r_d226, r_d228, r_d10, r_d5, r_d13, r_d11, r_d8, r_d14, trivial⟩
theorem a_ls159 : A ls159 := ⟨r_d228, r_d227, r_d229, r_d13, r_d10, r_d16, r_d14, r_d11, r_d17, trivial⟩
theorem a_ls160 : A ls160 := ⟨r_d229, r_d228, r_d230, r_d16, r_d13, r_d19, r_d17, r_d14, r_d20, trivial⟩
theorem a_ls161 : A ls161 := ⟨r_d230, r_d229, r_d231, r_d19, r_d16, r_d22, r_d20, r_d17, r_d23, trivial⟩
theorem a_ls162 : A ls162 := ⟨r_d232, r_d233, r_d234, r_d3, r_d4, r_d5, r_d6, r_d7, r_d8, trivial⟩
theorem a_ls163 : A ls163 := ⟨r_d234, r_d232, r_d235, r_d5, r_d3, r_d10, r_d8, r_d6, r_d11, trivial⟩
theorem a_ls164 : A ls164 := ⟨r_d235, r_d234, r_d236, r_d10, r_d5, r_d13, r_d11, r_d8, r_d14, trivial⟩
theorem a_ls165 : A ls165 := ⟨r_d236, r_d235, r_d237, r_d13, r_d10, r_d16, r_d14, r_d11, r_d17, trivial⟩
theorem a_ls166 : A ls166 := ⟨r_d237, r_d236, r_d238, r_d16, r_d13, r_d19, r_d17, r_d14, r_d20, trivial⟩
theorem a_ls167 : A ls167 := ⟨r_d238, r_d237, r_d239, r_d19, r_d16, r_d22, r_d20, r_d17, r_d23, trivial⟩
theorem a_ls168 : A ls168 := ⟨r_d240, r_d241, r_d242, r_d3, r_d4, r_d5, r_d6, r_d7, r_d8, trivial⟩
theorem a_ls169 : A ls169 := ⟨r_d242, r_d240, r_d243, r_d5, r_d3, r_d10, r_d8, r_d6, r_d11, trivial⟩
theorem a_ls170 : A ls170 := ⟨r_d243, r_d242, r_d244, r_d10, r_d5, r_d13, r_d11, r_d8, r_d14, trivial⟩
theorem a_ls171 : A ls171 := ⟨r_d244, r_d243, r_d245, r_d13, r_d10, r_d16, r_d14, r_d11, r_d17, trivial⟩
theorem a_ls172 : A ls172 := ⟨r_d245, r_d244, r_d246, r_d16, r_d13, r_d19, r_d17, r_d14, r_d20, trivial⟩
theorem a_ls173 : A ls173 := ⟨r_d246, r_d245, r_d247, r_d19, r_d16, r_d22, r_d20, r_d17, r_d23, trivial⟩
theorem a_ls174 : A ls174 := ⟨r_d248, r_d249, r_d250, r_d3, r_d4, r_d5, r_d6, r_d7, r_d8, trivial⟩
theorem a_ls175 : A ls175 := ⟨r_d250, r_d248, r_d251, r_d5, r_d3, r_d10, r_d8, r_d6, r_d11, trivial⟩
theorem a_ls176 : A ls176 := ⟨r_d251, r_d250, r_d252, r_d10, r_d5, r_d13, r_d11, r_d8, r_d14, trivial⟩
theorem a_ls177 : A ls177 := ⟨r_d252, r_d251, r_d253, r_d13, r_d10, r_d16, r_d14, r_d11, r_d17, trivial⟩
theorem a_ls178 : A ls178 := ⟨r_d253, r_d252, r_d254, r_d16, r_d13, r_d19, r_d17, r_d14, r_d20, trivial⟩
theorem a_ls179 : A ls179 := ⟨r_d254, r_d253, r_d255, r_d19, r_d16, r_d22, r_d20, r_d17, r_d23, trivial⟩
theorem n_0 : G [(7, 0, 0)] := CoversG.part 12294 (by kernel_rfl) fun v hv => by
  have h : v = 0 ∨ v = 1 ∨ v = 2 ∨ v = 3 ∨ v = 4 ∨ v = 5 := by omega
  rcases h with rfl | rfl | rfl | rfl | rfl | rfl
  · exact .drew (.tree _ c0_0_0) a_ls0
  · exact .drew (.tree _ c0_0_1) a_ls1
  · exact .drew (.tree _ c0_0_2) a_ls2
  · exact .drew (.tree _ c0_0_3) a_ls3
  · exact .drew (.tree _ c0_0_4) a_ls4
  · exact .drew (.tree _ c0_0_5) a_ls5
theorem n_1 : G [(7, 1, 1)] := CoversG.part 12294 (by kernel_rfl) fun v hv => by
  have h : v = 0 ∨ v = 1 ∨ v = 2 ∨ v = 3 ∨ v = 4 ∨ v = 5 := by omega
  rcases h with rfl | rfl | rfl | rfl | rfl | rfl
  · exact .drew (.tree _ c1_0_0) a_ls6
  · exact .drew (.tree _ c1_0_1) a_ls7
  · exact .drew (.tree _ c1_0_2) a_ls8
  · exact .drew (.tree _ c1_0_3) a_ls9
  · exact .drew (.tree _ c1_0_4) a_ls10
  · exact .drew (.tree _ c1_0_5) a_ls11
theorem n_2 : G [(4098, 0, 0), (7, 2, 2)] := CoversG.part 12294 (by kernel_rfl) fun v hv => by
  have h : v = 0 ∨ v = 1 ∨ v = 2 ∨ v = 3 ∨ v = 4 ∨ v = 5 := by omega
  rcases h with rfl | rfl | rfl | rfl | rfl | rfl
  · exact .drew (.tree _ c2_0_0) a_ls12
  · exact .drew (.tree _ c2_0_1) a_ls13
  · exact .drew (.tree _ c2_0_2) a_ls14
  · exact .drew (.tree _ c2_0_3) a_ls15
  · exact .drew (.tree _ c2_0_4) a_ls16
  · exact .drew (.tree _ c2_0_5) a_ls17
theorem n_3 : G [(4098, 1, 1), (7, 2, 2)] := CoversG.part 12294 (by kernel_rfl) fun v hv => by
  have h : v = 0 ∨ v = 1 ∨ v = 2 ∨ v = 3 ∨ v = 4 ∨ v = 5 := by omega
  rcases h with rfl | rfl | rfl | rfl | rfl | rfl
  · exact .drew (.tree _ c2_1_0) a_ls18
  · exact .drew (.tree _ c2_1_1) a_ls19
  · exact .drew (.tree _ c2_1_2) a_ls20
  · exact .drew (.tree _ c2_1_3) a_ls21
  · exact .drew (.tree _ c2_1_4) a_ls22
  · exact .drew (.tree _ c2_1_5) a_ls23
theorem n_4 : G [(7, 2, 2)] := CoversG.part 4098 (by kernel_rfl) fun v hv => by
  have h : v = 0 ∨ v = 1 := by omega
  rcases h with rfl | rfl
  · exact n_2
  · exact n_3
theorem n_5 : G [(4099, 0, 0), (7, 3, 3)] := CoversG.part 12294 (by kernel_rfl) fun v hv => by
  have h : v = 0 ∨ v = 1 ∨ v = 2 ∨ v = 3 ∨ v = 4 ∨ v = 5 := by omega
  rcases h with rfl | rfl | rfl | rfl | rfl | rfl
  · exact .drew (.tree _ c3_0_0) a_ls24
  · exact .drew (.tree _ c3_0_1) a_ls25
  · exact .drew (.tree _ c3_0_2) a_ls26
  · exact .drew (.tree _ c3_0_3) a_ls27
  · exact .drew (.tree _ c3_0_4) a_ls28
  · exact .drew (.tree _ c3_0_5) a_ls29
theorem n_6 : G [(4099, 1, 1), (7, 3, 3)] := CoversG.part 12294 (by kernel_rfl) fun v hv => by
  have h : v = 0 ∨ v = 1 ∨ v = 2 ∨ v = 3 ∨ v = 4 ∨ v = 5 := by omega
  rcases h with rfl | rfl | rfl | rfl | rfl | rfl
  · exact .drew (.tree _ c3_1_0) a_ls30
  · exact .drew (.tree _ c3_1_1) a_ls31
  · exact .drew (.tree _ c3_1_2) a_ls32
  · exact .drew (.tree _ c3_1_3) a_ls33
  · exact .drew (.tree _ c3_1_4) a_ls34
  · exact .drew (.tree _ c3_1_5) a_ls35
theorem n_7 : G [(4099, 2, 2), (7, 3, 3)] := CoversG.part 12294 (by kernel_rfl) fun v hv => by
  have h : v = 0 ∨ v = 1 ∨ v = 2 ∨ v = 3 ∨ v = 4 ∨ v = 5 := by omega
  rcases h with rfl | rfl | rfl | rfl | rfl | rfl
  · exact .drew (.tree _ c3_2_0) a_ls36
  · exact .drew (.tree _ c3_2_1) a_ls37
  · exact .drew (.tree _ c3_2_2) a_ls38
  · exact .drew (.tree _ c3_2_3) a_ls39
  · exact .drew (.tree _ c3_2_4) a_ls40
  · exact .drew (.tree _ c3_2_5) a_ls41
theorem n_8 : G [(7, 3, 3)] := CoversG.part 4099 (by kernel_rfl) fun v hv => by
  have h : v = 0 ∨ v = 1 ∨ v = 2 := by omega
  rcases h with rfl | rfl | rfl
  · exact n_5
  · exact n_6
  · exact n_7
theorem n_9 : G [(4101, 0, 0), (7, 4, 4)] := CoversG.part 12294 (by kernel_rfl) fun v hv => by
  have h : v = 0 ∨ v = 1 ∨ v = 2 ∨ v = 3 ∨ v = 4 ∨ v = 5 := by omega
  rcases h with rfl | rfl | rfl | rfl | rfl | rfl
  · exact .drew (.tree _ c4_0_0) a_ls42
  · exact .drew (.tree _ c4_0_1) a_ls43
  · exact .drew (.tree _ c4_0_2) a_ls44
  · exact .drew (.tree _ c4_0_3) a_ls45
  · exact .drew (.tree _ c4_0_4) a_ls46
  · exact .drew (.tree _ c4_0_5) a_ls47
theorem n_10 : G [(4101, 1, 1), (7, 4, 4)] := CoversG.part 12294 (by kernel_rfl) fun v hv => by
  have h : v = 0 ∨ v = 1 ∨ v = 2 ∨ v = 3 ∨ v = 4 ∨ v = 5 := by omega
  rcases h with rfl | rfl | rfl | rfl | rfl | rfl
  · exact .drew (.tree _ c4_1_0) a_ls48
  · exact .drew (.tree _ c4_1_1) a_ls49
  · exact .drew (.tree _ c4_1_2) a_ls50
  · exact .drew (.tree _ c4_1_3) a_ls51
  · exact .drew (.tree _ c4_1_4) a_ls52
  · exact .drew (.tree _ c4_1_5) a_ls53
theorem n_11 : G [(4101, 2, 2), (7, 4, 4)] := CoversG.part 12294 (by kernel_rfl) fun v hv => by
  have h : v = 0 ∨ v = 1 ∨ v = 2 ∨ v = 3 ∨ v = 4 ∨ v = 5 := by omega
  rcases h with rfl | rfl | rfl | rfl | rfl | rfl
  · exact .drew (.tree _ c4_2_0) a_ls54
  · exact .drew (.tree _ c4_2_1) a_ls55
  · exact .drew (.tree _ c4_2_2) a_ls56
  · exact .drew (.tree _ c4_2_3) a_ls57
  · exact .drew (.tree _ c4_2_4) a_ls58
  · exact .drew (.tree _ c4_2_5) a_ls59
theorem n_12 : G [(4101, 3, 3), (7, 4, 4)] := CoversG.part 12294 (by kernel_rfl) fun v hv => by
  have h : v = 0 ∨ v = 1 ∨ v = 2 ∨ v = 3 ∨ v = 4 ∨ v = 5 := by omega
  rcases h with rfl | rfl | rfl | rfl | rfl | rfl
  · exact .drew (.tree _ c4_3_0) a_ls60
  · exact .drew (.tree _ c4_3_1) a_ls61
  · exact .drew (.tree _ c4_3_2) a_ls62
  · exact .drew (.tree _ c4_3_3) a_ls63
  · exact .drew (.tree _ c4_3_4) a_ls64
  · exact .drew (.tree _ c4_3_5) a_ls65
theorem n_13 : G [(4101, 4, 4), (7, 4, 4)] := CoversG.part 12294 (by kernel_rfl) fun v hv => by
  have h : v = 0 ∨ v = 1 ∨ v = 2 ∨ v = 3 ∨ v = 4 ∨ v = 5 := by omega
  rcases h with rfl | rfl | rfl | rfl | rfl | rfl
  · exact .drew (.tree _ c4_4_0) a_ls66
  · exact .drew (.tree _ c4_4_1) a_ls67
  · exact .drew (.tree _ c4_4_2) a_ls68
  · exact .drew (.tree _ c4_4_3) a_ls69
  · exact .drew (.tree _ c4_4_4) a_ls70
  · exact .drew (.tree _ c4_4_5) a_ls71
theorem n_14 : G [(7, 4, 4)] := CoversG.part 4101 (by kernel_rfl) fun v hv => by
  have h : v = 0 ∨ v = 1 ∨ v = 2 ∨ v = 3 ∨ v = 4 := by omega
  rcases h with rfl | rfl | rfl | rfl | rfl
  · exact n_9
  · exact n_10
  · exact n_11
  · exact n_12
  · exact n_13
theorem n_15 : G [(4103, 0, 0), (7, 5, 5)] := CoversG.part 12294 (by kernel_rfl) fun v hv => by
  have h : v = 0 ∨ v = 1 ∨ v = 2 ∨ v = 3 ∨ v = 4 ∨ v = 5 := by omega
  rcases h with rfl | rfl | rfl | rfl | rfl | rfl
  · exact .drew (.tree _ c5_0_0) a_ls72
  · exact .drew (.tree _ c5_0_1) a_ls73
  · exact .drew (.tree _ c5_0_2) a_ls74
  · exact .drew (.tree _ c5_0_3) a_ls75
  · exact .drew (.tree _ c5_0_4) a_ls76
  · exact .drew (.tree _ c5_0_5) a_ls77
theorem n_16 : G [(4103, 1, 1), (7, 5, 5)] := CoversG.part 12294 (by kernel_rfl) fun v hv => by
  have h : v = 0 ∨ v = 1 ∨ v = 2 ∨ v = 3 ∨ v = 4 ∨ v = 5 := by omega
  rcases h with rfl | rfl | rfl | rfl | rfl | rfl
  · exact .drew (.tree _ c5_1_0) a_ls78
  · exact .drew (.tree _ c5_1_1) a_ls79
  · exact .drew (.tree _ c5_1_2) a_ls80
  · exact .drew (.tree _ c5_1_3) a_ls81
  · exact .drew (.tree _ c5_1_4) a_ls82
  · exact .drew (.tree _ c5_1_5) a_ls83
theorem n_17 : G [(4103, 2, 2), (7, 5, 5)] := CoversG.part 12294 (by kernel_rfl) fun v hv => by
  have h : v = 0 ∨ v = 1 ∨ v = 2 ∨ v = 3 ∨ v = 4 ∨ v = 5 := by omega
  rcases h with rfl | rfl | rfl | rfl | rfl | rfl
  · exact .drew (.tree _ c5_2_0) a_ls84
  · exact .drew (.tree _ c5_2_1) a_ls85
  · exact .drew (.tree _ c5_2_2) a_ls86
  · exact .drew (.tree _ c5_2_3) a_ls87
  · exact .drew (.tree _ c5_2_4) a_ls88
  · exact .drew (.tree _ c5_2_5) a_ls89
theorem n_18 : G [(4103, 3, 3), (7, 5, 5)] := CoversG.part 12294 (by kernel_rfl) fun v hv => by
  have h : v = 0 ∨ v = 1 ∨ v = 2 ∨ v = 3 ∨ v = 4 ∨ v = 5 := by omega
  rcases h with rfl | rfl | rfl | rfl | rfl | rfl
  · exact .drew (.tree _ c5_3_0) a_ls90
  · exact .drew (.tree _ c5_3_1) a_ls91
  · exact .drew (.tree _ c5_3_2) a_ls92
  · exact .drew (.tree _ c5_3_3) a_ls93
  · exact .drew (.tree _ c5_3_4) a_ls94
  · exact .drew (.tree _ c5_3_5) a_ls95
theorem n_19 : G [(4103, 4, 4), (7, 5, 5)] := CoversG.part 12294 (by kernel_rfl) fun v hv => by
  have h : v = 0 ∨ v = 1 ∨ v = 2 ∨ v = 3 ∨ v = 4 ∨ v = 5 := by omega
  rcases h with rfl | rfl | rfl | rfl | rfl | rfl
  · exact .drew (.tree _ c5_4_0) a_ls96
  · exact .drew (.tree _ c5_4_1) a_ls97
  · exact .drew (.tree _ c5_4_2) a_ls98
  · exact .drew (.tree _ c5_4_3) a_ls99
  · exact .drew (.tree _ c5_4_4) a_ls100
  · exact .drew (.tree _ c5_4_5) a_ls101
theorem n_20 : G [(4103, 5, 5), (7, 5, 5)] := CoversG.part 12294 (by kernel_rfl) fun v hv => by
  have h : v = 0 ∨ v = 1 ∨ v = 2 ∨ v = 3 ∨ v = 4 ∨ v = 5 := by omega
  rcases h with rfl | rfl | rfl | rfl | rfl | rfl
  · exact .drew (.tree _ c5_5_0) a_ls102
  · exact .drew (.tree _ c5_5_1) a_ls103
  · exact .drew (.tree _ c5_5_2) a_ls104
  · exact .drew (.tree _ c5_5_3) a_ls105
  · exact .drew (.tree _ c5_5_4) a_ls106
  · exact .drew (.tree _ c5_5_5) a_ls107
theorem n_21 : G [(4103, 6, 6), (7, 5, 5)] := CoversG.part 12294 (by kernel_rfl) fun v hv => by
  have h : v = 0 ∨ v = 1 ∨ v = 2 ∨ v = 3 ∨ v = 4 ∨ v = 5 := by omega
  rcases h with rfl | rfl | rfl | rfl | rfl | rfl
  · exact .drew (.tree _ c5_6_0) a_ls108
  · exact .drew (.tree _ c5_6_1) a_ls109
  · exact .drew (.tree _ c5_6_2) a_ls110
  · exact .drew (.tree _ c5_6_3) a_ls111
  · exact .drew (.tree _ c5_6_4) a_ls112
  · exact .drew (.tree _ c5_6_5) a_ls113
theorem n_22 : G [(7, 5, 5)] := CoversG.part 4103 (by kernel_rfl) fun v hv => by
  have h : v = 0 ∨ v = 1 ∨ v = 2 ∨ v = 3 ∨ v = 4 ∨ v = 5 ∨ v = 6 := by omega
  rcases h with rfl | rfl | rfl | rfl | rfl | rfl | rfl
  · exact n_15
  · exact n_16
  · exact n_17
  · exact n_18
  · exact n_19
  · exact n_20
  · exact n_21
theorem n_23 : G [(4107, 0, 0), (7, 6, 6)] := CoversG.part 12294 (by kernel_rfl) fun v hv => by
  have h : v = 0 ∨ v = 1 ∨ v = 2 ∨ v = 3 ∨ v = 4 ∨ v = 5 := by omega
  rcases h with rfl | rfl | rfl | rfl | rfl | rfl
  · exact .drew (.tree _ c6_0_0) a_ls114
  · exact .drew (.tree _ c6_0_1) a_ls115
  · exact .drew (.tree _ c6_0_2) a_ls116
  · exact .drew (.tree _ c6_0_3) a_ls117
  · exact .drew (.tree _ c6_0_4) a_ls118
  · exact .drew (.tree _ c6_0_5) a_ls119
theorem n_24 : G [(4107, 1, 1), (7, 6, 6)] := CoversG.part 12294 (by kernel_rfl) fun v hv => by
  have h : v = 0 ∨ v = 1 ∨ v = 2 ∨ v = 3 ∨ v = 4 ∨ v = 5 := by omega
  rcases h with rfl | rfl | rfl | rfl | rfl | rfl
  · exact .drew (.tree _ c6_1_0) a_ls120
  · exact .drew (.tree _ c6_1_1) a_ls121
  · exact .drew (.tree _ c6_1_2) a_ls122
  · exact .drew (.tree _ c6_1_3) a_ls123
  · exact .drew (.tree _ c6_1_4) a_ls124
  · exact .drew (.tree _ c6_1_5) a_ls125
theorem n_25 : G [(4107, 2, 2), (7, 6, 6)] := CoversG.part 12294 (by kernel_rfl) fun v hv => by
  have h : v = 0 ∨ v = 1 ∨ v = 2 ∨ v = 3 ∨ v = 4 ∨ v = 5 := by omega
  rcases h with rfl | rfl | rfl | rfl | rfl | rfl
  · exact .drew (.tree _ c6_2_0) a_ls126
  · exact .drew (.tree _ c6_2_1) a_ls127
  · exact .drew (.tree _ c6_2_2) a_ls128
  · exact .drew (.tree _ c6_2_3) a_ls129
  · exact .drew (.tree _ c6_2_4) a_ls130
  · exact .drew (.tree _ c6_2_5) a_ls131
theorem n_26 : G [(4107, 3, 3), (7, 6, 6)] := CoversG.part 12294 (by kernel_rfl) fun v hv => by
  have h : v = 0 ∨ v = 1 ∨ v = 2 ∨ v = 3 ∨ v = 4 ∨ v = 5 := by omega
  rcases h with rfl | rfl | rfl | rfl | rfl | rfl
  · exact .drew (.tree _ c6_3_0) a_ls132
  · exact .drew (.tree _ c6_3_1) a_ls133
  · exact .drew (.tree _ c6_3_2) a_ls134
  · exact .drew (.tree _ c6_3_3) a_ls135
  · exact .drew (.tree _ c6_3_4) a_ls136
  · exact .drew (.tree _ c6_3_5) a_ls137
theorem n_27 : G [(4107, 4, 4), (7, 6, 6)] := CoversG.part 12294 (by kernel_rfl) fun v hv => by
  have h : v = 0 ∨ v = 1 ∨ v = 2 ∨ v = 3 ∨ v = 4 ∨ v = 5 := by omega
  rcases h with rfl | rfl | rfl | rfl | rfl | rfl
  · exact .drew (.tree _ c6_4_0) a_ls138
  · exact .drew (.tree _ c6_4_1) a_ls139
  · exact .drew (.tree _ c6_4_2) a_ls140
  · exact .drew (.tree _ c6_4_3) a_ls141
  · exact .drew (.tree _ c6_4_4) a_ls142
  · exact .drew (.tree _ c6_4_5) a_ls143
theorem n_28 : G [(4107, 5, 5), (7, 6, 6)] := CoversG.part 12294 (by kernel_rfl) fun v hv => by
  have h : v = 0 ∨ v = 1 ∨ v = 2 ∨ v = 3 ∨ v = 4 ∨ v = 5 := by omega
  rcases h with rfl | rfl | rfl | rfl | rfl | rfl
  · exact .drew (.tree _ c6_5_0) a_ls144
  · exact .drew (.tree _ c6_5_1) a_ls145
  · exact .drew (.tree _ c6_5_2) a_ls146
  · exact .drew (.tree _ c6_5_3) a_ls147
  · exact .drew (.tree _ c6_5_4) a_ls148
  · exact .drew (.tree _ c6_5_5) a_ls149
theorem n_29 : G [(4107, 6, 6), (7, 6, 6)] := CoversG.part 12294 (by kernel_rfl) fun v hv => by
  have h : v = 0 ∨ v = 1 ∨ v = 2 ∨ v = 3 ∨ v = 4 ∨ v = 5 := by omega
  rcases h with rfl | rfl | rfl | rfl | rfl | rfl
  · exact .drew (.tree _ c6_6_0) a_ls150
  · exact .drew (.tree _ c6_6_1) a_ls151
  · exact .drew (.tree _ c6_6_2) a_ls152
  · exact .drew (.tree _ c6_6_3) a_ls153
  · exact .drew (.tree _ c6_6_4) a_ls154
  · exact .drew (.tree _ c6_6_5) a_ls155
theorem n_30 : G [(4107, 7, 7), (7, 6, 6)] := CoversG.part 12294 (by kernel_rfl) fun v hv => by
  have h : v = 0 ∨ v = 1 ∨ v = 2 ∨ v = 3 ∨ v = 4 ∨ v = 5 := by omega
  rcases h with rfl | rfl | rfl | rfl | rfl | rfl
  · exact .drew (.tree _ c6_7_0) a_ls156
  · exact .drew (.tree _ c6_7_1) a_ls157
  · exact .drew (.tree _ c6_7_2) a_ls158
  · exact .drew (.tree _ c6_7_3) a_ls159
  · exact .drew (.tree _ c6_7_4) a_ls160
  · exact .drew (.tree _ c6_7_5) a_ls161
theorem n_31 : G [(4107, 8, 8), (7, 6, 6)] := CoversG.part 12294 (by kernel_rfl) fun v hv => by
  have h : v = 0 ∨ v = 1 ∨ v = 2 ∨ v = 3 ∨ v = 4 ∨ v = 5 := by omega
  rcases h with rfl | rfl | rfl | rfl | rfl | rfl
  · exact .drew (.tree _ c6_8_0) a_ls162
  · exact .drew (.tree _ c6_8_1) a_ls163
  · exact .drew (.tree _ c6_8_2) a_ls164
  · exact .drew (.tree _ c6_8_3) a_ls165
  · exact .drew (.tree _ c6_8_4) a_ls166
  · exact .drew (.tree _ c6_8_5) a_ls167
theorem n_32 : G [(4107, 9, 9), (7, 6, 6)] := CoversG.part 12294 (by kernel_rfl) fun v hv => by
  have h : v = 0 ∨ v = 1 ∨ v = 2 ∨ v = 3 ∨ v = 4 ∨ v = 5 := by omega
  rcases h with rfl | rfl | rfl | rfl | rfl | rfl
  · exact .drew (.tree _ c6_9_0) a_ls168
  · exact .drew (.tree _ c6_9_1) a_ls169
  · exact .drew (.tree _ c6_9_2) a_ls170
  · exact .drew (.tree _ c6_9_3) a_ls171
  · exact .drew (.tree _ c6_9_4) a_ls172
  · exact .drew (.tree _ c6_9_5) a_ls173
theorem n_33 : G [(4107, 10, 10), (7, 6, 6)] := CoversG.part 12294 (by kernel_rfl) fun v hv => by
  have h : v = 0 ∨ v = 1 ∨ v = 2 ∨ v = 3 ∨ v = 4 ∨ v = 5 := by omega
  rcases h with rfl | rfl | rfl | rfl | rfl | rfl
  · exact .drew (.tree _ c6_10_0) a_ls174
  · exact .drew (.tree _ c6_10_1) a_ls175
  · exact .drew (.tree _ c6_10_2) a_ls176
  · exact .drew (.tree _ c6_10_3) a_ls177
  · exact .drew (.tree _ c6_10_4) a_ls178
  · exact .drew (.tree _ c6_10_5) a_ls179
theorem n_34 : G [(7, 6, 6)] := CoversG.part 4107 (by kernel_rfl) fun v hv => by
  have h : v = 0 ∨ v = 1 ∨ v = 2 ∨ v = 3 ∨ v = 4 ∨ v = 5 ∨ v = 6 ∨ v = 7 ∨ v = 8 ∨ v = 9 ∨ v = 10 := by omega
  rcases h with rfl | rfl | rfl | rfl | rfl | rfl | rfl | rfl | rfl | rfl | rfl
  · exact n_23
  · exact n_24
  · exact n_25
  · exact n_26
  · exact n_27
  · exact n_28
  · exact n_29
  · exact n_30
  · exact n_31
  · exact n_32
  · exact n_33
theorem n_35 : G [] := CoversG.part 7 (by kernel_rfl) fun v hv => by
  have h : v = 0 ∨ v = 1 ∨ v = 2 ∨ v = 3 ∨ v = 4 ∨ v = 5 ∨ v = 6 := by omega
  rcases h with rfl | rfl | rfl | rfl | rfl | rfl | rfl
  · exact n_0
  · exact n_1
  · exact n_4
  · exact n_8
  · exact n_14
  · exact n_22
  · exact n_34
end Go.Proofs.Ytnglbchhlpbgkab.fnTermsRuns
