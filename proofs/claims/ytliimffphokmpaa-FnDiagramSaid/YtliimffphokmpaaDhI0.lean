/- What is known of calls of the program at a seat. -/
import Derived.Test.YtliimffphokmpaaDhK1
namespace Go.Proofs.Ytliimffphokmpaa.dhM
open Go Go.Eng
set_option linter.unusedVariables false
set_option linter.unusedSectionVars false
set_option linter.unusedSimpArgs false
noncomputable def i0_0 : List MemoP := [(19, [.row [17], .row [42535295865126979339478698981903564860, 42535295865146322152592533048698863676, 42535295865165664965706367115494162492, 42535295865185007778820201182289461308]], false, [.poly (polyN [1, 8, 64, 512]) 0 152 1 0 18446744073709551615, .lit 18])]
set_option maxRecDepth 100000 in
theorem i0_0_ok : allP Try.prog (Go.Proofs.Ytliimffphokmpaa.memo.stripsS) i0_0 = true := by kernel_rfl
noncomputable def i0_1 : List MemoP := [(19, [.row [33], .row [42535295865126979339478698981903564860, 42535295865146322152592533048698863676, 42535295865165664965706367115494162492, 42535295865185007778820201182289461308]], false, [.poly (polyN [2, 9, 16, 65, 72, 128, 513, 520, 576, 1024]) 0 552 2 0 18446744073709551615, .lit 18])]
set_option maxRecDepth 100000 in
theorem i0_1_ok : allP Try.prog (Go.Proofs.Ytliimffphokmpaa.memo.stripsS) i0_1 = true := by kernel_rfl
noncomputable def i0_2 : List MemoP := [(19, [.row [17, 17], .row [42535295865126979339478698981903564860, 42535295865146322152592533048698863676, 42535295865165664965706367115494162492, 42535295865185007778820201182289461308]], false, [.poly (polyN [9, 65, 72, 513, 520, 576]) 0 492 2 0 18446744073709551615, .lit 18])]
set_option maxRecDepth 100000 in
theorem i0_2_ok : allP Try.prog (Go.Proofs.Ytliimffphokmpaa.memo.stripsS) i0_2 = true := by kernel_rfl
noncomputable def i0_3 : List MemoP := [(19, [.row [49], .row [42535295865126979339478698981903564860, 42535295865146322152592533048698863676, 42535295865165664965706367115494162492, 42535295865185007778820201182289461308]], false, [.poly (polyN [3, 10, 17, 24, 66, 73, 80, 129, 136, 192, 514, 521, 528, 577, 584, 640, 1025, 1032, 1088, 1536]) 0 1368 3 0 18446744073709551615, .lit 18])]
set_option maxRecDepth 100000 in
theorem i0_3_ok : allP Try.prog (Go.Proofs.Ytliimffphokmpaa.memo.stripsS) i0_3 = true := by kernel_rfl
noncomputable def i0_4 : List MemoP := [(19, [.row [33, 17], .row [42535295865126979339478698981903564860, 42535295865146322152592533048698863676, 42535295865165664965706367115494162492, 42535295865185007778820201182289461308]], false, [.poly (polyN [10, 17, 66, 73, 73, 80, 129, 136, 514, 521, 521, 528, 577, 577, 584, 584, 640, 1025, 1032, 1088]) 0 1988 3 0 18446744073709551615, .lit 18])]
set_option maxRecDepth 100000 in
theorem i0_4_ok : allP Try.prog (Go.Proofs.Ytliimffphokmpaa.memo.stripsS) i0_4 = true := by kernel_rfl
noncomputable def i0_5 : List MemoP := [(19, [.row [17, 17, 17], .row [42535295865126979339478698981903564860, 42535295865146322152592533048698863676, 42535295865165664965706367115494162492, 42535295865185007778820201182289461308]], false, [.poly (polyN [73, 521, 577, 584]) 0 772 3 0 18446744073709551615, .lit 18])]
set_option maxRecDepth 100000 in
theorem i0_5_ok : allP Try.prog (Go.Proofs.Ytliimffphokmpaa.memo.stripsS) i0_5 = true := by kernel_rfl
noncomputable def i0_6 : List MemoP := [(19, [.row [65], .row [42535295865126979339478698981903564860, 42535295865146322152592533048698863676, 42535295865165664965706367115494162492, 42535295865185007778820201182289461308]], false, [.poly (polyN [4, 11, 18, 25, 32, 67, 74, 81, 88, 130, 137, 144, 193, 200, 256, 515, 522, 529, 536, 578, 585, 592, 641, 648, 704, 1026, 1033, 1040, 1089, 1096, 1152, 1537, 1544, 1600, 2048]) 0 2792 4 0 18446744073709551615, .lit 18])]
set_option maxRecDepth 100000 in
theorem i0_6_ok : allP Try.prog (Go.Proofs.Ytliimffphokmpaa.memo.stripsS) i0_6 = true := by kernel_rfl
noncomputable def i0_7 : List MemoP := [(19, [.row [49, 17], .row [42535295865126979339478698981903564860, 42535295865146322152592533048698863676, 42535295865165664965706367115494162492, 42535295865185007778820201182289461308]], false, [.poly (polyN [11, 18, 25, 67, 74, 74, 81, 81, 88, 130, 137, 137, 144, 193, 200, 515, 522, 522, 529, 529, 536, 578, 578, 585, 585, 585, 592, 592, 641, 641, 648, 648, 704, 1026, 1033, 1033, 1040, 1089, 1089, 1096, 1096, 1152, 1537, 1544, 1600]) 0 5196 4 0 18446744073709551615, .lit 18])]
set_option maxRecDepth 100000 in
theorem i0_7_ok : allP Try.prog (Go.Proofs.Ytliimffphokmpaa.memo.stripsS) i0_7 = true := by kernel_rfl
noncomputable def i0_8 : List MemoP := [(19, [.row [33, 33], .row [42535295865126979339478698981903564860, 42535295865146322152592533048698863676, 42535295865165664965706367115494162492, 42535295865185007778820201182289461308]], false, [.poly (polyN [18, 74, 81, 130, 137, 144, 522, 529, 578, 585, 585, 592, 641, 648, 1026, 1033, 1040, 1089, 1096, 1152]) 0 2692 4 0 18446744073709551615, .lit 18])]
set_option maxRecDepth 100000 in
theorem i0_8_ok : allP Try.prog (Go.Proofs.Ytliimffphokmpaa.memo.stripsS) i0_8 = true := by kernel_rfl
noncomputable def i0_9 : List MemoP := [(19, [.row [33, 17, 17], .row [42535295865126979339478698981903564860, 42535295865146322152592533048698863676, 42535295865165664965706367115494162492, 42535295865185007778820201182289461308]], false, [.poly (polyN [74, 81, 137, 522, 529, 578, 585, 585, 585, 592, 641, 648, 1033, 1089, 1096]) 0 3316 4 0 18446744073709551615, .lit 18])]
set_option maxRecDepth 100000 in
theorem i0_9_ok : allP Try.prog (Go.Proofs.Ytliimffphokmpaa.memo.stripsS) i0_9 = true := by kernel_rfl
noncomputable def i0_10 : List MemoP := [(19, [.row [17, 17, 17, 17], .row [42535295865126979339478698981903564860, 42535295865146322152592533048698863676, 42535295865165664965706367115494162492, 42535295865185007778820201182289461308]], false, [.poly (polyN [585]) 0 852 4 0 18446744073709551615, .lit 18])]
set_option maxRecDepth 100000 in
theorem i0_10_ok : allP Try.prog (Go.Proofs.Ytliimffphokmpaa.memo.stripsS) i0_10 = true := by kernel_rfl
noncomputable def i0_11 : List MemoP := [(19, [.row [81], .row [42535295865126979339478698981903564860, 42535295865146322152592533048698863676, 42535295865165664965706367115494162492, 42535295865185007778820201182289461308]], false, [.poly (polyN [5, 12, 19, 26, 33, 40, 68, 75, 82, 89, 96, 131, 138, 145, 152, 194, 201, 208, 257, 264, 320, 516, 523, 530, 537, 544, 579, 586, 593, 600, 642, 649, 656, 705, 712, 768, 1027, 1034, 1041, 1048, 1090, 1097, 1104, 1153, 1160, 1216, 1538, 1545, 1552, 1601, 1608, 1664, 2049, 2056, 2112, 2560]) 0 5048 5 0 18446744073709551615, .lit 18])]
set_option maxRecDepth 100000 in
theorem i0_11_ok : allP Try.prog (Go.Proofs.Ytliimffphokmpaa.memo.stripsS) i0_11 = true := by kernel_rfl
noncomputable def i0_12 : List MemoP := [(19, [.row [65, 17], .row [42535295865126979339478698981903564860, 42535295865146322152592533048698863676, 42535295865165664965706367115494162492, 42535295865185007778820201182289461308]], false, [.poly (polyN [12, 19, 26, 33, 68, 75, 75, 82, 82, 89, 89, 96, 131, 138, 138, 145, 145, 152, 194, 201, 201, 208, 257, 264, 516, 523, 523, 530, 530, 537, 537, 544, 579, 579, 586, 586, 586, 593, 593, 593, 600, 600, 642, 642, 649, 649, 649, 656, 656, 705, 705, 712, 712, 768, 1027, 1034, 1034, 1041, 1041, 1048, 1090, 1090, 1097, 1097, 1097, 1104, 1104, 1153, 1153, 1160, 1160, 1216, 1538, 1545, 1545, 1552, 1601, 1601, 1608, 1608, 1664, 2049, 2056, 2112]) 0 10980 5 0 18446744073709551615, .lit 18])]
set_option maxRecDepth 100000 in
theorem i0_12_ok : allP Try.prog (Go.Proofs.Ytliimffphokmpaa.memo.stripsS) i0_12 = true := by kernel_rfl
noncomputable def i0_13 : List MemoP := [(19, [.row [49, 33], .row [42535295865126979339478698981903564860, 42535295865146322152592533048698863676, 42535295865165664965706367115494162492, 42535295865185007778820201182289461308]], false, [.poly (polyN [19, 26, 75, 82, 82, 89, 131, 138, 138, 145, 145, 152, 194, 201, 208, 523, 530, 530, 537, 579, 586, 586, 586, 593, 593, 593, 600, 642, 642, 649, 649, 649, 656, 656, 705, 712, 1027, 1034, 1034, 1041, 1041, 1048, 1090, 1090, 1097, 1097, 1097, 1104, 1104, 1153, 1153, 1160, 1160, 1216, 1538, 1545, 1552, 1601, 1608, 1664]) 0 9428 5 0 18446744073709551615, .lit 18])]
set_option maxRecDepth 100000 in
theorem i0_13_ok : allP Try.prog (Go.Proofs.Ytliimffphokmpaa.memo.stripsS) i0_13 = true := by kernel_rfl
noncomputable def i0_14 : List MemoP := [(19, [.row [49, 17, 17], .row [42535295865126979339478698981903564860, 42535295865146322152592533048698863676, 42535295865165664965706367115494162492, 42535295865185007778820201182289461308]], false, [.poly (polyN [75, 82, 89, 138, 145, 201, 523, 530, 537, 579, 586, 586, 586, 593, 593, 593, 600, 642, 649, 649, 649, 656, 705, 712, 1034, 1041, 1090, 1097, 1097, 1097, 1104, 1153, 1160, 1545, 1601, 1608]) 0 9012 5 0 18446744073709551615, .lit 18])]
set_option maxRecDepth 100000 in
theorem i0_14_ok : allP Try.prog (Go.Proofs.Ytliimffphokmpaa.memo.stripsS) i0_14 = true := by kernel_rfl
noncomputable def i0_15 : List MemoP := [(19, [.row [33, 33, 17], .row [42535295865126979339478698981903564860, 42535295865146322152592533048698863676, 42535295865165664965706367115494162492, 42535295865185007778820201182289461308]], false, [.poly (polyN [82, 138, 145, 530, 586, 586, 593, 593, 642, 649, 649, 656, 1034, 1041, 1090, 1097, 1097, 1104, 1153, 1160]) 0 5828 5 0 18446744073709551615, .lit 18])]
set_option maxRecDepth 100000 in
theorem i0_15_ok : allP Try.prog (Go.Proofs.Ytliimffphokmpaa.memo.stripsS) i0_15 = true := by kernel_rfl
noncomputable def i0_16 : List MemoP := [(19, [.row [33, 17, 17, 17], .row [42535295865126979339478698981903564860, 42535295865146322152592533048698863676, 42535295865165664965706367115494162492, 42535295865185007778820201182289461308]], false, [.poly (polyN [586, 593, 649, 1097]) 0 3780 5 0 18446744073709551615, .lit 18])]
set_option maxRecDepth 100000 in
theorem i0_16_ok : allP Try.prog (Go.Proofs.Ytliimffphokmpaa.memo.stripsS) i0_16 = true := by kernel_rfl
noncomputable def i0_17 : List MemoP := [(19, [.row [17, 17, 17, 17, 17], .row [42535295865126979339478698981903564860, 42535295865146322152592533048698863676, 42535295865165664965706367115494162492, 42535295865185007778820201182289461308]], false, [.lit 1, .lit 18])]
set_option maxRecDepth 100000 in
theorem i0_17_ok : allP Try.prog (Go.Proofs.Ytliimffphokmpaa.memo.stripsS) i0_17 = true := by kernel_rfl
noncomputable def i0_18 : List MemoP := [(19, [.row [97], .row [42535295865126979339478698981903564860, 42535295865146322152592533048698863676, 42535295865165664965706367115494162492, 42535295865185007778820201182289461308]], false, [.poly (polyN [6, 13, 20, 27, 34, 41, 48, 69, 76, 83, 90, 97, 104, 132, 139, 146, 153, 160, 195, 202, 209, 216, 258, 265, 272, 321, 328, 384, 517, 524, 531, 538, 545, 552, 580, 587, 594, 601, 608, 643, 650, 657, 664, 706, 713, 720, 769, 776, 832, 1028, 1035, 1042, 1049, 1056, 1091, 1098, 1105, 1112, 1154, 1161, 1168, 1217, 1224, 1280, 1539, 1546, 1553, 1560, 1602, 1609, 1616, 1665, 1672, 1728, 2050, 2057, 2064, 2113, 2120, 2176, 2561, 2568, 2624, 3072]) 0 8392 6 0 18446744073709551615, .lit 18])]
set_option maxRecDepth 100000 in
theorem i0_18_ok : allP Try.prog (Go.Proofs.Ytliimffphokmpaa.memo.stripsS) i0_18 = true := by kernel_rfl
noncomputable def i0_19 : List MemoP := [(19, [.row [81, 17], .row [42535295865126979339478698981903564860, 42535295865146322152592533048698863676, 42535295865165664965706367115494162492, 42535295865185007778820201182289461308]], false, [.poly (polyN [13, 20, 27, 34, 41, 69, 76, 76, 83, 83, 90, 90, 97, 97, 104, 132, 139, 139, 146, 146, 153, 153, 160, 195, 202, 202, 209, 209, 216, 258, 265, 265, 272, 321, 328, 517, 524, 524, 531, 531, 538, 538, 545, 545, 552, 580, 580, 587, 587, 587, 594, 594, 594, 601, 601, 601, 608, 608, 643, 643, 650, 650, 650, 657, 657, 657, 664, 664, 706, 706, 713, 713, 713, 720, 720, 769, 769, 776, 776, 832, 1028, 1035, 1035, 1042, 1042, 1049, 1049, 1056, 1091, 1091, 1098, 1098, 1098, 1105, 1105, 1105, 1112, 1112, 1154, 1154, 1161, 1161, 1161, 1168, 1168, 1217, 1217, 1224, 1224, 1280, 1539, 1546, 1546, 1553, 1553, 1560, 1602, 1602, 1609, 1609, 1609, 1616, 1616, 1665, 1665, 1672, 1672, 1728, 2050, 2057, 2057, 2064, 2113, 2113, 2120, 2120, 2176, 2561, 2568, 2624]) 0 20364 6 0 18446744073709551615, .lit 18])]
set_option maxRecDepth 100000 in
theorem i0_19_ok : allP Try.prog (Go.Proofs.Ytliimffphokmpaa.memo.stripsS) i0_19 = true := by kernel_rfl
noncomputable def i0_20 : List MemoP := [(19, [.row [65, 33], .row [42535295865126979339478698981903564860, 42535295865146322152592533048698863676, 42535295865165664965706367115494162492, 42535295865185007778820201182289461308]], false, [.poly (polyN [20, 27, 34, 76, 83, 83, 90, 90, 97, 132, 139, 139, 146, 146, 146, 153, 153, 160, 195, 202, 202, 209, 209, 216, 258, 265, 272, 524, 531, 531, 538, 538, 545, 580, 587, 587, 587, 594, 594, 594, 594, 601, 601, 601, 608, 643, 643, 650, 650, 650, 650, 657, 657, 657, 657, 664, 664, 706, 706, 713, 713, 713, 720, 720, 769, 776, 1028, 1035, 1035, 1042, 1042, 1042, 1049, 1049, 1056, 1091, 1091, 1098, 1098, 1098, 1098, 1105, 1105, 1105, 1105, 1112, 1112, 1154, 1154, 1154, 1161, 1161, 1161, 1161, 1168, 1168, 1168, 1217, 1217, 1224, 1224, 1280, 1539, 1546, 1546, 1553, 1553, 1560, 1602, 1602, 1609, 1609, 1609, 1616, 1616, 1665, 1665, 1672, 1672, 1728, 2050, 2057, 2064, 2113, 2120, 2176]) 0 22548 6 0 18446744073709551615, .lit 18])]
set_option maxRecDepth 100000 in
theorem i0_20_ok : allP Try.prog (Go.Proofs.Ytliimffphokmpaa.memo.stripsS) i0_20 = true := by kernel_rfl
noncomputable def i0_21 : List MemoP := [(19, [.row [65, 17, 17], .row [42535295865126979339478698981903564860, 42535295865146322152592533048698863676, 42535295865165664965706367115494162492, 42535295865185007778820201182289461308]], false, [.poly (polyN [76, 83, 90, 97, 139, 146, 153, 202, 209, 265, 524, 531, 538, 545, 580, 587, 587, 587, 594, 594, 594, 601, 601, 601, 608, 643, 650, 650, 650, 657, 657, 657, 664, 706, 713, 713, 713, 720, 769, 776, 1035, 1042, 1049, 1091, 1098, 1098, 1098, 1105, 1105, 1105, 1112, 1154, 1161, 1161, 1161, 1168, 1217, 1224, 1546, 1553, 1602, 1609, 1609, 1609, 1616, 1665, 1672, 2057, 2113, 2120]) 0 19588 6 0 18446744073709551615, .lit 18])]
set_option maxRecDepth 100000 in
theorem i0_21_ok : allP Try.prog (Go.Proofs.Ytliimffphokmpaa.memo.stripsS) i0_21 = true := by kernel_rfl
noncomputable def i0_22 : List MemoP := [(19, [.row [49, 49], .row [42535295865126979339478698981903564860, 42535295865146322152592533048698863676, 42535295865165664965706367115494162492, 42535295865185007778820201182289461308]], false, [.poly (polyN [27, 83, 90, 139, 146, 153, 195, 202, 209, 216, 531, 538, 587, 594, 594, 601, 643, 650, 650, 657, 657, 664, 706, 713, 720, 1035, 1042, 1049, 1091, 1098, 1098, 1105, 1105, 1112, 1154, 1161, 1161, 1168, 1217, 1224, 1539, 1546, 1553, 1560, 1602, 1609, 1616, 1665, 1672, 1728]) 0 9868 6 0 18446744073709551615, .lit 18])]
set_option maxRecDepth 100000 in
theorem i0_22_ok : allP Try.prog (Go.Proofs.Ytliimffphokmpaa.memo.stripsS) i0_22 = true := by kernel_rfl
noncomputable def i0_23 : List MemoP := [(19, [.row [49, 33, 17], .row [42535295865126979339478698981903564860, 42535295865146322152592533048698863676, 42535295865165664965706367115494162492, 42535295865185007778820201182289461308]], false, [.poly (polyN [83, 90, 139, 146, 146, 153, 202, 209, 531, 538, 587, 587, 594, 594, 594, 594, 601, 601, 643, 650, 650, 650, 650, 657, 657, 657, 657, 664, 706, 713, 713, 720, 1035, 1042, 1042, 1049, 1091, 1098, 1098, 1098, 1098, 1105, 1105, 1105, 1105, 1112, 1154, 1154, 1161, 1161, 1161, 1161, 1168, 1168, 1217, 1224, 1546, 1553, 1602, 1609, 1609, 1616, 1665, 1672]) 0 21620 6 0 18446744073709551615, .lit 18])]
set_option maxRecDepth 100000 in
theorem i0_23_ok : allP Try.prog (Go.Proofs.Ytliimffphokmpaa.memo.stripsS) i0_23 = true := by kernel_rfl
noncomputable def i0_24 : List MemoP := [(19, [.row [49, 17, 17, 17], .row [42535295865126979339478698981903564860, 42535295865146322152592533048698863676, 42535295865165664965706367115494162492, 42535295865185007778820201182289461308]], false, [.poly (polyN [587, 594, 601, 650, 657, 713, 1098, 1105, 1161, 1609]) 0 10516 6 0 18446744073709551615, .lit 18])]
set_option maxRecDepth 100000 in
theorem i0_24_ok : allP Try.prog (Go.Proofs.Ytliimffphokmpaa.memo.stripsS) i0_24 = true := by kernel_rfl
noncomputable def i0_25 : List MemoP := [(19, [.row [33, 33, 33], .row [42535295865126979339478698981903564860, 42535295865146322152592533048698863676, 42535295865165664965706367115494162492, 42535295865185007778820201182289461308]], false, [.poly (polyN [146, 594, 650, 657, 1042, 1098, 1105, 1154, 1161, 1168]) 0 4780 6 0 18446744073709551615, .lit 18])]
set_option maxRecDepth 100000 in
theorem i0_25_ok : allP Try.prog (Go.Proofs.Ytliimffphokmpaa.memo.stripsS) i0_25 = true := by kernel_rfl
noncomputable def i0_26 : List MemoP := [(19, [.row [33, 33, 17, 17], .row [42535295865126979339478698981903564860, 42535295865146322152592533048698863676, 42535295865165664965706367115494162492, 42535295865185007778820201182289461308]], false, [.poly (polyN [594, 650, 657, 1098, 1105, 1161]) 0 7364 6 0 18446744073709551615, .lit 18])]
set_option maxRecDepth 100000 in
theorem i0_26_ok : allP Try.prog (Go.Proofs.Ytliimffphokmpaa.memo.stripsS) i0_26 = true := by kernel_rfl
noncomputable def i0_27 : List MemoP := [(19, [.row [33, 17, 17, 17, 17], .row [42535295865126979339478698981903564860, 42535295865146322152592533048698863676, 42535295865165664965706367115494162492, 42535295865185007778820201182289461308]], false, [.lit 1, .lit 18])]
set_option maxRecDepth 100000 in
theorem i0_27_ok : allP Try.prog (Go.Proofs.Ytliimffphokmpaa.memo.stripsS) i0_27 = true := by kernel_rfl
noncomputable def i0_28 : List MemoP := [(19, [.row [17, 17, 17, 17, 17, 17], .row [42535295865126979339478698981903564860, 42535295865146322152592533048698863676, 42535295865165664965706367115494162492, 42535295865185007778820201182289461308]], false, [.lit 1, .lit 18])]
set_option maxRecDepth 100000 in
theorem i0_28_ok : allP Try.prog (Go.Proofs.Ytliimffphokmpaa.memo.stripsS) i0_28 = true := by kernel_rfl
noncomputable def j0L : List MemoP := i0_0 ++ i0_1 ++ i0_2 ++ i0_3 ++ i0_4 ++ i0_5 ++ i0_6 ++ i0_7 ++ i0_8 ++ i0_9 ++ i0_10 ++ i0_11 ++ i0_12 ++ i0_13 ++ i0_14 ++ i0_15 ++ i0_16 ++ i0_17 ++ i0_18 ++ i0_19 ++ i0_20 ++ i0_21 ++ i0_22 ++ i0_23 ++ i0_24 ++ i0_25 ++ i0_26 ++ i0_27 ++ i0_28
theorem j0_all : ∀ e ∈ j0L, ∀ E, MemoPK E Try.prog e := by
  intro e he
  unfold j0L at he
  simp only [List.mem_append] at he
  rcases he with ((((((((((((((((((((((((((((he | he) | he) | he) | he) | he) | he) | he) | he) | he) | he) | he) | he) | he) | he) | he) | he) | he) | he) | he) | he) | he) | he) | he) | he) | he) | he) | he) | he)
  · exact allP_all (Go.Proofs.Ytliimffphokmpaa.memo.stripsS_always) _ i0_0_ok e he
  · exact allP_all (Go.Proofs.Ytliimffphokmpaa.memo.stripsS_always) _ i0_1_ok e he
  · exact allP_all (Go.Proofs.Ytliimffphokmpaa.memo.stripsS_always) _ i0_2_ok e he
  · exact allP_all (Go.Proofs.Ytliimffphokmpaa.memo.stripsS_always) _ i0_3_ok e he
  · exact allP_all (Go.Proofs.Ytliimffphokmpaa.memo.stripsS_always) _ i0_4_ok e he
  · exact allP_all (Go.Proofs.Ytliimffphokmpaa.memo.stripsS_always) _ i0_5_ok e he
  · exact allP_all (Go.Proofs.Ytliimffphokmpaa.memo.stripsS_always) _ i0_6_ok e he
  · exact allP_all (Go.Proofs.Ytliimffphokmpaa.memo.stripsS_always) _ i0_7_ok e he
  · exact allP_all (Go.Proofs.Ytliimffphokmpaa.memo.stripsS_always) _ i0_8_ok e he
  · exact allP_all (Go.Proofs.Ytliimffphokmpaa.memo.stripsS_always) _ i0_9_ok e he
  · exact allP_all (Go.Proofs.Ytliimffphokmpaa.memo.stripsS_always) _ i0_10_ok e he
  · exact allP_all (Go.Proofs.Ytliimffphokmpaa.memo.stripsS_always) _ i0_11_ok e he
  · exact allP_all (Go.Proofs.Ytliimffphokmpaa.memo.stripsS_always) _ i0_12_ok e he
  · exact allP_all (Go.Proofs.Ytliimffphokmpaa.memo.stripsS_always) _ i0_13_ok e he
  · exact allP_all (Go.Proofs.Ytliimffphokmpaa.memo.stripsS_always) _ i0_14_ok e he
  · exact allP_all (Go.Proofs.Ytliimffphokmpaa.memo.stripsS_always) _ i0_15_ok e he
  · exact allP_all (Go.Proofs.Ytliimffphokmpaa.memo.stripsS_always) _ i0_16_ok e he
  · exact allP_all (Go.Proofs.Ytliimffphokmpaa.memo.stripsS_always) _ i0_17_ok e he
  · exact allP_all (Go.Proofs.Ytliimffphokmpaa.memo.stripsS_always) _ i0_18_ok e he
  · exact allP_all (Go.Proofs.Ytliimffphokmpaa.memo.stripsS_always) _ i0_19_ok e he
  · exact allP_all (Go.Proofs.Ytliimffphokmpaa.memo.stripsS_always) _ i0_20_ok e he
  · exact allP_all (Go.Proofs.Ytliimffphokmpaa.memo.stripsS_always) _ i0_21_ok e he
  · exact allP_all (Go.Proofs.Ytliimffphokmpaa.memo.stripsS_always) _ i0_22_ok e he
  · exact allP_all (Go.Proofs.Ytliimffphokmpaa.memo.stripsS_always) _ i0_23_ok e he
  · exact allP_all (Go.Proofs.Ytliimffphokmpaa.memo.stripsS_always) _ i0_24_ok e he
  · exact allP_all (Go.Proofs.Ytliimffphokmpaa.memo.stripsS_always) _ i0_25_ok e he
  · exact allP_all (Go.Proofs.Ytliimffphokmpaa.memo.stripsS_always) _ i0_26_ok e he
  · exact allP_all (Go.Proofs.Ytliimffphokmpaa.memo.stripsS_always) _ i0_27_ok e he
  · exact allP_all (Go.Proofs.Ytliimffphokmpaa.memo.stripsS_always) _ i0_28_ok e he
noncomputable def j0S : Sums := onF 19 (memoP j0L)
theorem j0_always : Always Try.prog j0S := onF_always (memoP_always _ j0_all)
end Go.Proofs.Ytliimffphokmpaa.dhM
